/-
  What growth's steps come to, op by op, in the words of the plain answer.
  What growth's change does: the walks.
-/
import Derived.Test.YtcplpbelficbeaaGreatDoorRQM
import Derived.Test.YtcplpbelficbeaaGreatDoorRQS
import Derived.Test.YtcplpbelficbeaaGreatDoorRQN
namespace Go.Proofs.YtcplpbelficbeaaGreatDoor
open Go.RowKit

def chgF (t : Tr) (x : WTxn) : Int := if chgE t x ≠ 0 then chgE t x else if fullN (chgN t x) = true then 6 else 0
theorem appE_adm {t : Tr} {x : WTxn} (h : admE t x ≠ 0) : appE t x = admE t x := by rw [appE, if_pos h]
theorem appE_chg {t : Tr} {x : WTxn} (h : admE t x = 0) : appE t x = chgF t x := by rw [appE, if_neg (by omega), chgF]
theorem chgF_err {t : Tr} {x : WTxn} {E : Int} (h : chgE t x = E) (h0 : E ≠ 0) : chgF t x = E := by rw [chgF, if_pos (by omega), h]
theorem chgF_full {t : Tr} {x : WTxn} (h : chgE t x = 0) (hf : fullN (chgN t x) = true) : chgF t x = 6 := by rw [chgF, if_neg (by omega), if_pos hf]
theorem chgF_ok {t : Tr} {x : WTxn} (h : chgE t x = 0) (hf : fullN (chgN t x) = false) : chgF t x = 0 := by rw [chgF, if_neg (by omega), if_neg (by simp [hf])]

theorem bumpAt_length (p : List UInt8) (z more : Int) (ns : List Nd) : (bumpAt p z more ns).length = ns.length := by rw [bumpAt, List.length_map]
theorem mem_bumpAt {p : List UInt8} {z more : Int} {ns : List Nd} {n : Nd} (h : n ∈ bumpAt p z more ns) : ∃ m ∈ ns, n = (if m.p = p then bump z more m else m) := by
  rw [bumpAt] at h
  obtain ⟨m, hm, rfl⟩ := List.mem_map.1 h
  exact ⟨m, hm, rfl⟩
theorem bumpAt_mem {p : List UInt8} {z more : Int} {ns : List Nd} {m : Nd} (h : m ∈ ns) (hp : m.p = p) : bump z more m ∈ bumpAt p z more ns := by
  rw [bumpAt]
  exact List.mem_map.2 ⟨m, h, by rw [if_pos hp]⟩
theorem bump_full {p : List UInt8} {z more : Int} {ns : List Nd} {u : Nd} (h : u ∈ ns) (hp : u.p = p) (hk : u.k = 2147483647) : fullN (bumpAt p z more ns) = true :=
  fullN_true.2 ⟨_, bumpAt_mem h hp, by show 2147483647 < u.k + 1; omega⟩
theorem bump_room {p : List UInt8} {z more : Int} {ns : List Nd} {u : Nd} (ha : NAsc ns) (h : u ∈ ns) (hp : u.p = p) (hk : u.k < 2147483647) (hc : ∀ n ∈ ns, n.k ≤ 2147483647) : fullN (bumpAt p z more ns) = false := by
  rw [fullN_false]
  intro n hn
  obtain ⟨m, hm, rfl⟩ := mem_bumpAt hn
  split
  · rename_i e
    have : m = u := nasc_uniq ha hm h (by rw [e, hp])
    subst this
    show m.k + 1 ≤ _; omega
  · exact hc m hm

/-- what a step comes to -/
def Chg (F : Nat → Prop) (b : Nat) (t : Tr) (x : WTxn) (w : World) (e : Ending) (w' : World) : Prop :=
  e = .returned (.int .i64 (chgF t x)) ∧ Touch F w w' ∧ (chgF t x = 0 → ∃ vn vs ve, Grow w' F b x.z vn vs ve (chgN t x) (chgS t x) (chgV t x))
theorem Chg.no {F : Nat → Prop} {b : Nat} {t : Tr} {x : WTxn} {w w' : World} {e : Ending} {E : Int} (h : e = .returned (.int .i64 E) ∧ Touch F w w') (hE : chgF t x = E) (h0 : E ≠ 0) : Chg F b t x w e w' :=
  ⟨by rw [hE]; exact h.1, h.2, fun h' => by omega⟩

theorem cre_any (F : Nat → Prop) (b : Nat) (t : Tr) (vn vs ve : Value) (x : WTxn) (w : World) (h : Grow w F b x.z vn vs ve t.ns t.ss []) (hF : ∀ k, w.heap.size ≤ k → F k) (ha : admE t x = 0) (ho : x.o = 3) :
    Calls Tryz.prog 40 #[.pointer (some ⟨b, 0, none⟩), txnV x] w (Chg F b t x w) := by
  obtain ⟨g, hg, hz, h1, h2⟩ := adm_zero ha
  have f := fine_of hg
  obtain ⟨hp1, hp2⟩ := f.path (.inl ho)
  have hpl := goodB_le hp1
  have hdl := f.d
  have hdo := dirOf_len x.p
  have hE : chgE t x = creE t x := by rw [chgE, if_pos ho]
  have hN : chgN t x = addN x.z t.ns (newN x) := by rw [chgN, if_neg (by omega), if_pos ho]
  have hS : chgS t x = t.ss := by rw [chgS, if_neg (by omega), if_neg (by omega)]
  have hV : chgV t x = [⟨1, x.p⟩, ⟨4, dirOf x.p⟩] := by rw [chgV, if_neg (by omega), if_pos ho]
  have few := g.nod.few
  rcases nwhere x.p t.ns g.nod.asc with ⟨A, n, B, T⟩ | ⟨A, B, G⟩
  · refine (cre_twice F b x.z vn vs ve t.ns A B n t.ss [] x w h T few g.nod.asc).mono fun e w' q => Chg.no q ?_ (by decide)
    exact chgF_err (by rw [hE, creE, T.look, if_pos (by rfl)]) (by decide)
  · rcases nwhere (dirOf x.p) t.ns g.nod.asc with ⟨A', u, B', U⟩ | ⟨A', B', U⟩
    · by_cases hu : u.o = 0
      · have hum : u ∈ t.ns := by rw [U.eq]; simp
        have ku := g.nod.ok u hum
        have hkc := g.cap u hum
        have hkn := ku.kids
        have hkl : kidsN t.ns u.p ≤ t.ns.length := List.countP_le_length
        by_cases hw : x.w = 0 ∨ x.w = x.s
        · by_cases hf : t.ns.length = 400
          · have hc : creE t x = 6 := by
              rw [creE, G.look, if_neg (by simp), U.look]
              simp only
              rw [if_neg (by omega), if_neg (by rintro ⟨a, c⟩; rcases hw with e | e <;> omega), if_pos hf]
            by_cases hw0 : x.w = 0
            · exact (cre_full0 F b x.z vn vs ve t.ns A B A' B' u t.ss [] x w h G U hu hw0 hf).mono fun e w' q => Chg.no q (chgF_err (by rw [hE, hc]) (by decide)) (by decide)
            · exact (cre_full1 F b x.z vn vs ve t.ns A B A' B' u t.ss [] x w h G U hu hw0 (by omega) hf).mono fun e w' q => Chg.no q (chgF_err (by rw [hE, hc]) (by decide)) (by decide)
          · have hc : creE t x = 0 := by
              rw [creE, G.look, if_neg (by simp), U.look]
              simp only
              rw [if_neg (by omega), if_neg (by rintro ⟨a, c⟩; rcases hw with e | e <;> omega), if_neg hf]
            have gn : GoodN x.z t.ns t.ss := g.nod.mono (by omega)
            have hsm : x.s ∈ t.ss := h2 (by omega)
            have ga := add_good (x := newN x) gn G (by omega) hp1 hp2 ⟨u, hum, U.nm, hu⟩ f.d f.z.1 rfl rfl rfl rfl rfl rfl (by
              rcases hw with c | c
              · exact .inl c
              · exact .inr (by show x.w ∈ t.ss; rw [c]; exact hsm))
            have hins : insN t.ns (newN x) = A ++ newN x :: B := G.ins
            have hasc : NAsc (A ++ newN x :: B) := by
              have := (nasc_paths _).1 ga.asc
              rw [addN, bumpAt_paths, hins] at this
              exact (nasc_paths _).2 this
            have humI : u ∈ A ++ newN x :: B := by
              have := hum
              rw [G.eq] at this
              rcases List.mem_append.1 this with e | e <;> simp [e]
            obtain ⟨A2, B2, U2⟩ : ∃ A2 B2, NThere (A ++ newN x :: B) A2 u B2 (dirOf x.p) := by
              rw [← U.nm]
              exact there_of_look hasc (look_mem hasc humI)
            have hlen : (A ++ newN x :: B).length ≤ 400 := by rw [← hins, ← bumpAt_length (dirOf x.p) x.z 1]; exact ga.few
            by_cases hk : u.k = 2147483647
            · have hfu : chgF t x = 6 := chgF_full (by rw [hE, hc]) (by rw [hN, addN, hins]; exact bump_full humI U.nm hk)
              have P : ∀ W vn' ve', Grow W F b x.z vn' vs ve' (A ++ newN x :: B) t.ss ([] ++ [⟨1, x.p⟩]) → w.heap.size ≤ W.heap.size → Touch F w W → Calls Tryz.prog 61 #[.pointer (some ⟨b, 0, none⟩), .string ⟨(dirOf x.p).toArray⟩, .int .i64 1] W fun e w' => e = .returned (.int .i64 6) ∧ Touch F w w' := by
                intro W vn' ve' hG hs ht
                refine (parent_full F b x.z vn' vs ve' _ A2 B2 u t.ss _ (dirOf x.p) 1 W hG U2 hlen hk).mono ?_
                rintro e w' ⟨rfl, t'⟩
                exact ⟨rfl, ht.trans t'⟩
              exact (cre_main F b x.z vn vs ve t.ns A B A' B' u 6 _ t.ss [] x w h hF G U few hu hw (by omega) (by omega) (by omega) (by simp) P).mono fun e w' q => Chg.no q hfu (by decide)
            · have hcapI : ∀ n ∈ A ++ newN x :: B, n.k ≤ 2147483647 := by
                intro n hn
                rcases List.mem_append.1 hn with e | e
                · exact g.cap n (by rw [G.eq]; simp [e])
                · rcases List.mem_cons.1 e with rfl | e
                  · show (0 : Int) ≤ _; decide
                  · exact g.cap n (by rw [G.eq]; simp [e])
              have hfu : chgF t x = 0 := chgF_ok (by rw [hE, hc]) (by rw [hN, addN, hins]; exact bump_room hasc humI U.nm (by omega) hcapI)
              have P : ∀ W vn' ve', Grow W F b x.z vn' vs ve' (A ++ newN x :: B) t.ss ([] ++ [⟨1, x.p⟩]) → w.heap.size ≤ W.heap.size → Touch F w W → Calls Tryz.prog 61 #[.pointer (some ⟨b, 0, none⟩), .string ⟨(dirOf x.p).toArray⟩, .int .i64 1] W fun e w' => e = .returned (.int .i64 0) ∧ ((∃ vn' ve', Grow w' F b x.z vn' vs ve' (chgN t x) t.ss (chgV t x)) ∧ Touch F w w') := by
                intro W vn' ve' hG hs ht
                refine (parent_ok F b x.z vn' vs ve' _ A2 B2 u t.ss _ (dirOf x.p) 1 W hG (fun k hk => hF k (by omega)) U2 hlen ⟨ku.k0, by omega⟩ (by omega) (by omega) (by omega) (by simp)).mono ?_
                rintro e w' ⟨rfl, ve2, g', t'⟩
                refine ⟨rfl, ⟨vn', ve2, ?_⟩, ht.trans t'⟩
                have e1 : chgN t x = A2 ++ bump x.z 1 u :: B2 := by
                  rw [hN, addN, hins]
                  exact U2.bump x.z 1
                rw [e1, hV]
                exact g'
              have fin : ∀ (e : Ending) (w' : World), (e = .returned (.int .i64 0) ∧ ((∃ vn' ve', Grow w' F b x.z vn' vs ve' (chgN t x) t.ss (chgV t x)) ∧ Touch F w w')) → Chg F b t x w e w' := by
                rintro e w' ⟨rfl, ⟨vn', ve', g'⟩, t'⟩
                exact ⟨by rw [hfu], t', fun _ => ⟨vn', vs, ve', by rw [hS]; exact g'⟩⟩
              exact (cre_main F b x.z vn vs ve t.ns A B A' B' u 0 _ t.ss [] x w h hF G U few hu hw (by omega) (by omega) (by omega) (by simp) P).mono fin
        · have hw1 : x.w ≠ 0 := fun e => hw (.inl e)
          have hw2 : x.w ≠ x.s := fun e => hw (.inr e)
          refine (cre_ses F b x.z vn vs ve t.ns A B A' B' u t.ss [] x w h G U few hu hw1 hw2).mono fun e w' q => Chg.no q ?_ (by decide)
          refine chgF_err ?_ (by decide)
          rw [hE, creE, G.look, if_neg (by simp), U.look]
          simp only
          rw [if_neg (by omega), if_pos ⟨hw1, hw2⟩]
      · refine (cre_owned F b x.z vn vs ve t.ns A B A' B' u t.ss [] x w h G U few hu).mono fun e w' q => Chg.no q ?_ (by decide)
        refine chgF_err ?_ (by decide)
        rw [hE, creE, G.look, if_neg (by simp), U.look]
        simp only
        rw [if_pos hu]
    · refine (cre_none F b x.z vn vs ve t.ns A B A' B' t.ss [] x w h G U few).mono fun e w' q => Chg.no q ?_ (by decide)
      refine chgF_err ?_ (by decide)
      rw [hE, creE, G.look, if_neg (by simp), U.look]

theorem del_any (F : Nat → Prop) (b : Nat) (t : Tr) (vn vs ve : Value) (x : WTxn) (w : World) (h : Grow w F b x.z vn vs ve t.ns t.ss []) (hF : ∀ k, w.heap.size ≤ k → F k) (ha : admE t x = 0) (ho : x.o = 4) :
    Calls Tryz.prog 41 #[.pointer (some ⟨b, 0, none⟩), .string ⟨x.p.toArray⟩] w (Chg F b t x w) := by
  obtain ⟨g, hg, hz, h1, h2⟩ := adm_zero ha
  have f := fine_of hg
  obtain ⟨hp1, hp2⟩ := f.path (.inr ho)
  have hpl := goodB_le hp1
  have hdo := dirOf_len x.p
  have few := g.nod.few
  have hE : chgE t x = delE t x := by rw [chgE, if_neg (by omega), if_pos ho]
  have hN : chgN t x = rmN x.z t.ns x.p := by rw [chgN, if_neg (by omega), if_neg (by omega), if_pos ho]
  have hS : chgS t x = t.ss := by rw [chgS, if_neg (by omega), if_neg (by omega)]
  have hV : chgV t x = [⟨2, x.p⟩, ⟨4, dirOf x.p⟩] := by rw [chgV, if_neg (by omega), if_neg (by omega), if_pos ho]
  rcases nwhere x.p t.ns g.nod.asc with ⟨A, n, B, T⟩ | ⟨A, B, G⟩
  · have hn : n ∈ t.ns := by rw [T.eq]; simp
    by_cases hk : n.n = 0
    · have hd0 : delE t x = 0 := by rw [delE, T.look]; simp only; rw [if_neg (by omega)]
      have gn : GoodN x.z t.ns t.ss := g.nod.mono (by omega)
      obtain ⟨u, hu1, hu2, hu3, hu4, hu5⟩ := up_look gn hn (by rw [T.nm]; exact hp2)
      rw [T.nm] at hu1 hu3 hu4
      obtain ⟨A', B', T'⟩ := there_drop gn.asc T hu2 hu3 hu4
      have ku := gn.ok u hu2
      have hkc := g.cap u hu2
      have hkn := ku.kids
      have hkl : kidsN t.ns u.p ≤ t.ns.length := List.countP_le_length
      by_cases hf : u.k = 2147483647
      · refine (remove_full F b x.z vn vs ve t.ns A B A' B' n u t.ss [] x.p w h hF T T' few hk hf (by omega) (by simp)).mono fun e w' q => Chg.no q ?_ (by decide)
        exact chgF_full (by rw [hE, hd0]) (by rw [hN]; exact rm_full hu2 hu3 hu4 hf [] (by simp))
      · refine (remove_ok F b x.z vn vs ve t.ns A B A' B' n u t.ss [] x.p w h hF T T' few hk ⟨ku.k0, by omega⟩ (by omega) (by omega) (by omega) (by simp)).mono ?_
        rintro e w' ⟨rfl, vn', ve', g', t'⟩
        have hc : chgF t x = 0 := chgF_ok (by rw [hE, hd0]) (by rw [hN, fullN_false]; exact rm_cap gn.asc hu2 hu3 (by omega) g.cap)
        exact ⟨by rw [hc], t', fun _ => ⟨vn', vs, ve', by rw [hN, hS, hV]; exact g'⟩⟩
    · refine (remove_kids F b x.z vn vs ve t.ns A B n t.ss [] x.p w h T few hk).mono fun e w' q => Chg.no q ?_ (by decide)
      exact chgF_err (by rw [hE, delE, T.look]; simp only; rw [if_pos hk]) (by decide)
  · refine (remove_gap F b x.z vn vs ve t.ns A B t.ss [] x.p w h G few).mono fun e w' q => Chg.no q ?_ (by decide)
    exact chgF_err (by rw [hE, delE, G.look]) (by decide)

theorem set_any (F : Nat → Prop) (b : Nat) (t : Tr) (vn vs ve : Value) (x : WTxn) (w : World) (h : Grow w F b x.z vn vs ve t.ns t.ss []) (hF : ∀ k, w.heap.size ≤ k → F k) (ha : admE t x = 0) (ho : x.o = 5) :
    Calls Tryz.prog 42 #[.pointer (some ⟨b, 0, none⟩), txnV x] w (Chg F b t x w) := by
  obtain ⟨g, hg, hz, h1, h2⟩ := adm_zero ha
  have f := fine_of hg
  have hpl := goodB_le (f.path5 ho)
  have hdl := f.d
  have few := g.nod.few
  have hE : chgE t x = setE t x := by rw [chgE, if_neg (by omega), if_neg (by omega), if_pos ho]
  have hN : chgN t x = setAt x.p x.d x.v x.z t.ns := by rw [chgN, if_neg (by omega), if_neg (by omega), if_neg (by omega), if_pos ho]
  have hS : chgS t x = t.ss := by rw [chgS, if_neg (by omega), if_neg (by omega)]
  have hV : chgV t x = [⟨3, x.p⟩] := by rw [chgV, if_neg (by omega), if_neg (by omega), if_neg (by omega), if_pos ho]
  rcases nwhere x.p t.ns g.nod.asc with ⟨A, n, B, T⟩ | ⟨A, B, G⟩
  · have hn : n ∈ t.ns := by rw [T.eq]; simp
    have kn := g.nod.ok n hn
    by_cases hv : x.v = n.v + 1
    · refine (set_ok F b x.z vn vs ve t.ns A B n t.ss [] x w h hF T few ⟨kn.v0, kn.v1⟩ (by omega) (by omega) (by simp) hv).mono ?_
      rintro e w' ⟨rfl, ve', g', t'⟩
      have hc : chgF t x = 0 := chgF_ok (by rw [hE, setE, T.look]; simp only; rw [if_neg (by omega)]) (by
        rw [hN, fullN_false]
        intro m hm
        rw [setAt] at hm
        obtain ⟨m', hm', rfl⟩ := List.mem_map.1 hm
        split
        · exact g.cap m' hm'
        · exact g.cap m' hm')
      exact ⟨by rw [hc], t', fun _ => ⟨vn, vs, ve', by rw [hN, hS, hV, T.put]; exact g'⟩⟩
    · refine (set_ver F b x.z vn vs ve t.ns A B n t.ss [] x w h hF T few ⟨kn.v0, kn.v1⟩ (by omega) (by omega) (by simp) hv).mono fun e w' q => Chg.no q ?_ (by decide)
      exact chgF_err (by rw [hE, setE, T.look]; simp only; rw [if_pos hv]) (by decide)
  · refine (set_gap F b x.z vn vs ve t.ns A B t.ss [] x w h G few).mono fun e w' q => Chg.no q ?_ (by decide)
    exact chgF_err (by rw [hE, setE, G.look]) (by decide)

theorem clo_any (F : Nat → Prop) (b : Nat) (t : Tr) (vn vs ve : Value) (x : WTxn) (w : World) (h : Grow w F b x.z vn vs ve t.ns t.ss []) (hF : ∀ k, w.heap.size ≤ k → F k) (ha : admE t x = 0) (ho : x.o = 2) :
    Calls Tryz.prog 39 #[.pointer (some ⟨b, 0, none⟩), .int .i64 x.s] w (Chg F b t x w) := by
  obtain ⟨g, hg, hz, h1, h2⟩ := adm_zero ha
  have f := fine_of hg
  have gn : GoodN x.z t.ns t.ss := g.nod.mono (by omega)
  have hE : chgE t x = 0 := by rw [chgE, if_neg (by omega), if_neg (by omega), if_neg (by omega)]
  have hN : chgN t x = rmAll x.z t.ns (ownedP t.ns x.s) := by rw [chgN, if_pos ho]
  have hS : chgS t x = dropS t.ss x.s := by rw [chgS, if_neg (by omega), if_pos ho]
  have hV : chgV t x = rmEv (ownedP t.ns x.s) := by rw [chgV, if_pos ho]
  have hm := h2 (by omega)
  rcases swhere x.s t.ss g.ses.1 with ⟨A, B, T⟩ | ⟨A, B, G⟩
  · refine (close_any F b x.z vn vs ve t.ns t.ss A B t.ss x.s w h hF T (sasc_len g.ses) ⟨gn, rest_owned gn (by have := f.s; omega), g.cap⟩).mono ?_
    rintro e w' (⟨hf, rfl, t'⟩ | ⟨hf, rfl, vn', vs', ve', g', t'⟩)
    · exact Chg.no ⟨rfl, t'⟩ (chgF_full hE (by rw [hN]; exact hf)) (by decide)
    · have hc : chgF t x = 0 := chgF_ok hE (by rw [hN]; exact hf)
      exact ⟨by rw [hc], t', fun _ => ⟨vn', vs', ve', by rw [hN, hS, hV, T.drop]; exact g'⟩⟩
  · exact absurd hm G.not

theorem ope_any (F : Nat → Prop) (b : Nat) (t : Tr) (vn vs : Value) (x : WTxn) (w : World) (h : Grow w F b x.z vn vs (.slice none 0 0) t.ns t.ss []) (hF : ∀ k, w.heap.size ≤ k → F k) (ha : admE t x = 0) (ho : x.o = 1) :
    Calls Tryz.prog 38 #[.pointer (some ⟨b, 0, none⟩), .int .i64 x.s] w fun e w' => e = .returned (.tuple #[]) ∧ Chg F b t x w (.returned (.int .i64 0)) w' := by
  obtain ⟨g, hg, hz, h1, h2⟩ := adm_zero ha
  have f := fine_of hg
  have hE : chgE t x = 0 := by rw [chgE, if_neg (by omega), if_neg (by omega), if_neg (by omega)]
  have hN : chgN t x = t.ns := by rw [chgN, if_neg (by omega), if_neg (by omega), if_neg (by omega), if_neg (by omega)]
  have hS : chgS t x = insS t.ss x.s := by rw [chgS, if_pos ho]
  have hV : chgV t x = [] := by rw [chgV, if_neg (by omega), if_neg (by omega), if_neg (by omega), if_neg (by omega)]
  have hm := h1 ho
  rcases swhere x.s t.ss g.ses.1 with ⟨A, B, T⟩ | ⟨A, B, G⟩
  · exact absurd T.mem hm
  · have hl : t.ss.length ≤ 2147483646 := by
      have h3 := sasc_len (sasc_ins g.ses f.s hm)
      rw [G.ins] at h3
      rw [G.eq]
      simp at h3 ⊢; omega
    refine (gopen_ok F b x.z vn vs _ t.ns t.ss A B [] x.s w h hF G hl).mono ?_
    rintro e w' ⟨rfl, vs', g', t'⟩
    have hc : chgF t x = 0 := chgF_ok hE (by rw [hN, fullN_false]; exact g.cap)
    exact ⟨rfl, by rw [hc], t', fun _ => ⟨vn, vs', _, by rw [hN, hS, hV, G.ins]; exact g'⟩⟩

end Go.Proofs.YtcplpbelficbeaaGreatDoor

namespace Go.Proofs.YtcplpbelficbeaaGreatDoor
open Go.RowKit

theorem Chg.boxed {F : Nat → Prop} {b : Nat} {t : Tr} {x : WTxn} {w w' : World} {o : Obj} {e : Ending} (h : Chg F b t x (w.alloc o) e w') : Chg F b t x w e w' :=
  ⟨h.1, (Touch.of_below (allocB w o)).trans h.2.1, h.2.2⟩

set_option maxRecDepth 20000 in
set_option maxHeartbeats 2000000 in
theorem change_ope (F : Nat → Prop) (b : Nat) (t : Tr) (vn vs : Value) (x : WTxn) (w : World) (h : Grow w F b x.z vn vs (.slice none 0 0) t.ns t.ss []) (hF : ∀ k, w.heap.size ≤ k → F k) (ha : admE t x = 0) (ho : x.o = 1) :
    Calls Tryz.prog 19 #[.pointer (some ⟨b, 0, none⟩), txnV x] w (Chg F b t x w) := by
  have C := ope_any F b t vn vs x (w.alloc (.cells #[.int .i64 x.z, .int .i64 x.o, .int .i64 x.s, .string ⟨x.p.toArray⟩, .string ⟨x.d.toArray⟩, .int .i64 x.v, .int .i64 x.w] 32)) (h.next (allocB _ _)) (fun k hk => hF k (by simp at hk; omega)) ha ho
  clear h hF ha
  have HO := hide ho
  obtain ⟨xz, xo, xs, xp, xd, xv, xw⟩ := x
  unfold txnV
  simp only at C ho ⊢
  subst ho
  have HC := hide C
  clear C
  go_enter Tryz.func19, Tryz.ntmps19
  go_wp2_with fail
  refine (unhide HC).mono ?_
  rintro e w1 ⟨rfl, hc⟩
  have HQ := hide hc.boxed
  clear hc HC
  go_wp2_with fail
  go_ret
  exact unhide HQ

set_option maxRecDepth 20000 in
set_option maxHeartbeats 2000000 in
theorem change_clo (F : Nat → Prop) (b : Nat) (t : Tr) (vn vs : Value) (x : WTxn) (w : World) (h : Grow w F b x.z vn vs (.slice none 0 0) t.ns t.ss []) (hF : ∀ k, w.heap.size ≤ k → F k) (ha : admE t x = 0) (ho : x.o = 2) :
    Calls Tryz.prog 19 #[.pointer (some ⟨b, 0, none⟩), txnV x] w (Chg F b t x w) := by
  have C := clo_any F b t vn vs _ x (w.alloc (.cells #[.int .i64 x.z, .int .i64 x.o, .int .i64 x.s, .string ⟨x.p.toArray⟩, .string ⟨x.d.toArray⟩, .int .i64 x.v, .int .i64 x.w] 32)) (h.next (allocB _ _)) (fun k hk => hF k (by simp at hk; omega)) ha ho
  clear h hF ha
  have HO := hide ho
  obtain ⟨xz, xo, xs, xp, xd, xv, xw⟩ := x
  unfold txnV
  simp only at C ho ⊢
  subst ho
  have HC := hide C
  clear C
  go_enter Tryz.func19, Tryz.ntmps19
  go_wp2_with fail
  refine (unhide HC).mono ?_
  rintro e w1 hc
  obtain ⟨rfl, hc'⟩ := hc.boxed
  have HQ := hide hc'
  clear hc hc' HC
  go_wp2_with fail
  go_ret
  exact ⟨rfl, unhide HQ⟩

set_option maxRecDepth 20000 in
set_option maxHeartbeats 2000000 in
theorem change_cre (F : Nat → Prop) (b : Nat) (t : Tr) (vn vs : Value) (x : WTxn) (w : World) (h : Grow w F b x.z vn vs (.slice none 0 0) t.ns t.ss []) (hF : ∀ k, w.heap.size ≤ k → F k) (ha : admE t x = 0) (ho : x.o = 3) :
    Calls Tryz.prog 19 #[.pointer (some ⟨b, 0, none⟩), txnV x] w (Chg F b t x w) := by
  have C := cre_any F b t vn vs _ x (w.alloc (.cells #[.int .i64 x.z, .int .i64 x.o, .int .i64 x.s, .string ⟨x.p.toArray⟩, .string ⟨x.d.toArray⟩, .int .i64 x.v, .int .i64 x.w] 32)) (h.next (allocB _ _)) (fun k hk => hF k (by simp at hk; omega)) ha ho
  clear h hF ha
  have HO := hide ho
  obtain ⟨xz, xo, xs, xp, xd, xv, xw⟩ := x
  unfold txnV at C ⊢
  simp only at C ho ⊢
  subst ho
  have HC := hide C
  clear C
  go_enter Tryz.func19, Tryz.ntmps19
  go_wp2_with fail
  refine (unhide HC).mono ?_
  rintro e w1 hc
  obtain ⟨rfl, hc'⟩ := hc.boxed
  have HQ := hide hc'
  clear hc hc' HC
  go_wp2_with fail
  go_ret
  exact ⟨rfl, unhide HQ⟩

set_option maxRecDepth 20000 in
set_option maxHeartbeats 2000000 in
theorem change_del (F : Nat → Prop) (b : Nat) (t : Tr) (vn vs : Value) (x : WTxn) (w : World) (h : Grow w F b x.z vn vs (.slice none 0 0) t.ns t.ss []) (hF : ∀ k, w.heap.size ≤ k → F k) (ha : admE t x = 0) (ho : x.o = 4) :
    Calls Tryz.prog 19 #[.pointer (some ⟨b, 0, none⟩), txnV x] w (Chg F b t x w) := by
  have C := del_any F b t vn vs _ x (w.alloc (.cells #[.int .i64 x.z, .int .i64 x.o, .int .i64 x.s, .string ⟨x.p.toArray⟩, .string ⟨x.d.toArray⟩, .int .i64 x.v, .int .i64 x.w] 32)) (h.next (allocB _ _)) (fun k hk => hF k (by simp at hk; omega)) ha ho
  clear h hF ha
  have HO := hide ho
  obtain ⟨xz, xo, xs, xp, xd, xv, xw⟩ := x
  unfold txnV
  simp only at C ho ⊢
  subst ho
  have HC := hide C
  clear C
  go_enter Tryz.func19, Tryz.ntmps19
  go_wp2_with fail
  refine (unhide HC).mono ?_
  rintro e w1 hc
  obtain ⟨rfl, hc'⟩ := hc.boxed
  have HQ := hide hc'
  clear hc hc' HC
  go_wp2_with fail
  go_ret
  exact ⟨rfl, unhide HQ⟩

set_option maxRecDepth 20000 in
set_option maxHeartbeats 2000000 in
theorem change_set (F : Nat → Prop) (b : Nat) (t : Tr) (vn vs : Value) (x : WTxn) (w : World) (h : Grow w F b x.z vn vs (.slice none 0 0) t.ns t.ss []) (hF : ∀ k, w.heap.size ≤ k → F k) (ha : admE t x = 0) (ho : x.o = 5) :
    Calls Tryz.prog 19 #[.pointer (some ⟨b, 0, none⟩), txnV x] w (Chg F b t x w) := by
  have C := set_any F b t vn vs _ x (w.alloc (.cells #[.int .i64 x.z, .int .i64 x.o, .int .i64 x.s, .string ⟨x.p.toArray⟩, .string ⟨x.d.toArray⟩, .int .i64 x.v, .int .i64 x.w] 32)) (h.next (allocB _ _)) (fun k hk => hF k (by simp at hk; omega)) ha ho
  clear h hF ha
  have HO := hide ho
  obtain ⟨xz, xo, xs, xp, xd, xv, xw⟩ := x
  unfold txnV at C ⊢
  simp only at C ho ⊢
  subst ho
  have HC := hide C
  clear C
  go_enter Tryz.func19, Tryz.ntmps19
  go_wp2_with fail
  refine (unhide HC).mono ?_
  rintro e w1 hc
  obtain ⟨rfl, hc'⟩ := hc.boxed
  have HQ := hide hc'
  clear hc hc' HC
  go_wp2_with fail
  go_ret
  exact ⟨rfl, unhide HQ⟩

theorem change_any (F : Nat → Prop) (b : Nat) (t : Tr) (vn vs : Value) (x : WTxn) (w : World) (h : Grow w F b x.z vn vs (.slice none 0 0) t.ns t.ss []) (hF : ∀ k, w.heap.size ≤ k → F k) (ha : admE t x = 0) :
    Calls Tryz.prog 19 #[.pointer (some ⟨b, 0, none⟩), txnV x] w (Chg F b t x w) := by
  have f := (fine_of (adm_zero ha).2.1).op
  by_cases h1 : x.o = 1
  · exact change_ope F b t vn vs x w h hF ha h1
  · by_cases h2 : x.o = 2
    · exact change_clo F b t vn vs x w h hF ha h2
    · by_cases h3 : x.o = 3
      · exact change_cre F b t vn vs x w h hF ha h3
      · by_cases h4 : x.o = 4
        · exact change_del F b t vn vs x w h hF ha h4
        · exact change_set F b t vn vs x w h hF ha (by omega)

end Go.Proofs.YtcplpbelficbeaaGreatDoor
