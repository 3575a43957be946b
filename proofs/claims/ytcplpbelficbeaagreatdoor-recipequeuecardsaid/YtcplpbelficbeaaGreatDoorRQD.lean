/-
  The answer of Apply, as plain lists; that what comes of a good tree is a good one; a session's nodes, taken away one by one. No program is named here.
  What path.opening, path.Under and path.Join answer, for all texts: the walks.
  What path.Split answers, for every text: the last slash, and the walk.
  How a disk lies in memory: a row of files, three texts each; a row of the call's own; what stays when other memory turns.
-/
import Derived.Test.YtcplpbelficbeaaGreatDoorRQC
import Derived.Test.YtcplpbelficbeaaGreatDoorRQB
import Derived.Lib.LastIndexByte
import Derived.Lib.QuietBelow
import Derived.Test.YtcplpbelficbeaaGreatDoorRQA
import Derived.Test.YtcplpbelficbeaaGreatDoorProg
import Derived.WalkKit
import Derived.Laws.AppendOwn
import Derived.Deep.LoopGhost
namespace Go.Proofs.YtcplpbelficbeaaGreatDoor
open Go.RowKit

def ownedP (ns : List Nd) (s : Int) : List (List UInt8) := (ns.filter fun n => decide (n.o = s)).map Nd.p
def rmAll (z : Int) (ns : List Nd) (ps : List (List UInt8)) : List Nd := ps.foldl (rmN z) ns
def rmEv (ps : List (List UInt8)) : List Ev := ps.flatMap fun p => [⟨2, p⟩, ⟨4, dirOf p⟩]
def fullN (ns : List Nd) : Bool := ns.any fun n => decide (2147483647 < n.k)
def newN (x : WTxn) : Nd := ⟨x.p, x.d, x.z, x.z, x.z, 0, 0, x.w, 0⟩
noncomputable def admE (t : Tr) (x : WTxn) : Int :=
  if goodT t = false then 3 else if gdE x ≠ 0 then gdE x else if x.z ≤ t.z then 13 else if x.o = 1 ∧ x.s ∈ t.ss then 8 else if x.o ≠ 1 ∧ x.s ∉ t.ss then 12 else 0
def creE (t : Tr) (x : WTxn) : Int := if (lookN t.ns x.p).isSome = true then 8 else (match lookN t.ns (dirOf x.p) with
  | none => 7
  | some u => if u.o ≠ 0 then 11 else if x.w ≠ 0 ∧ x.w ≠ x.s then 12 else if t.ns.length = 400 then 6 else 0)
def delE (t : Tr) (x : WTxn) : Int := match lookN t.ns x.p with
  | none => 7
  | some n => if n.n ≠ 0 then 10 else 0
def setE (t : Tr) (x : WTxn) : Int := match lookN t.ns x.p with
  | none => 7
  | some n => if x.v ≠ n.v + 1 then 9 else 0
def chgE (t : Tr) (x : WTxn) : Int := if x.o = 3 then creE t x else if x.o = 4 then delE t x else if x.o = 5 then setE t x else 0
def chgN (t : Tr) (x : WTxn) : List Nd := if x.o = 2 then rmAll x.z t.ns (ownedP t.ns x.s) else if x.o = 3 then addN x.z t.ns (newN x) else if x.o = 4 then rmN x.z t.ns x.p else if x.o = 5 then setAt x.p x.d x.v x.z t.ns else t.ns
def chgS (t : Tr) (x : WTxn) : List Int := if x.o = 1 then insS t.ss x.s else if x.o = 2 then dropS t.ss x.s else t.ss
def chgV (t : Tr) (x : WTxn) : List Ev := if x.o = 2 then rmEv (ownedP t.ns x.s) else if x.o = 3 then [⟨1, x.p⟩, ⟨4, dirOf x.p⟩] else if x.o = 4 then [⟨2, x.p⟩, ⟨4, dirOf x.p⟩] else if x.o = 5 then [⟨3, x.p⟩] else []
noncomputable def appE (t : Tr) (x : WTxn) : Int := if admE t x ≠ 0 then admE t x else if chgE t x ≠ 0 then chgE t x else if fullN (chgN t x) = true then 6 else 0
noncomputable def appT (t : Tr) (x : WTxn) : Tr := if appE t x = 0 then ⟨x.z, chgN t x, chgS t x⟩ else tr0
noncomputable def appV (t : Tr) (x : WTxn) : List Ev := if appE t x = 0 then chgV t x else []

theorem fullN_false {ns : List Nd} : fullN ns = false ↔ ∀ n ∈ ns, n.k ≤ 2147483647 := by
  rw [fullN, List.any_eq_false]
  constructor
  · intro h n hn; have := h n hn; simp at this; omega
  · intro h n hn; have := h n hn; simp; omega
theorem fullN_true {ns : List Nd} : fullN ns = true ↔ ∃ n ∈ ns, 2147483647 < n.k := by
  rw [fullN, List.any_eq_true]
  constructor
  · rintro ⟨n, hn, h⟩; exact ⟨n, hn, by simpa using h⟩
  · rintro ⟨n, hn, h⟩; exact ⟨n, hn, by simpa using h⟩

/- one of a row of removals -/
structure Rest (s : Int) (cur : List Nd) (ps : List (List UInt8)) : Prop where
  s0 : s ≠ 0
  nd : ps.Nodup
  there : ∀ p ∈ ps, ∃ n ∈ cur, n.p = p ∧ n.o = s
theorem mem_rm {z : Int} {ns : List Nd} {p : List UInt8} {n : Nd} (h : n ∈ rmN z ns p) : ∃ m ∈ ns, m.p ≠ p ∧ n = (if m.p = dirOf p then bump z (-1) m else m) := by
  rw [rmN, bumpAt] at h
  obtain ⟨m, hm, rfl⟩ := List.mem_map.1 h
  rw [dropN] at hm
  obtain ⟨h1, h2⟩ := List.mem_filter.1 hm
  exact ⟨m, h1, by simpa using h2, rfl⟩
theorem rm_mem {z : Int} {ns : List Nd} {p : List UInt8} {m : Nd} (h : m ∈ ns) (hp : m.p ≠ p) : (if m.p = dirOf p then bump z (-1) m else m) ∈ rmN z ns p := by
  rw [rmN, bumpAt]
  exact List.mem_map.2 ⟨m, by rw [dropN]; exact List.mem_filter.2 ⟨h, by simpa using hp⟩, rfl⟩
theorem bump_o (q : List UInt8) (z more : Int) (n : Nd) : (if n.p = q then bump z more n else n).o = n.o := by split <;> rfl
theorem bump_d (q : List UInt8) (z more : Int) (n : Nd) : (if n.p = q then bump z more n else n).d = n.d := by split <;> rfl
theorem bump_v (q : List UInt8) (z more : Int) (n : Nd) : (if n.p = q then bump z more n else n).v = n.v := by split <;> rfl
theorem bump_k (q : List UInt8) (z more : Int) (n : Nd) : n.k ≤ (if n.p = q then bump z more n else n).k := by
  split
  · show n.k ≤ n.k + 1; omega
  · exact Int.le_refl _
theorem rest_step {z s : Int} {cur : List Nd} {ss : List Int} {p : List UInt8} {ps : List (List UInt8)} (g : GoodN z cur ss) (R : Rest s cur (p :: ps)) :
    ∃ A n B u, NThere cur A n B p ∧ n.o = s ∧ n.n = 0 ∧ p ≠ [47] ∧ goodB p = true ∧ lookN cur (dirOf p) = some u ∧ u ∈ cur ∧ u.p = dirOf p ∧ u.p ≠ p ∧ u.o = 0 ∧ u.p ∉ ps ∧ GoodN z (rmN z cur p) ss ∧ Rest s (rmN z cur p) ps := by
  obtain ⟨n, hn, rfl, ho⟩ := R.there p (by simp)
  obtain ⟨A, B, T⟩ := there_of_look g.asc (look_mem g.asc hn)
  have h0 : n.o ≠ 0 := by rw [ho]; exact R.s0
  have hk : n.n = 0 := by
    rcases (g.ok n hn).own with h | ⟨_, h⟩
    · exact absurd h h0
    · exact h
  have hr := root_p g hn h0
  obtain ⟨u, hu1, hu2, hu3, hu4, hu5⟩ := up_look g hn hr
  refine ⟨A, n, B, u, T, ho, hk, hr, (g.ok n hn).path, hu1, hu2, hu3, hu4, hu5, ?_, rm_good g T hk hr, R.s0, (List.nodup_cons.1 R.nd).2, ?_⟩
  · intro hm
    obtain ⟨m, hm1, hm2, hm3⟩ := R.there u.p (by simp [hm])
    have : m = u := nasc_uniq g.asc hm1 hu2 hm2
    rw [this, hu5] at hm3
    exact R.s0 hm3.symm
  · intro q hq
    obtain ⟨m, hm1, hm2, hm3⟩ := R.there q (by simp [hq])
    have hne : m.p ≠ n.p := by
      rw [hm2]
      rintro rfl
      exact (List.nodup_cons.1 R.nd).1 hq
    exact ⟨_, rm_mem hm1 hne, by rw [bump_p]; exact hm2, by rw [bump_o]; exact hm3⟩
theorem rest_owned {z s : Int} {ns : List Nd} {ss : List Int} (g : GoodN z ns ss) (h : s ≠ 0) : Rest s ns (ownedP ns s) := by
  refine ⟨h, ?_, fun p hp => ?_⟩
  · have h1 : (ns.filter fun n => decide (n.o = s)).Pairwise fun a b => bl a.p b.p = true := g.asc.filter _
    rw [List.Nodup, ownedP, List.pairwise_map]
    exact h1.imp fun h => bl_ne h
  · obtain ⟨n, hn, rfl⟩ := List.mem_map.1 hp
    obtain ⟨h1, h2⟩ := List.mem_filter.1 hn
    exact ⟨n, h1, rfl, by simpa using h2⟩
theorem rmAll_good {z s : Int} {ss : List Int} : ∀ (ps : List (List UInt8)) (cur : List Nd), GoodN z cur ss → Rest s cur ps → GoodN z (rmAll z cur ps) ss
  | [], _, g, _ => g
  | p :: ps, cur, g, R => by
    obtain ⟨_, _, _, _, _, _, _, _, _, _, _, _, _, _, _, g', R'⟩ := rest_step g R
    exact rmAll_good ps (rmN z cur p) g' R'
theorem mem_rmAll {z : Int} : ∀ (ps : List (List UInt8)) (cur : List Nd) (n : Nd), n ∈ rmAll z cur ps → ∃ m ∈ cur, m.p = n.p ∧ m.o = n.o ∧ m.d = n.d ∧ m.v = n.v ∧ m.p ∉ ps
  | [], cur, n, h => ⟨n, h, rfl, rfl, rfl, rfl, by simp⟩
  | p :: ps, cur, n, h => by
    obtain ⟨m, h1, h2, h3, h4, h5, h6⟩ := mem_rmAll ps (rmN z cur p) n h
    obtain ⟨m', h1', hne, rfl⟩ := mem_rm h1
    rw [bump_p] at h2 h6
    rw [bump_o] at h3
    rw [bump_d] at h4
    rw [bump_v] at h5
    exact ⟨m', h1', h2, h3, h4, h5, by simp [hne, h6]⟩
theorem rmAll_mem {z : Int} : ∀ (ps : List (List UInt8)) (cur : List Nd) (m : Nd), m ∈ cur → m.p ∉ ps → ∃ n ∈ rmAll z cur ps, n.p = m.p ∧ n.o = m.o ∧ n.d = m.d ∧ n.v = m.v ∧ m.k ≤ n.k
  | [], _, m, h, _ => ⟨m, h, rfl, rfl, rfl, rfl, Int.le_refl _⟩
  | p :: ps, cur, m, h, hp => by
    simp only [List.mem_cons, not_or] at hp
    have h' := rm_mem (z := z) h hp.1
    obtain ⟨n, h1, h2, h3, h4, h5, h6⟩ := rmAll_mem ps (rmN z cur p) _ h' (by rw [bump_p]; exact hp.2)
    exact ⟨n, h1, by rw [h2, bump_p], by rw [h3, bump_o], by rw [h4, bump_d], by rw [h5, bump_v], Int.le_trans (bump_k _ _ _ _) h6⟩
theorem full_stays {z : Int} (ps : List (List UInt8)) (cur : List Nd) (h : ∃ u ∈ cur, u.p ∉ ps ∧ 2147483647 < u.k) : fullN (rmAll z cur ps) = true := by
  obtain ⟨u, h1, h2, h3⟩ := h
  obtain ⟨n, hn, _, _, _, _, hk⟩ := rmAll_mem (z := z) ps cur u h1 h2
  exact fullN_true.2 ⟨n, hn, by omega⟩
theorem rm_cap {z : Int} {ns : List Nd} {p : List UInt8} {u : Nd} (ha : NAsc ns) (hu : u ∈ ns) (hp : u.p = dirOf p) (hk : u.k < 2147483647) (h : ∀ n ∈ ns, n.k ≤ 2147483647) : ∀ n ∈ rmN z ns p, n.k ≤ 2147483647 := by
  intro n hn
  obtain ⟨m, hm, _, rfl⟩ := mem_rm hn
  split
  · rename_i e
    have : m = u := nasc_uniq ha hm hu (by rw [e, hp])
    subst this
    show m.k + 1 ≤ _; omega
  · exact h m hm
/-- a parent that has no room -/
theorem rm_full {z : Int} {ns : List Nd} {p : List UInt8} {u : Nd} (hu : u ∈ ns) (hp : u.p = dirOf p) (hne : u.p ≠ p) (hk : u.k = 2147483647) (ps : List (List UInt8)) (hps : u.p ∉ ps) : fullN (rmAll z (rmN z ns p) ps) = true :=
  full_stays ps _ ⟨bump z (-1) u, by have := rm_mem (z := z) hu hne; rwa [if_pos hp] at this, hps, by show 2147483647 < u.k + 1; omega⟩

theorem rmAll_split (z : Int) (ns : List Nd) (ps : List (List UInt8)) (k : Nat) : rmAll z ns ps = rmAll z (rmAll z ns (ps.take k)) (ps.drop k) := by
  rw [rmAll, rmAll, rmAll, ← List.foldl_append, List.take_append_drop]
theorem rmAll_next (z : Int) (ns : List Nd) {ps : List (List UInt8)} {k : Nat} {p : List UInt8} (h : ps[k]? = some p) : rmAll z ns (ps.take (k + 1)) = rmN z (rmAll z ns (ps.take k)) p := by
  rw [rmAll, List.take_add_one, h, List.foldl_append]
  rfl
theorem rmEv_next {ps : List (List UInt8)} {k : Nat} {p : List UInt8} (h : ps[k]? = some p) : rmEv (ps.take (k + 1)) = rmEv (ps.take k) ++ [⟨2, p⟩, ⟨4, dirOf p⟩] := by
  rw [rmEv, List.take_add_one, h, List.flatMap_append]
  rfl
theorem rmEv_len (ps : List (List UInt8)) : (rmEv ps).length = 2 * ps.length := by
  induction ps with
  | nil => rfl
  | cons p ps ih =>
    rw [rmEv] at ih
    simp only [rmEv, List.flatMap_cons, List.length_append, List.length_cons, List.length_nil, ih]
    omega
theorem dirOf_len (p : List UInt8) : (dirOf p).length ≤ 200 := by
  cases hgb : goodB p with
  | false => rw [dirOf_bad hgb]; simp
  | true =>
    by_cases hr : p = [47]
    · rw [hr, dirOf_root]; simp
    · obtain ⟨a, c, he, hc⟩ := good_cut hgb
      have := goodB_le hgb
      rw [he] at hgb hr this ⊢
      rw [dirOf_cut hgb hr hc, nupL]
      split
      · simp
      · simp at this; omega
theorem there_drop {cur A B : List Nd} {n u : Nd} {p q : List UInt8} (ha : NAsc cur) (T : NThere cur A n B p) (hu : u ∈ cur) (hq : u.p = q) (hne : u.p ≠ p) : ∃ A' B', NThere (A ++ B) A' u B' q := by
  have hm : u ∈ A ++ B := by rw [← T.drop, dropN]; exact List.mem_filter.2 ⟨hu, by simpa using hne⟩
  have hs : NAsc (A ++ B) := ha.sublist (by rw [T.eq]; exact (List.Sublist.refl A).append (List.sublist_cons_self n B))
  rw [← hq]
  exact there_of_look hs (look_mem hs hm)

/- what is known behind the first checks -/
theorem adm_zero {t : Tr} {x : WTxn} (h : admE t x = 0) : GoodT t ∧ gdE x = 0 ∧ t.z < x.z ∧ (x.o = 1 → x.s ∉ t.ss) ∧ (x.o ≠ 1 → x.s ∈ t.ss) := by
  unfold admE at h
  split at h
  · omega
  · rename_i h1
    split at h
    · omega
    · rename_i h2
      split at h
      · omega
      · rename_i h3
        split at h
        · omega
        · rename_i h4
          split at h
          · omega
          · rename_i h5
            refine ⟨goodT_true.1 (by simpa using h1), by omega, by omega, fun e hm => h4 ⟨e, hm⟩, fun e => ?_⟩
            by_cases hm : x.s ∈ t.ss
            · exact hm
            · exact absurd ⟨e, hm⟩ h5
theorem app_zero {t : Tr} {x : WTxn} (h : appE t x = 0) : admE t x = 0 ∧ chgE t x = 0 ∧ fullN (chgN t x) = false := by
  unfold appE at h
  split at h
  · rename_i h1; exact absurd h h1
  · rename_i h1
    split at h
    · rename_i h2; exact absurd h h2
    · rename_i h2
      split at h
      · omega
      · rename_i h3; exact ⟨by omega, by omega, by simpa using h3⟩
theorem cre_zero {t : Tr} {x : WTxn} (h : creE t x = 0) : lookN t.ns x.p = none ∧ (∃ u, lookN t.ns (dirOf x.p) = some u ∧ u.o = 0) ∧ (x.w = 0 ∨ x.w = x.s) ∧ t.ns.length ≠ 400 := by
  unfold creE at h
  split at h
  · omega
  · rename_i h1
    split at h
    · omega
    · rename_i u hu
      split at h
      · omega
      · rename_i h2
        split at h
        · omega
        · rename_i h3
          split at h
          · omega
          · rename_i h4
            refine ⟨by simpa using h1, ⟨u, hu, by omega⟩, ?_, h4⟩
            by_cases e : x.w = 0
            · exact .inl e
            · by_cases e' : x.w = x.s
              · exact .inr e'
              · exact absurd ⟨e, e'⟩ h3
theorem del_zero {t : Tr} {x : WTxn} (h : delE t x = 0) : ∃ n, lookN t.ns x.p = some n ∧ n.n = 0 := by
  unfold delE at h
  split at h
  · omega
  · rename_i n hn
    split at h
    · omega
    · exact ⟨n, hn, by omega⟩
structure Fine (x : WTxn) : Prop where
  op : 1 ≤ x.o ∧ x.o ≤ 5
  z : 0 ≤ x.z ∧ zGood x.z = true
  s : 1 ≤ x.s ∧ x.s ≤ 2147483647
  v : 0 ≤ x.v ∧ x.v ≤ 2147483647
  w : 0 ≤ x.w ∧ x.w ≤ 2147483647
  d : x.d.length ≤ 256
  path : x.o = 3 ∨ x.o = 4 → goodB x.p = true ∧ x.p ≠ [47]
  path5 : x.o = 5 → goodB x.p = true
  data : x.o ≠ 3 → x.o ≠ 5 → x.d = []

end Go.Proofs.YtcplpbelficbeaaGreatDoor

namespace Go.Proofs.YtcplpbelficbeaaGreatDoor
open Go.RowKit Go.Shelf

/-- what all paths below a path begin with -/
def openL (l : List UInt8) : List UInt8 := if l = [47] then [47] else l ++ [47]
theorem openL_root : openL [47] = [47] := by rw [openL, if_pos rfl]
theorem openL_other {l : List UInt8} (h : l ≠ [47]) : openL l = l ++ [47] := by rw [openL, if_neg h]
theorem openL_length (l : List UInt8) : (openL l).length ≤ l.length + 1 := by
  unfold openL
  split
  · simp
  · simp
set_option maxRecDepth 10000 in
set_option maxHeartbeats 400000 in
theorem opening_any (l : List UInt8) (w : World) (hl : l.length ≤ 140737488355328) :
    Calls Tryz.prog 89 #[.string ⟨l.toArray⟩] w fun e w' => e = .returned (.string ⟨(openL l).toArray⟩) ∧ w' = w := by
  have hz : (ByteArray.mk l.toArray).size = l.length := Lib.size_eq ⟨l.toArray⟩
  by_cases h : l = [47]
  · subst h
    go_enter Tryz.func89, Tryz.ntmps89
    go_wp2
    go_ret
    exact ⟨ret_str (by rw [openL_root]), rfl⟩
  · have h1 : (l == [47]) = false := by simpa using h
    have Ho := hide (openL_other h)
    clear h
    go_enter Tryz.func89, Tryz.ntmps89
    go_wp2
    go_ret
    exact ⟨ret_str (by rw [unhide Ho]; exact cat_one l [47]), rfl⟩

/-- what Join answers: the path, or nothing; and the error's number -/
def joinS (d m : List UInt8) : List UInt8 := if goodB d && namedB m then (if (openL d ++ m).length ≤ 200 then openL d ++ m else []) else []
def joinE (d m : List UInt8) : Int := if goodB d && namedB m then (if (openL d ++ m).length ≤ 200 then 0 else 1) else 2
theorem join_bad {d m : List UInt8} (h : (goodB d && namedB m) = false) : joinS d m = [] ∧ joinE d m = 2 := by
  unfold joinS joinE
  rw [h]
  exact ⟨rfl, rfl⟩
theorem join_long {d m : List UInt8} (h : (goodB d && namedB m) = true) (h1 : 200 < (openL d ++ m).length) : joinS d m = [] ∧ joinE d m = 1 := by
  unfold joinS joinE
  rw [if_pos h, if_pos h, if_neg (by omega), if_neg (by omega)]
  exact ⟨rfl, rfl⟩
theorem join_fits {d m : List UInt8} (h : (goodB d && namedB m) = true) (h1 : (openL d ++ m).length ≤ 200) : joinS d m = openL d ++ m ∧ joinE d m = 0 := by
  unfold joinS joinE
  rw [if_pos h, if_pos h, if_pos h1, if_pos h1]
  exact ⟨rfl, rfl⟩
set_option maxRecDepth 10000 in
set_option maxHeartbeats 1000000 in
theorem join_any (d m : List UInt8) (w : World) (hm : m.length ≤ 140737488355328) :
    Calls Tryz.prog 73 #[.string ⟨d.toArray⟩, .string ⟨m.toArray⟩] w fun e w' => e = .returned (.tuple #[.string ⟨(joinS d m).toArray⟩, .int .i64 (joinE d m)]) ∧ Below w.heap.size w w' := by
  cases hd : goodB d
  · obtain ⟨h1, h2⟩ := join_bad (d := d) (m := m) (by rw [hd]; rfl)
    have H1 := hide h1
    have H2 := hide h2
    have Hd := hide hd
    clear h1 h2 hd
    go_enter Tryz.func73, Tryz.ntmps73
    go_wp2_with fail
    refine (good_any _ _).mono ?_
    rintro e w1 ⟨rfl, hb1⟩
    rw [show (ByteArray.mk d.toArray).data.toList = d from rfl, unhide Hd]
    go_wp2_with fail
    go_ret2
    exact ⟨ret_strE (by rw [unhide H1]) (unhide H2).symm, hb1⟩
  cases hn : namedB m
  · obtain ⟨h1, h2⟩ := join_bad (d := d) (m := m) (by rw [hn, Bool.and_false])
    have H1 := hide h1
    have H2 := hide h2
    have Hd := hide hd
    have Hn := hide hn
    clear h1 h2 hd hn
    go_enter Tryz.func73, Tryz.ntmps73
    go_wp2_with fail
    refine (good_any _ _).mono ?_
    rintro e w1 ⟨rfl, hb1⟩
    rw [show (ByteArray.mk d.toArray).data.toList = d from rfl, unhide Hd]
    go_wp2_with fail
    refine (named_any _ _ (size_le_maxLen hm)).mono ?_
    rintro e w2 ⟨rfl, rfl⟩
    rw [show (ByteArray.mk m.toArray).data.toList = m from rfl, unhide Hn]
    go_wp2_with fail
    go_ret2
    exact ⟨ret_strE (by rw [unhide H1]) (unhide H2).symm, hb1⟩
  have hdl := goodB_le hd
  have hml := namedB_le hn
  have hol := openL_length d
  have hdn : (goodB d && namedB m) = true := by rw [hd, hn]; rfl
  have Hd := hide hd
  have Hn := hide hn
  clear hd hn
  generalize hO : openL d = O at hol
  have HO := hide hO
  clear hO
  have hz : ((ByteArray.mk O.toArray) ++ (ByteArray.mk m.toArray)).size = O.length + m.length := by rw [cat_one, Lib.size_eq]; show (O ++ m).length = _; simp
  by_cases hf : O.length + m.length ≤ 200
  · obtain ⟨h1, h2⟩ := join_fits hdn (by rw [unhide HO]; simpa using hf)
    have H1 := hide h1
    have H2 := hide h2
    clear h1 h2 hdn
    go_enter Tryz.func73, Tryz.ntmps73
    go_wp2_with fail
    refine (good_any _ _).mono ?_
    rintro e w1 ⟨rfl, hb1⟩
    rw [show (ByteArray.mk d.toArray).data.toList = d from rfl, unhide Hd]
    go_wp2_with fail
    refine (named_any _ _ (size_le_maxLen hm)).mono ?_
    rintro e w2 ⟨rfl, rfl⟩
    rw [show (ByteArray.mk m.toArray).data.toList = m from rfl, unhide Hn]
    go_wp2_with fail
    refine (opening_any _ _ (by omega)).mono ?_
    rintro e w3 ⟨rfl, rfl⟩
    rw [unhide HO]
    go_wp2_with fail
    go_ret2
    exact ⟨ret_strE (by rw [unhide H1, unhide HO]; exact cat_one O m) (unhide H2).symm, hb1⟩
  · obtain ⟨h1, h2⟩ := join_long hdn (by rw [unhide HO]; simp; omega)
    have H1 := hide h1
    have H2 := hide h2
    clear h1 h2 hdn
    go_enter Tryz.func73, Tryz.ntmps73
    go_wp2_with fail
    refine (good_any _ _).mono ?_
    rintro e w1 ⟨rfl, hb1⟩
    rw [show (ByteArray.mk d.toArray).data.toList = d from rfl, unhide Hd]
    go_wp2_with fail
    refine (named_any _ _ (size_le_maxLen hm)).mono ?_
    rintro e w2 ⟨rfl, rfl⟩
    rw [show (ByteArray.mk m.toArray).data.toList = m from rfl, unhide Hn]
    go_wp2_with fail
    refine (opening_any _ _ (by omega)).mono ?_
    rintro e w3 ⟨rfl, rfl⟩
    rw [unhide HO]
    go_wp2_with fail
    go_ret2
    exact ⟨ret_strE (by rw [unhide H1]) (unhide H2).symm, hb1⟩

end Go.Proofs.YtcplpbelficbeaaGreatDoor

namespace Go.Proofs.YtcplpbelficbeaaGreatDoor
open Go.RowKit Go.Shelf

theorem lastIndex_eq (a b : List UInt8) (hb : 47 ∉ b) : Lib.lastIndexByte ⟨(a ++ 47 :: b).toArray⟩ 47 = a.length := by
  have hat : ∀ j, j < (a ++ 47 :: b).length → ((ByteArray.mk (a ++ 47 :: b).toArray).data[j]!) = (a ++ 47 :: b)[j]! := fun j hj => by simp
  rcases Lib.lastIndexByte_spec ⟨(a ++ 47 :: b).toArray⟩ 47 with ⟨_, h⟩ | ⟨i, hi, e, hc, hn⟩
  · exact absurd (by simp) (h a.length (by show a.length < (a ++ 47 :: b).toArray.size; simp))
  · rw [e]
    have hi' : i < (a ++ 47 :: b).length := by
      have : i < (a ++ 47 :: b).toArray.size := hi
      simpa using this
    have h1 : a.length ≤ i := by
      apply Nat.le_of_not_lt
      intro hlt
      exact hn a.length hlt (by show a.length < (a ++ 47 :: b).toArray.size; simp) (by simp)
    by_cases h2 : i = a.length
    · rw [h2]
    · exfalso
      apply hb
      have hlt : i - a.length - 1 < b.length := by simp at hi'; omega
      have hb' : (a ++ 47 :: b)[i]! = b[i - a.length - 1]! := by
        rw [List.getElem!_eq_getElem?_getD, List.getElem!_eq_getElem?_getD, List.getElem?_append_right h1]
        obtain ⟨k, hk⟩ : ∃ k, i - a.length = k + 1 := ⟨i - a.length - 1, by omega⟩
        rw [hk]; simp
      rw [hat i hi', hb'] at hc
      have hm : b[i - a.length - 1]! ∈ b := by
        rw [List.getElem!_eq_getElem?_getD, List.getElem?_eq_getElem hlt]; simp
      have : b[i - a.length - 1]! = 47 := by
        apply UInt8.toNat_inj.1
        show _ = 47
        omega
      rwa [this] at hm

theorem cut_first (a b : List UInt8) : (ByteArray.mk (a ++ 47 :: b).toArray).extract 0 a.length = ⟨a.toArray⟩ := by
  rw [cut_front]; simp
theorem cut_last (a b : List UInt8) : (ByteArray.mk (a ++ 47 :: b).toArray).extract (a.length + 1) (a.length + b.length + 1) = ⟨b.toArray⟩ := by
  have := cut_back (a ++ 47 :: b) (a.length + 1)
  rw [show (a ++ 47 :: b).length = a.length + b.length + 1 from by simp; omega] at this
  rw [this]
  have e : (a ++ 47 :: b).drop (a.length + 1) = b := by rw [← List.drop_drop]; simp
  rw [e]

/-- a path's parent, out of what stands ahead of its last slash -/
def dirL (a : List UInt8) : List UInt8 := if a = [] then [47] else a
theorem dirL_nil : dirL [] = [47] := by rw [dirL, if_pos rfl]
theorem dirL_other {a : List UInt8} (h : a ≠ []) : dirL a = a := by rw [dirL, if_neg h]
theorem ret_three {a b c d : ByteArray} {i j : Int} (h : a = b) (h1 : c = d) (h' : i = j) : Ending.returned (.tuple #[.string a, .string c, .int .i64 i]) = .returned (.tuple #[.string b, .string d, .int .i64 j]) := by rw [h, h1, h']

set_option maxRecDepth 20000 in
set_option maxHeartbeats 1000000 in
theorem split_main (a b : List UInt8) (w : World) (hb : 47 ∉ b) (hg : goodB (a ++ 47 :: b) = true) (hne : a ++ 47 :: b ≠ [47]) :
    Calls Tryz.prog 44 #[.string ⟨(a ++ 47 :: b).toArray⟩] w fun e w' =>
      e = .returned (.tuple #[.string ⟨(dirL a).toArray⟩, .string ⟨b.toArray⟩, .int .i64 0]) ∧ Below w.heap.size w w' := by
  have hl : a.length + b.length + 1 ≤ 200 := by have := goodB_le hg; simp at this; omega
  have hne1 : (a ++ 47 :: b == [47]) = false := by simpa using hne
  have Hg := hide hg
  have Hi := hide (lastIndex_eq a b hb)
  clear hg hne hb
  have hz : (ByteArray.mk (a ++ 47 :: b).toArray).size = a.length + b.length + 1 := by rw [Lib.size_eq]; show (a ++ 47 :: b).length = _; simp; omega
  have Hc1 := hide (cut_first a b)
  have Hc2 := hide (cut_last a b)
  generalize a ++ 47 :: b = l at *
  go_enter Tryz.func44, Tryz.ntmps44
  go_wp2_with fail
  refine (good_any _ _).mono ?_
  rintro e w1 ⟨rfl, hb1⟩
  rw [show (ByteArray.mk l.toArray).data.toList = l from rfl, unhide Hg]
  go_wp2_with fail
  refine (Tryz.strings_LastIndexByte _ _ (by omega) _).mono ?_
  rintro e w2 ⟨rfl, rfl⟩
  rw [unhide Hi]
  go_wp2_with fail
  have cA : ∀ d os, Calls Tryz.prog 51 #[.string ((ByteArray.mk l.toArray).extract 0 a.length)] (Sort.grow (redrawn w2 d) os) fun e w'' => e = .returned (.string ⟨a.toArray⟩) ∧ ∃ p : Regrown, w'' = Sort.grow (redrawn w2 p.d) p.os :=
    fun d os => Calls.regrown_of (by rw [unhide Hc1]; exact clone_any _ _ (by rw [Lib.size_eq]; show a.length ≤ _; omega))
  have cB : ∀ d os, Calls Tryz.prog 51 #[.string ((ByteArray.mk l.toArray).extract (a.length + 1) (a.length + b.length + 1))] (Sort.grow (redrawn w2 d) os) fun e w'' => e = .returned (.string ⟨b.toArray⟩) ∧ ∃ p : Regrown, w'' = Sort.grow (redrawn w2 p.d) p.os :=
    fun d os => Calls.regrown_of (by rw [unhide Hc2]; exact clone_any _ _ (by rw [Lib.size_eq]; show b.length ≤ _; omega))
  have n1 : (a.length : Int) ≤ a.length + b.length + 1 := by omega
  have n2 : (a.length : Int) ≤ a.length + b.length := by omega
  have n3 : IntKind.i64.wrap ((a.length : Int) + 1) = (a.length : Int) + 1 := by rw [IntKind.wrap_i64]; omega
  have n4 : (0 : Int) ≤ (a.length : Int) + 1 := by omega
  refine wp_region_quiet_below (by kernel_rfl) (by kernel_rfl) ?_
  repeat (quiet_step (first | exact cA _ _ | exact cB _ _))
  refine wpQuiet_nil ?_
  intro _ hw'
  obtain ⟨⟨dq, osq⟩, hw''⟩ := hw'
  subst hw''
  clear cA cB
  have hb2 : Below w.heap.size w (Sort.grow (redrawn w2 dq) osq) := below_next hb1 (below_regrown w2 dq osq)
  cases he : a.isEmpty
  · go_wp2
    go_ret3
    exact ⟨ret_three (by rw [dirL_other (by rintro rfl; simp at he)]) rfl rfl, hb2⟩
  · obtain rfl : a = [] := by simpa using he
    go_wp2
    go_ret3
    exact ⟨ret_three (by rw [dirL_nil]) rfl rfl, hb2⟩

set_option maxRecDepth 10000 in
set_option maxHeartbeats 400000 in
theorem split_bad (l : List UInt8) (w : World) (hg : goodB l = false) :
    Calls Tryz.prog 44 #[.string ⟨l.toArray⟩] w fun e w' => e = .returned (.tuple #[.string ⟨#[]⟩, .string ⟨#[]⟩, .int .i64 2]) ∧ Below w.heap.size w w' := by
  have Hg := hide hg
  clear hg
  go_enter Tryz.func44, Tryz.ntmps44
  go_wp2_with fail
  refine (good_any _ _).mono ?_
  rintro e w1 ⟨rfl, hb1⟩
  rw [show (ByteArray.mk l.toArray).data.toList = l from rfl, unhide Hg]
  go_wp2_with fail
  go_ret3
  exact ⟨rfl, hb1⟩

set_option maxRecDepth 10000 in
set_option maxHeartbeats 400000 in
theorem split_root (w : World) :
    Calls Tryz.prog 44 #[.string ⟨#[47]⟩] w fun e w' => e = .returned (.tuple #[.string ⟨#[]⟩, .string ⟨#[]⟩, .int .i64 7]) ∧ Below w.heap.size w w' := by
  go_enter Tryz.func44, Tryz.ntmps44
  go_wp2_with fail
  refine (good_any _ _).mono ?_
  rintro e w1 ⟨rfl, hb1⟩
  rw [show (ByteArray.mk #[47]).data.toList = [47] from rfl, goodB_root]
  go_wp2_with fail
  go_ret3
  exact ⟨rfl, hb1⟩

end Go.Proofs.YtcplpbelficbeaaGreatDoor

namespace Go.Proofs.YtcplpbelficbeaaGreatDoor
open Go.RowKit

def fcells (f : DF) : List Value := [.string ⟨f.n.toArray⟩, .string ⟨f.s.toArray⟩, .string ⟨f.t.toArray⟩]
def cellsF : List DF → List Value
  | [] => []
  | f :: r => fcells f ++ cellsF r
theorem cellsF_get : ∀ (fs : List DF) (i : Nat) (f : DF), fs[i]? = some f → ∀ c, c < 3 → (cellsF fs)[i * 3 + c]? = (fcells f)[c]?
  | [], i, f, h, _, _ => by simp at h
  | x :: r, 0, f, h, c, hc => by
    simp at h
    subst h
    rw [cellsF, List.getElem?_append_left (by simp [fcells]; omega)]
    simp
  | x :: r, i + 1, f, h, c, hc => by
    rw [cellsF, List.getElem?_append_right (by simp [fcells]; omega), ← cellsF_get r i f (by simpa using h) c hc]
    congr 1
    simp [fcells]; omega
def RowAt (w : World) (b off : Nat) (cs : List Value) : Prop := ∀ j v, cs[j]? = some v → w.cell? ⟨b, off + j, none⟩ = some v
theorem RowAt.c0 {w : World} {b off : Nat} {fs : List DF} (h : RowAt w b off (cellsF fs)) {i : Nat} {f : DF} (hi : fs[i]? = some f) : w.cell? ⟨b, off + i * 3, none⟩ = some (.string ⟨f.n.toArray⟩) :=
  h (i * 3) _ (by have := cellsF_get fs i f hi 0 (by omega); simpa [fcells] using this)
theorem RowAt.c1 {w : World} {b off : Nat} {fs : List DF} (h : RowAt w b off (cellsF fs)) {i : Nat} {f : DF} (hi : fs[i]? = some f) : w.cell? ⟨b, off + i * 3 + 1, none⟩ = some (.string ⟨f.s.toArray⟩) := by
  rw [Nat.add_assoc]; exact h (i * 3 + 1) _ (by have := cellsF_get fs i f hi 1 (by omega); simpa [fcells] using this)
theorem RowAt.c2 {w : World} {b off : Nat} {fs : List DF} (h : RowAt w b off (cellsF fs)) {i : Nat} {f : DF} (hi : fs[i]? = some f) : w.cell? ⟨b, off + i * 3 + 2, none⟩ = some (.string ⟨f.t.toArray⟩) := by
  rw [Nat.add_assoc]; exact h (i * 3 + 2) _ (by have := cellsF_get fs i f hi 2 (by omega); simpa [fcells] using this)
theorem RowAt.kept {w w' : World} {b off B : Nat} {cs : List Value} (h : RowAt w b off cs) (hb : Below B w w') (hB : b < B) : RowAt w' b off cs :=
  fun j v hj => by rw [hb.cell (p := ⟨b, off + j, none⟩) hB]; exact h j v hj

/-- the value of a disk's one field holds these files -/
def DiskV (w : World) (v : Value) (fs : List DF) : Prop :=
  (∃ a cap, v = .slice a 0 cap ∧ fs = [] ∧ cap ≤ maxLen) ∨
  ∃ b off cap, v = .slice (some ⟨b, off, none⟩) fs.length cap ∧ fs.length ≤ cap ∧ cap ≤ maxLen ∧ b < w.heap.size ∧ fs ≠ [] ∧ RowAt w b off (cellsF fs)
theorem DiskV.kept {w w' : World} {B : Nat} {v : Value} {fs : List DF} (h : DiskV w v fs) (hb : Below B w w') (hB : w.heap.size ≤ B) : DiskV w' v fs := by
  rcases h with h | ⟨b, off, cap, rfl, h1, h2, h3, h0, h4⟩
  · exact .inl h
  · exact .inr ⟨b, off, cap, rfl, h1, h2, Nat.lt_of_lt_of_le h3 hb.size, h0, h4.kept hb (Nat.lt_of_lt_of_le h3 hB)⟩
theorem DiskV.next {w w' : World} {v : Value} {fs : List DF} (h : DiskV w v fs) (hb : Below w.heap.size w w') : DiskV w' v fs := h.kept hb (Nat.le_refl _)
theorem DiskV.alloc {w : World} {v : Value} {fs : List DF} (h : DiskV w v fs) (o : Obj) : DiskV (w.alloc o) v fs := h.next ((Below.refl _ _).alloc (Nat.le_refl _) o)
theorem DiskV.drew {w : World} {v : Value} {fs : List DF} (h : DiskV w v fs) : DiskV w.drew v fs := h.next (Below.refl _ _).drew
theorem DiskV.nil (w : World) : DiskV w (.slice none 0 0) [] := .inl ⟨none, 0, rfl, rfl, by decide⟩

theorem block_set {w : World} {g j : Nat} {cur : Array Value} {t : TypeId} {fz : Nat × Nat} (v : Value) (h : w.heap[g]? = some (.cells cur t fz)) :
    (w.setCell ⟨g, j, none⟩ v).heap[g]? = some (.cells (cur.setIfInBounds j v) t fz) := by
  obtain ⟨hlt, hk⟩ := Array.getElem?_eq_some_iff.1 h
  show (w.heap.modify g _)[g]? = _
  rw [Array.getElem?_eq_getElem (by rw [Array.size_modify]; exact hlt), Array.getElem_modify_self, hk]
  rfl
end Go.Proofs.YtcplpbelficbeaaGreatDoor
