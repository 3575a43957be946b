/-
  Requests that are made ready, as plain data: what Prepare answers. No program is named here.
  tree.Get at a good tree, in one contract; the boxes of prep.
  A request as an argument: opened into its six fields, and read again.
  prep.fillChange: the walk.
-/
import Derived.Test.YtalnmhgedfgooaaGreatDoorMC
import Derived.Test.YtalnmhgedfgooaaGreatDoorMS
import Derived.Test.YtalnmhgedfgooaaGreatDoorMB
import Derived.Test.YtalnmhgedfgooaaGreatDoorMI
import Derived.Test.YtalnmhgedfgooaaGreatDoorMD
import Derived.ProofKit
import Derived.OpenShut
import Derived.SizedLaws
namespace Go.Proofs.YtalnmhgedfgooaaGreatDoor
open Go.RowKit

structure Rq where
  o : Int
  s : Int
  p : List UInt8
  d : List UInt8
  v : Int
  f : Int
def rqV (r : Rq) : Value := .agg #[.int .i64 r.o, .int .i64 r.s, .string ⟨r.p.toArray⟩, .string ⟨r.d.toArray⟩, .int .i64 r.v, .int .i64 r.f]

/-- a step with its number behind it, or nothing -/
def serL (l : List UInt8) (n : Int) : List UInt8 := if serE l n = 0 then l ++ ten n.toNat else []
theorem serS_list (l : List UInt8) (n : Int) : serS l n = ⟨(serL l n).toArray⟩ := by
  by_cases h : serE l n = 0
  · rw [(serE_eq h).2.2.2, serL, if_pos h]
  · rw [serE_ne h, serL, if_neg h]
theorem serL_len (l : List UInt8) (n : Int) : (serL l n).length ≤ 40 := by
  by_cases h : serE l n = 0
  · obtain ⟨_, _, hn, _⟩ := serE_eq h
    rw [serL, if_pos h]
    simp only [namedB, Bool.and_eq_true, decide_eq_true_eq] at hn
    exact hn.1.2
  · rw [serL, if_neg h]; simp

/- OpDelete, OpSet -/
def fchE (t : Tr) (r : Rq) : Int := if goodB r.p = true then (if r.s ∈ t.ss then (match lookN t.ns r.p with
  | none => 7
  | some n => if r.v = -1 ∨ r.v = n.v then 0 else 9) else 12) else 2
def verN (t : Tr) (r : Rq) : Int := match lookN t.ns r.p with
  | none => 0
  | some n => n.v
def fchX (t : Tr) (z : Int) (r : Rq) : WTxn := ⟨z, r.o, r.s, r.p, if r.o = 5 then r.d else [], if r.o = 5 then verN t r + 1 else 0, 0⟩
theorem fch_form {t : Tr} {r : Rq} (h : goodB r.p = false) : fchE t r = 2 := by rw [fchE, if_neg (by simp [h])]
theorem fch_shut {t : Tr} {r : Rq} (h : goodB r.p = true) (hs : r.s ∉ t.ss) : fchE t r = 12 := by rw [fchE, if_pos h, if_neg hs]
theorem fch_none {t : Tr} {r : Rq} (h : goodB r.p = true) (hs : r.s ∈ t.ss) (hn : lookN t.ns r.p = none) : fchE t r = 7 := by rw [fchE, if_pos h, if_pos hs, hn]
theorem fch_some {t : Tr} {r : Rq} {n : Nd} (h : goodB r.p = true) (hs : r.s ∈ t.ss) (hn : lookN t.ns r.p = some n) : fchE t r = if r.v = -1 ∨ r.v = n.v then 0 else 9 := by rw [fchE, if_pos h, if_pos hs, hn]
theorem ver_some {t : Tr} {r : Rq} {n : Nd} (hn : lookN t.ns r.p = some n) : verN t r = n.v := by rw [verN, hn]
theorem fch_zero {t : Tr} {r : Rq} (h : fchE t r = 0) : goodB r.p = true ∧ r.s ∈ t.ss ∧ ∃ n, lookN t.ns r.p = some n ∧ (r.v = -1 ∨ r.v = n.v) := by
  cases hg : goodB r.p with
  | false => rw [fch_form hg] at h; exact absurd h (by decide)
  | true =>
    by_cases hs : r.s ∈ t.ss
    · cases hn : lookN t.ns r.p with
      | none => rw [fch_none hg hs hn] at h; exact absurd h (by decide)
      | some n =>
        rw [fch_some hg hs hn] at h
        by_cases hv : r.v = -1 ∨ r.v = n.v
        · exact ⟨rfl, hs, n, rfl, hv⟩
        · rw [if_neg hv] at h; exact absurd h (by decide)
    · rw [fch_shut hg hs] at h; exact absurd h (by decide)

/- OpCreate -/
def cvN (t : Tr) (r : Rq) : Int := match lookN t.ns (dirOf r.p) with
  | none => 0
  | some u => u.k
def numE (t : Tr) (r : Rq) : Int := match lookN t.ns (dirOf r.p) with
  | none => 7
  | some u => if serE (stepOf r.p) u.k = 0 then joinE (dirOf r.p) (serL (stepOf r.p) u.k) else serE (stepOf r.p) u.k
def numP (t : Tr) (r : Rq) : List UInt8 := joinS (dirOf r.p) (serL (stepOf r.p) (cvN t r))
def fcrE (t : Tr) (r : Rq) : Int := if 0 ≤ r.f ∧ r.f ≤ 3 then (if goodB r.p = true ∧ r.p ≠ [47] then (if r.s ∈ t.ss then (if 2 ≤ r.f then numE t r else 0) else 12) else 2) else 3
def fcrX (t : Tr) (z : Int) (r : Rq) : WTxn := ⟨z, r.o, r.s, if 2 ≤ r.f then numP t r else r.p, r.d, 0, if r.f % 2 = 1 then r.s else 0⟩
theorem num_none {t : Tr} {r : Rq} (h : lookN t.ns (dirOf r.p) = none) : numE t r = 7 := by rw [numE, h]
theorem num_ser {t : Tr} {r : Rq} {u : Nd} (h : lookN t.ns (dirOf r.p) = some u) (h0 : serE (stepOf r.p) u.k ≠ 0) : numE t r = serE (stepOf r.p) u.k := by rw [numE, h]; simp only; rw [if_neg h0]
theorem num_join {t : Tr} {r : Rq} {u : Nd} (h : lookN t.ns (dirOf r.p) = some u) (h0 : serE (stepOf r.p) u.k = 0) : numE t r = joinE (dirOf r.p) (serL (stepOf r.p) u.k) := by rw [numE, h]; simp only; rw [if_pos h0]
theorem cv_some {t : Tr} {r : Rq} {u : Nd} (h : lookN t.ns (dirOf r.p) = some u) : cvN t r = u.k := by rw [cvN, h]
theorem fcr_range {t : Tr} {r : Rq} (h : ¬ (0 ≤ r.f ∧ r.f ≤ 3)) : fcrE t r = 3 := by rw [fcrE, if_neg h]
theorem fcr_form {t : Tr} {r : Rq} (h : 0 ≤ r.f ∧ r.f ≤ 3) (hp : ¬ (goodB r.p = true ∧ r.p ≠ [47])) : fcrE t r = 2 := by rw [fcrE, if_pos h, if_neg hp]
theorem fcr_shut {t : Tr} {r : Rq} (h : 0 ≤ r.f ∧ r.f ≤ 3) (hp : goodB r.p = true ∧ r.p ≠ [47]) (hs : r.s ∉ t.ss) : fcrE t r = 12 := by rw [fcrE, if_pos h, if_pos hp, if_neg hs]
theorem fcr_plain {t : Tr} {r : Rq} (h : 0 ≤ r.f ∧ r.f ≤ 3) (hp : goodB r.p = true ∧ r.p ≠ [47]) (hs : r.s ∈ t.ss) (hf : r.f < 2) : fcrE t r = 0 := by rw [fcrE, if_pos h, if_pos hp, if_pos hs, if_neg (by omega)]
theorem fcr_num {t : Tr} {r : Rq} (h : 0 ≤ r.f ∧ r.f ≤ 3) (hp : goodB r.p = true ∧ r.p ≠ [47]) (hs : r.s ∈ t.ss) (hf : 2 ≤ r.f) : fcrE t r = numE t r := by rw [fcrE, if_pos h, if_pos hp, if_pos hs, if_pos hf]
theorem fcr_zero {t : Tr} {r : Rq} (h : fcrE t r = 0) : (0 ≤ r.f ∧ r.f ≤ 3) ∧ (goodB r.p = true ∧ r.p ≠ [47]) ∧ r.s ∈ t.ss ∧ (2 ≤ r.f → numE t r = 0) := by
  by_cases hf : 0 ≤ r.f ∧ r.f ≤ 3
  · by_cases hp : goodB r.p = true ∧ r.p ≠ [47]
    · by_cases hs : r.s ∈ t.ss
      · exact ⟨hf, hp, hs, fun h2 => by rw [← h, fcr_num hf hp hs h2]⟩
      · rw [fcr_shut hf hp hs] at h; exact absurd h (by decide)
    · rw [fcr_form hf hp] at h; exact absurd h (by decide)
  · rw [fcr_range hf] at h; exact absurd h (by decide)

/- all kinds -/
def filE (t : Tr) (r : Rq) : Int := if r.o = 1 ∨ r.o = 2 then 0 else if r.o = 3 then fcrE t r else if r.o = 4 ∨ r.o = 5 then fchE t r else 4
def filX (t : Tr) (z : Int) (r : Rq) : WTxn := if r.o = 3 then fcrX t z r else if r.o = 4 ∨ r.o = 5 then fchX t z r else ⟨z, r.o, r.s, [], [], 0, 0⟩
theorem fil_end {t : Tr} {z : Int} {r : Rq} (h : r.o = 1 ∨ r.o = 2) : filE t r = 0 ∧ filX t z r = ⟨z, r.o, r.s, [], [], 0, 0⟩ := by
  refine ⟨by rw [filE, if_pos h], ?_⟩
  rw [filX, if_neg (by omega), if_neg (by omega)]
theorem fil_cre {t : Tr} {z : Int} {r : Rq} (h : r.o = 3) : filE t r = fcrE t r ∧ filX t z r = fcrX t z r := by
  refine ⟨by rw [filE, if_neg (by omega), if_pos h], by rw [filX, if_pos h]⟩
theorem fil_chg {t : Tr} {z : Int} {r : Rq} (h : r.o = 4 ∨ r.o = 5) : filE t r = fchE t r ∧ filX t z r = fchX t z r := by
  refine ⟨by rw [filE, if_neg (by omega), if_neg (by omega), if_pos h], by rw [filX, if_neg (by omega), if_pos h]⟩
theorem fil_kind {t : Tr} {r : Rq} (h : r.o < 1 ∨ 5 < r.o) : filE t r = 4 := by
  rw [filE, if_neg (by omega), if_neg (by omega), if_neg (by omega)]

noncomputable def headB (t : Tr) (z : Int) (r : Rq) : Bool := goodT t && zGood z && decide (1 ≤ r.s) && decide (r.s ≤ 2147483647)
noncomputable def prpE (t : Tr) (z : Int) (r : Rq) : Int := if headB t z r = true then (if filE t r = 0 then appE t (filX t z r) else filE t r) else 3
noncomputable def prpX (t : Tr) (z : Int) (r : Rq) : WTxn := if prpE t z r = 0 then filX t z r else t0
theorem headB_true {t : Tr} {z : Int} {r : Rq} : headB t z r = true ↔ GoodT t ∧ zGood z = true ∧ 1 ≤ r.s ∧ r.s ≤ 2147483647 := by
  simp only [headB, Bool.and_eq_true, decide_eq_true_eq, goodT_true, and_assoc]
theorem prp_head {t : Tr} {z : Int} {r : Rq} (h : headB t z r = false) : prpE t z r = 3 := by rw [prpE, if_neg (by simp [h])]
theorem prp_fill {t : Tr} {z : Int} {r : Rq} (h : headB t z r = true) (hf : filE t r ≠ 0) : prpE t z r = filE t r := by rw [prpE, if_pos h, if_neg hf]
theorem prp_app {t : Tr} {z : Int} {r : Rq} (h : headB t z r = true) (hf : filE t r = 0) : prpE t z r = appE t (filX t z r) := by rw [prpE, if_pos h, if_pos hf]
theorem prpX_no {t : Tr} {z : Int} {r : Rq} (h : prpE t z r ≠ 0) : prpX t z r = t0 := by rw [prpX, if_neg h]
theorem prpX_ok {t : Tr} {z : Int} {r : Rq} (h : prpE t z r = 0) : prpX t z r = filX t z r := by rw [prpX, if_pos h]
theorem prp_zero {t : Tr} {z : Int} {r : Rq} (h : prpE t z r = 0) : headB t z r = true ∧ filE t r = 0 ∧ appE t (filX t z r) = 0 := by
  cases hh : headB t z r with
  | false => rw [prp_head hh] at h; exact absurd h (by decide)
  | true =>
    by_cases hf : filE t r = 0
    · exact ⟨rfl, hf, by rw [← prp_app hh hf]; exact h⟩
    · rw [prp_fill hh hf] at h; exact absurd h hf
theorem filX_heads (t : Tr) (z : Int) (r : Rq) : (filX t z r).z = z ∧ (filX t z r).o = r.o ∧ (filX t z r).s = r.s ∧ ((filX t z r).w = 0 ∨ (filX t z r).w = r.s) := by
  unfold filX
  split
  · refine ⟨rfl, rfl, rfl, ?_⟩
    simp only [fcrX]
    split
    · exact .inr rfl
    · exact .inl rfl
  · split
    · exact ⟨rfl, rfl, rfl, .inl rfl⟩
    · exact ⟨rfl, rfl, rfl, .inl rfl⟩
theorem filX_d (t : Tr) (z : Int) (r : Rq) : (filX t z r).d.length ≤ r.d.length := by
  unfold filX
  split
  · exact Nat.le_refl _
  · split
    · simp only [fchX]
      split
      · exact Nat.le_refl _
      · simp
    · simp
theorem numP_len (t : Tr) (r : Rq) : (numP t r).length ≤ 200 := by
  unfold numP joinS
  split
  · split
    · assumption
    · simp
  · simp
theorem filX_p (t : Tr) (z : Int) (r : Rq) : (filX t z r).p.length ≤ r.p.length + 200 := by
  have := numP_len t r
  unfold filX
  split
  · simp only [fcrX]
    split <;> omega
  · split
    · simp only [fchX]; omega
    · simp
/-- PrepFits -/
structure FitP (t : Tr) (z : Int) (r : Rq) (x : WTxn) : Prop where
  app : appE t x = 0
  az : (appT t x).z = z
  z : x.z = z
  o : x.o = r.o
  s : x.s = r.s
  gd : gdE x = 0
  w : x.w = 0 ∨ x.w = r.s
theorem fits_plain {t : Tr} {z : Int} {r : Rq} (h : prpE t z r = 0) : FitP t z r (prpX t z r) := by
  obtain ⟨_, _, ha⟩ := prp_zero h
  rw [prpX_ok h]
  obtain ⟨e1, e2, e3, e4⟩ := filX_heads t z r
  exact ⟨ha, (app_good ha).2.1.trans e1, e1, e2, e3, (adm_zero (app_zero ha).1).2.1, e4⟩
/-- PrepVersions -/
structure VerP (t : Tr) (z : Int) (r : Rq) (n : Nd) : Prop where
  g : GoodT t
  look : lookN t.ns r.p = some n
  ok : prpE t z { r with v := n.v } = 0
  x : prpX t z { r with v := n.v } = prpX t z r
  no : ∀ v, v ≠ -1 → v ≠ n.v → prpE t z { r with v := v } = 9
theorem versions_plain {t : Tr} {z : Int} {r : Rq} (h : prpE t z r = 0) (ho : r.o = 4 ∨ r.o = 5) : ∃ n, VerP t z r n := by
  obtain ⟨hh, hf, ha⟩ := prp_zero h
  have hg := (headB_true.1 hh).1
  rw [(fil_chg (z := z) ho).1] at hf
  obtain ⟨gp, ms, n, hn, hv⟩ := fch_zero hf
  have key : ∀ v, headB t z { r with v := v } = true := fun v => hh
  have fx : ∀ v, filX t z { r with v := v } = filX t z r := fun v => rfl
  have fe : ∀ v, filE t { r with v := v } = if v = -1 ∨ v = n.v then 0 else 9 := fun v => by
    rw [(fil_chg (z := z) (r := { r with v := v }) ho).1]
    exact fch_some (r := { r with v := v }) gp ms hn
  have ok : prpE t z { r with v := n.v } = 0 := by
    rw [prp_app (key _) (by rw [fe, if_pos (.inr rfl)]), fx]; exact ha
  refine ⟨n, hg, hn, ok, ?_, fun v h1 h2 => ?_⟩
  · rw [prpX_ok ok, prpX_ok h, fx]
  · have := fe v
    rw [if_neg (by omega)] at this
    rw [prp_fill (key _) (by rw [this]; decide), this]
theorem dir_step {p : List UInt8} (hp : goodB p = true) (hr : p ≠ [47]) : goodB (dirOf p) = true ∧ namedB (stepOf p) = true ∧ openL (dirOf p) ++ stepOf p = p := by
  obtain ⟨a, b, rfl, hb⟩ := good_cut hp
  rw [dirOf_cut hp hr hb, stepOf_cut hp hr hb]
  obtain ⟨a', b', e, hb', h1, h2, h3, _⟩ := pgood_parts hp hr
  have e1 := lastCut_some b hb a
  rw [e, lastCut_some b' hb' a'] at e1
  simp only [Option.some.injEq, Prod.mk.injEq] at e1
  obtain ⟨rfl, rfl⟩ := e1
  exact ⟨h2, h1, h3⟩
theorem num_zero {t : Tr} {r : Rq} (hp : goodB r.p = true) (hr : r.p ≠ [47]) (h : numE t r = 0) : ∃ u, lookN t.ns (dirOf r.p) = some u ∧ 0 ≤ u.k ∧ u.k ≤ 2147483647 ∧ numP t r = r.p ++ ten u.k.toNat ∧ dirOf (numP t r) = dirOf r.p := by
  cases hu : lookN t.ns (dirOf r.p) with
  | none => rw [num_none hu] at h; exact absurd h (by decide)
  | some u =>
    by_cases h0 : serE (stepOf r.p) u.k = 0
    · rw [num_join hu h0] at h
      obtain ⟨k0, k1, hn, _⟩ := serE_eq h0
      obtain ⟨hd, hs, he⟩ := dir_step hp hr
      have e1 : serL (stepOf r.p) u.k = stepOf r.p ++ ten u.k.toNat := by rw [serL, if_pos h0]
      have hb : (goodB (dirOf r.p) && namedB (serL (stepOf r.p) u.k)) = true := by rw [hd, e1, hn]; rfl
      have hl : (openL (dirOf r.p) ++ serL (stepOf r.p) u.k).length ≤ 200 := by
        by_cases hl : (openL (dirOf r.p) ++ serL (stepOf r.p) u.k).length ≤ 200
        · exact hl
        · rw [(join_long hb (by omega)).2] at h; exact absurd h (by decide)
      have e2 : numP t r = r.p ++ ten u.k.toNat := by
        rw [numP, cv_some hu, (join_fits hb hl).1, e1, ← List.append_assoc, he]
      refine ⟨u, rfl, k0, k1, e2, ?_⟩
      rw [e1] at hl
      obtain ⟨a, ea, hm, hda, hg, hne, _⟩ := join_parts hd hn hl
      rw [← List.append_assoc, he] at ea hg hne
      rw [e2]
      rw [ea] at hg hne ⊢
      rw [dirOf_cut hg hne hm]
      exact hda
    · rw [num_ser hu h0] at h; exact absurd h h0
end Go.Proofs.YtalnmhgedfgooaaGreatDoor

namespace Go.Proofs.YtalnmhgedfgooaaGreatDoor
open Go.RowKit

theorem GoodT.pwf {t : Tr} (g : GoodT t) : WfT t := by
  refine ⟨fun s hs => by have := g.ses.2 s hs; omega, fun n hn => ?_⟩
  have k := g.nod.ok n hn
  exact ⟨by have := goodB_le k.path; omega, by have := k.data; omega⟩
def getN (t : Tr) (p : List UInt8) : Nd := (lookN t.ns p).getD nzero
def getE (t : Tr) (p : List UInt8) : Int := if (lookN t.ns p).isSome = true then 0 else 7
theorem get_some {t : Tr} {p : List UInt8} {n : Nd} (h : lookN t.ns p = some n) : getN t p = n ∧ getE t p = 0 := by
  rw [getN, getE, h]; exact ⟨rfl, rfl⟩
theorem get_none {t : Tr} {p : List UInt8} (h : lookN t.ns p = none) : getN t p = nzero ∧ getE t p = 7 := by
  rw [getN, getE, h]; exact ⟨rfl, rfl⟩
theorem tget_any (t : Tr) (vn vs : Value) (p : List UInt8) (w : World) (g : GoodT t) (hn : SeqV w vn t.ns) :
    Calls Tryz.prog 16 #[.agg #[.int .i64 t.z, vn, vs], .string ⟨p.toArray⟩] w fun e w' => e = .returned (.tuple #[nodeV (getN t p), .int .i64 (getE t p)]) ∧ Below w.heap.size w w' := by
  have few := g.nod.few
  rcases nwhere p t.ns g.nod.asc with ⟨A, n, B, T⟩ | ⟨A, B, G⟩
  · have hm : n ∈ t.ns := by rw [T.eq]; simp
    have sl := g.pwf.slim n hm
    rw [(get_some T.look).1, (get_some T.look).2]
    exact tget_there t.z vn vs t.ns A B n p w hn (by omega) T sl.1 sl.2
  · rw [(get_none G.look).1, (get_none G.look).2]
    exact tget_gap t.z vn vs t.ns A B p w hn (by omega) G

end Go.Proofs.YtalnmhgedfgooaaGreatDoor

namespace Go.Proofs.YtalnmhgedfgooaaGreatDoor
open Go.ChangeShapes Go.WideShapes Go.ChangeAt Go.RowKit Go.ChangeMaps

def rqD {H : Type} (t : Rq) : DataW H := .agg [.lit (.int .i64 t.o), .lit (.int .i64 t.s), .lit (.string t.p), .lit (.string t.d), .lit (.int .i64 t.v), .lit (.int .i64 t.f)]
structure RqOk (t : Rq) : Prop where
  o : (Lit.int .i64 t.o).wf = true
  s : (Lit.int .i64 t.s).wf = true
  p : (ByteArray.mk t.p.toArray).size ≤ maxLen
  d : (ByteArray.mk t.d.toArray).size ≤ maxLen
  v : (Lit.int .i64 t.v).wf = true
  f : (Lit.int .i64 t.f).wf = true

theorem cellsRq : Tryz.prog.cellsOf 27 = 6 := by kernel_rfl

set_option maxRecDepth 10000 in
theorem open_rq {H : Type} {enc : TypeId × Value → H} {W : World} {base : Nat} {spare : Nat → Bool} {held : Bool} {r : Reach} {b0 : Nat} {v : Value} {d : DataW H} {p : List MemPlace}
    (hv : Value.okWide Tryz.prog W r b0 27 v) (h : DataW.Trod enc Tryz.prog W base spare held 27 v d p) :
    ∃ t : Rq, v = rqV t ∧ d = rqD t ∧ p = [] ∧ RqOk t := by
  obtain ⟨cs, rfl, hsz⟩ := okWide_struct Tryz.underlying27 hv
  have hsz6 : cs.size = 6 := hsz.trans cellsRq
  obtain ⟨l⟩ := cs
  match l, hsz6 with
  | [c0, c1, c2, c3, c4, c5], _ =>
    obtain ⟨fuel, hf⟩ := h
    obtain ⟨xs, n, _, hx, _, hlen, hfs⟩ := DataW.trod_struct Tryz.underlying27 hf
    match xs, hlen with
    | [y0, y1, y2, y3, y4, y5], _ =>
      obtain ⟨o, e0, rfl, w0⟩ := DataW.trod_int Tryz.underlying3 (show DataW.trod enc Tryz.prog W base spare held n 3 [c0] = some y0 by simpa [Value.cells, cellsInt] using hfs 0 _ rfl)
      obtain ⟨s, e1, rfl, w1⟩ := DataW.trod_int Tryz.underlying3 (show DataW.trod enc Tryz.prog W base spare held n 3 [c1] = some y1 by simpa [Value.cells, cellsInt] using hfs 1 _ rfl)
      obtain ⟨p', e2, rfl, w2⟩ := DataW.trod_string Tryz.underlying9 (show DataW.trod enc Tryz.prog W base spare held n 9 [c2] = some y2 by simpa [Value.cells, cellsInt, cellsStr] using hfs 2 _ rfl)
      obtain ⟨d', e3, rfl, w3⟩ := DataW.trod_string Tryz.underlying9 (show DataW.trod enc Tryz.prog W base spare held n 9 [c3] = some y3 by simpa [Value.cells, cellsInt, cellsStr] using hfs 3 _ rfl)
      obtain ⟨v', e4, rfl, w4⟩ := DataW.trod_int Tryz.underlying3 (show DataW.trod enc Tryz.prog W base spare held n 3 [c4] = some y4 by simpa [Value.cells, cellsInt, cellsStr] using hfs 4 _ rfl)
      obtain ⟨u', e5, rfl, w5⟩ := DataW.trod_int Tryz.underlying3 (show DataW.trod enc Tryz.prog W base spare held n 3 [c5] = some y5 by simpa [Value.cells, cellsInt, cellsStr] using hfs 5 _ rfl)
      simp only [List.cons.injEq, and_true] at e0 e1 e2 e3 e4 e5
      subst e0 e1 e2 e3 e4 e5
      obtain ⟨pl, rfl⟩ := ba_of p'
      obtain ⟨dl, rfl⟩ := ba_of d'
      simp only [Prod.mk.injEq] at hx
      exact ⟨⟨o, s, pl, dl, v', u'⟩, rfl, hx.1, hx.2, ⟨w0, w1, w2, w3, w4, w5⟩⟩

theorem shut_rq {H : Type} {enc : TypeId × Value → H} {W : World} {base : Nat} {spare : Nat → Bool} {held : Bool} {t : Rq} (h : RqOk t) :
    DataW.Trod enc Tryz.prog W base spare held 27 (rqV t) (rqD t) [] := by
  have i : ∀ x : Int, (Lit.int .i64 x).wf = true → DataW.trod enc Tryz.prog W base spare held 1 3 [.int .i64 x] = some (.lit (.int .i64 x), []) := fun x hx => by simp [DataW.trod, Tryz.underlying3, hx]
  have g : ∀ l : List UInt8, (ByteArray.mk l.toArray).size ≤ maxLen → DataW.trod enc Tryz.prog W base spare held 1 9 [.string ⟨l.toArray⟩] = some (.lit (.string l), []) := fun l hl => by simp [DataW.trod, Tryz.underlying9, hl]
  have := trod_struct_mk (enc := enc) (w := W) (base := base) (spare := spare) (held := held) (n := 1) (cs := [.int .i64 t.o, .int .i64 t.s, .string ⟨t.p.toArray⟩, .string ⟨t.d.toArray⟩, .int .i64 t.v, .int .i64 t.f])
    (xs := [(.lit (.int .i64 t.o), []), (.lit (.int .i64 t.s), []), (.lit (.string t.p), []), (.lit (.string t.d), []), (.lit (.int .i64 t.v), []), (.lit (.int .i64 t.f), [])])
    Tryz.underlying27 cellsRq.symm (by simp [cellsInt, cellsStr, i _ h.o, i _ h.s, g _ h.p, g _ h.d, i _ h.v, i _ h.f])
  exact ⟨2, by simpa [Value.cells, rqV, rqD] using this⟩

theorem sized_rq {H : Type} {ts : List TypeId} {ds : List (DataW H)} (h : (DataW.weightsEach Tryz.prog ts ds).all (· ≤ reachBytes) = true) {j : Nat} {t : Rq} (ht : ts[j]? = some 27) (hd : ds[j]? = some (rqD t)) : t.p.length ≤ 140737488351232 ∧ t.d.length ≤ 140737488351232 := by
  have e : reachBytes = 140737488351232 := by decide
  have h1 := List.all_eq_true.1 h _ (DataW.weights_mem_each ht hd t.p.length (by simp [DataW.weights, rqD, Tryz.underlying27, DataW.weightsEach]))
  have h2 := List.all_eq_true.1 h _ (DataW.weights_mem_each ht hd t.d.length (by simp [DataW.weights, rqD, Tryz.underlying27, DataW.weightsEach]))
  rw [e] at h1 h2
  exact ⟨by simpa using h1, by simpa using h2⟩

end Go.Proofs.YtalnmhgedfgooaaGreatDoor

namespace Go.Proofs.YtalnmhgedfgooaaGreatDoor
open Go.RowKit

/-- the boxes of a tree and of a request -/
structure TR (W : World) (q : Nat) (z : Int) (vn vs : Value) (r : Rq) : Prop where
  t : W.heap[q]? = some (.cells #[.int .i64 z, vn, vs] 25 (0, 0))
  r : W.heap[q + 1]? = some (.cells #[.int .i64 r.o, .int .i64 r.s, .string ⟨r.p.toArray⟩, .string ⟨r.d.toArray⟩, .int .i64 r.v, .int .i64 r.f] 27 (0, 0))
section
variable {W V : World} {q : Nat} {z : Int} {vn vs : Value} {r : Rq}
theorem TR.lt (h : TR W q z vn vs r) : q + 1 < W.heap.size := (Array.getElem?_eq_some_iff.1 h.r).1
theorem TR.next (h : TR W q z vn vs r) (hb : Below W.heap.size W V) : TR V q z vn vs r := ⟨(hb.block _ (by have := h.lt; omega)).trans h.t, (hb.block _ h.lt).trans h.r⟩
theorem TR.other (h : TR W q z vn vs r) {a : Addr} (v : Value) (h1 : a.block < q ∨ q + 1 < a.block) : TR (W.setCell a v) q z vn vs r :=
  ⟨(Below.heap_setCell W a v q (by omega)).trans h.t, (Below.heap_setCell W a v (q + 1) (by omega)).trans h.r⟩
theorem TR.nine (h : TR W q z vn vs r) : W.cell? ⟨q, 0, none⟩ = some (.int .i64 z) ∧ W.cell? ⟨q, 1, none⟩ = some vn ∧ W.cell? ⟨q, 2, none⟩ = some vs ∧ W.cell? ⟨q + 1, 0, none⟩ = some (.int .i64 r.o) ∧ W.cell? ⟨q + 1, 1, none⟩ = some (.int .i64 r.s) ∧ W.cell? ⟨q + 1, 2, none⟩ = some (.string ⟨r.p.toArray⟩) ∧ W.cell? ⟨q + 1, 3, none⟩ = some (.string ⟨r.d.toArray⟩) ∧ W.cell? ⟨q + 1, 4, none⟩ = some (.int .i64 r.v) ∧ W.cell? ⟨q + 1, 5, none⟩ = some (.int .i64 r.f) := by
  have h1 := h.t
  have h2 := h.r
  refine ⟨?_, ?_, ?_, ?_, ?_, ?_, ?_, ?_, ?_⟩ <;> simp [World.cell?, h1, h2]
end
theorem TR.new (w : World) (z : Int) (vn vs : Value) (r : Rq) : TR ((w.alloc (.cells #[.int .i64 z, vn, vs] 25)).alloc (.cells #[.int .i64 r.o, .int .i64 r.s, .string ⟨r.p.toArray⟩, .string ⟨r.d.toArray⟩, .int .i64 r.v, .int .i64 r.f] 27)) w.heap.size z vn vs r := by
  refine ⟨?_, ?_⟩
  · rw [(allocB _ _).block _ (by simp)]
    exact heap_alloc_new w _
  · have h := heap_alloc_new (w.alloc (.cells #[.int .i64 z, vn, vs] 25)) (.cells #[.int .i64 r.o, .int .i64 r.s, .string ⟨r.p.toArray⟩, .string ⟨r.d.toArray⟩, .int .i64 r.v, .int .i64 r.f] 27)
    rw [show (w.alloc (.cells #[.int .i64 z, vn, vs] 25)).heap.size = w.heap.size + 1 by simp] at h
    exact h

/-- what a function that fills a transaction gives: its error; the transaction where there is none -/
def GivesF (u : World) (g : Nat) (E : Int) (x : WTxn) (e : Ending) (w' : World) : Prop :=
  e = .returned (.int .i64 E) ∧ Below u.heap.size u w' ∧ (E = 0 → TAt w' g x)

theorem givesF_no {u : World} {g : Nat} {E E' : Int} {x : WTxn} {e : Ending} {w' : World} (hE : E = E') (h0 : E' ≠ 0) (he : e = .returned (.int .i64 E')) (hb : Below u.heap.size u w') : GivesF u g E x e w' :=
  ⟨by rw [hE]; exact he, hb, fun h => absurd (hE.symm.trans h) h0⟩
theorem givesF_ok {u : World} {g : Nat} {E : Int} {x : WTxn} {e : Ending} {w' : World} (hE : E = 0) (he : e = .returned (.int .i64 0)) (hb : Below u.heap.size u w') (hx : TAt w' g x) : GivesF u g E x e w' :=
  ⟨by rw [hE]; exact he, hb, fun _ => hx⟩
theorem cell_other {W : World} {a : Addr} {v x : Value} {k j : Nat} (h : W.cell? ⟨k, j, none⟩ = some x) (hk : k ≠ a.block) : (W.setCell a v).cell? ⟨k, j, none⟩ = some x := by
  have e := Below.heap_setCell W a v k hk
  unfold World.cell? at h ⊢
  simp only at h ⊢
  rw [e]
  exact h
theorem TAt.p {W : World} {g : Nat} {x : WTxn} (h : TAt W g x) (l : List UInt8) : TAt (W.setCell ⟨g, 3, none⟩ (.string ⟨l.toArray⟩)) g { x with p := l } := by
  unfold TAt at *; rw [block_set _ h]; simp
theorem TAt.d {W : World} {g : Nat} {x : WTxn} (h : TAt W g x) (l : List UInt8) : TAt (W.setCell ⟨g, 4, none⟩ (.string ⟨l.toArray⟩)) g { x with d := l } := by
  unfold TAt at *; rw [block_set _ h]; simp
theorem TAt.v {W : World} {g : Nat} {x : WTxn} (h : TAt W g x) (l : Int) : TAt (W.setCell ⟨g, 5, none⟩ (.int .i64 l)) g { x with v := l } := by
  unfold TAt at *; rw [block_set _ h]; simp
theorem TAt.w {W : World} {g : Nat} {x : WTxn} (h : TAt W g x) (l : Int) : TAt (W.setCell ⟨g, 6, none⟩ (.int .i64 l)) g { x with w := l } := by
  unfold TAt at *; rw [block_set _ h]; simp

set_option maxRecDepth 20000 in
set_option maxHeartbeats 4000000 in
theorem fchange_any (t : Tr) (z : Int) (vn vs : Value) (r : Rq) (g : Nat) (u w : World) (gt : GoodT t) (hn : SeqV u vn t.ns) (hs : SeqV u vs t.ss) (hb : Below u.heap.size u w) (hg : u.heap.size ≤ g) (hx : TAt w g ⟨z, r.o, r.s, [], [], 0, 0⟩) (ho : r.o = 4 ∨ r.o = 5) (hp : r.p.length ≤ 140737488355328) (hd : r.d.length ≤ 140737488355328) :
    Calls Tryz.prog 47 #[.pointer (some ⟨g, 0, none⟩), .agg #[.int .i64 t.z, vn, vs], rqV r] w (GivesF u g (fchE t r) (fchX t z r)) := by
  have CG := hide (fun W (hW : Below u.heap.size u W) => tget_any t vn vs r.p W gt (hn.next hW))
  have CO := hide (fun W (hW : Below u.heap.size u W) => topen_any t.z vn vs t.ss r.s W (hs.next hW) gt.ses)
  have CP := hide (fun W => good_any ⟨r.p.toArray⟩ W)
  have CL := hide (fun W => nclone_any r.p W (by omega))
  have CD := hide (fun W => nclone_any r.d W (by omega))
  obtain ⟨na, nc, rfl⟩ := seq_slice hn
  obtain ⟨sa, sc, rfl⟩ := seq_slice hs
  unfold nodeV at CG
  obtain ⟨ro, rs, rp, rd, rv, rf⟩ := r
  unfold rqV
  simp only at *
  have X0 := hide hx
  have B0 := hide hb
  have hgl := hx.lt
  have R0 := hide (TR.new w t.z (.slice na t.ns.length nc) (.slice sa t.ss.length sc) ⟨ro, rs, rp, rd, rv, rf⟩)
  clear hn hs hb hx
  go_enter Tryz.func47, Tryz.ntmps47
  go_wp2_with fail
  refine (unhide CG _ (nnext (nnext (unhide B0) (allocB _ _)) (allocB _ _))).mono ?_
  rintro e w1 ⟨rfl, hb1⟩
  have R1 := hide ((unhide R0).next hb1)
  have B1 := hide (nnext (unhide B0) (nbox_then (nbox_then hb1)))
  have X1 := hide ((unhide X0).next (nbox_then (nbox_then hb1)))
  clear hb1 R0 B0 X0 CG
  obtain ⟨N, hN⟩ : ∃ N, getN t rp = N := ⟨_, rfl⟩
  obtain ⟨E, hE⟩ : ∃ E, getE t rp = E := ⟨_, rfl⟩
  rw [hN, hE]
  have HN := hide hN
  have HE := hide hE
  clear hN hE
  obtain ⟨np, nd, nc, nm, nq, nv, nk, no, nn⟩ := N
  simp only
  have R2 := hide ((unhide R1).next (allocB w1 (.cells #[.string ⟨np.toArray⟩, .string ⟨nd.toArray⟩, .int .i64 nc, .int .i64 nm, .int .i64 nq, .int .i64 nv, .int .i64 nk, .int .i64 no, .int .i64 nn] 46)))
  obtain ⟨a0, a1, a2, a3, a4, a5, a6, a7, a8⟩ := (unhide R2).nine
  simp only at a0 a1 a2 a3 a4 a5 a6 a7 a8
  go_wp2_with fail
  refine (unhide CP _).mono ?_
  rintro e w2 ⟨rfl, hb2⟩
  have R3 := hide ((unhide R2).next hb2)
  have B3 := hide (nnext (unhide B1) (nbox_then hb2))
  have X3 := hide ((unhide X1).next (nbox_then hb2))
  have D3 : w2.cell? ⟨w1.heap.size, 5, none⟩ = some (.int .i64 nv) := by rw [hb2.cell (p := ⟨w1.heap.size, 5, none⟩) (by simp)]; simp
  obtain ⟨b0, b1, b2, b3, b4, b5, b6, b7, b8⟩ := (unhide R3).nine
  simp only at b0 b1 b2 b3 b4 b5 b6 b7 b8
  have hg1 := (unhide X1).lt
  clear a0 a1 a2 a3 a4 a5 a6 a7 a8 hb2 R1 R2 B1 X1 CP
  cases hgd : goodB rp with
  | false =>
    have HG := hide hgd
    clear hgd
    go_wp2_with fail
    go_ret
    exact givesF_no (fch_form (unhide HG)) (by decide) rfl (unhide B3)
  | true =>
    have HG := hide hgd
    clear hgd
    go_wp2_with fail
    refine (unhide CO _ (unhide B3)).mono ?_
    rintro e w3 ⟨rfl, hb3⟩
    have R4 := hide ((unhide R3).next hb3)
    have B4 := hide (nnext (unhide B3) hb3)
    have X4 := hide ((unhide X3).next hb3)
    have D4 : w3.cell? ⟨w1.heap.size, 5, none⟩ = some (.int .i64 nv) := by rw [hb3.cell (p := ⟨w1.heap.size, 5, none⟩) (World.block_lt_of_cell? _ _ D3)]; exact D3
    obtain ⟨d0, d1, d2, d3, d4, d5, d6, d7, d8⟩ := (unhide R4).nine
    simp only at d0 d1 d2 d3 d4 d5 d6 d7 d8
    clear b0 b1 b2 b3 b4 b5 b6 b7 b8 hb3 R3 B3 X3 CO D3
    by_cases hm : rs ∈ t.ss
    · rw [show decide (rs ∈ t.ss) = true from decide_eq_true hm]
      have HM := hide hm
      clear hm
      cases hl : lookN t.ns rp with
      | none =>
        have HL := hide hl
        obtain ⟨_, h7⟩ := get_none hl
        rw [unhide HE] at h7
        subst h7
        clear hl
        go_wp2_with fail
        go_ret
        exact givesF_no (fch_none (unhide HG) (unhide HM) (unhide HL)) (by decide) rfl (unhide B4)
      | some n =>
        have HL := hide hl
        obtain ⟨hnn, h0⟩ := get_some hl
        rw [unhide HE] at h0
        subst h0
        rw [unhide HN] at hnn
        have hnv : n.v = nv := by rw [← hnn]
        have hko := gt.nod.ok n (lookN_some hl).1
        have hv0 : 0 ≤ nv := by have := hko.v0; omega
        have hv1 : nv ≤ 2147483647 := by have := hko.v1; omega
        have HV := hide hnv
        clear hl hnn hnv hko
        by_cases hv : rv = -1 ∨ rv = nv
        · have HF : Hid (fchE t ⟨ro, rs, rp, rd, rv, rf⟩ = 0) := hide ((fch_some (unhide HG) (unhide HM) (unhide HL)).trans (if_pos (by rw [unhide HV]; exact hv)))
          have HY : Hid (verN t ⟨ro, rs, rp, rd, rv, rf⟩ = nv) := hide ((ver_some (unhide HL)).trans (unhide HV))
          have hgw := (unhide X4).lt
          have hc : (rv != -1) = false ∨ ((rv != -1) = true ∧ (rv != nv) = false) := by
            rcases hv with h | h
            · exact .inl (by simp [h])
            · by_cases h1 : rv = -1
              · exact .inl (by simp [h1])
              · exact .inr ⟨by simp [h1], by simp [h]⟩
          clear HN HE HG HM HL HV hv
          rcases hc with hc1 | ⟨hc1, hc2⟩
          · rcases ho with rfl | rfl
            · have HX : Hid (fchX t z ⟨4, rs, rp, rd, rv, rf⟩ = ⟨z, 4, rs, rp, [], 0, 0⟩) := hide rfl
              go_wp2_with fail
              refine (unhide CL _).mono ?_
              rintro e w4 ⟨rfl, hb4⟩
              have R5 := hide ((unhide R4).next hb4)
              have B5 := hide (nnext (unhide B4) hb4)
              have X5 := hide ((unhide X4).next hb4)
              have D5 : w4.cell? ⟨w1.heap.size, 5, none⟩ = some (.int .i64 nv) := by rw [hb4.cell (p := ⟨w1.heap.size, 5, none⟩) (World.block_lt_of_cell? _ _ D4)]; exact D4
              have k3 := (unhide X5).c3
              have f3 := (unhide X5).f 3
              have hgw5 := (unhide X5).lt
              obtain ⟨e0, e1, e2, e3, e4, e5, e6, e7, e8⟩ := (unhide R5).nine
              simp only at e0 e1 e2 e3 e4 e5 e6 e7 e8
              have hne : w.heap.size + 1 ≠ g := by omega
              clear d0 d1 d2 d3 d4 d5 d6 d7 d8 hb4 R4 B4 X4 D4 CL
              go_wp2_with fail
              go_ret
              exact givesF_ok (unhide HF) rfl ((unhide B5).setCell hg _) (by rw [unhide HX]; exact (unhide X5).p rp)
            · have HX : Hid (fchX t z ⟨5, rs, rp, rd, rv, rf⟩ = ⟨z, 5, rs, rp, rd, nv + 1, 0⟩) := hide (by rw [fchX, unhide HY]; rfl)
              go_wp2_with fail
              refine (unhide CL _).mono ?_
              rintro e w4 ⟨rfl, hb4⟩
              have R5 := hide ((unhide R4).next hb4)
              have B5 := hide (nnext (unhide B4) hb4)
              have X5 := hide ((unhide X4).next hb4)
              have D5 : w4.cell? ⟨w1.heap.size, 5, none⟩ = some (.int .i64 nv) := by rw [hb4.cell (p := ⟨w1.heap.size, 5, none⟩) (World.block_lt_of_cell? _ _ D4)]; exact D4
              have k3 := (unhide X5).c3
              have f3 := (unhide X5).f 3
              have hgw5 := (unhide X5).lt
              obtain ⟨e0, e1, e2, e3, e4, e5, e6, e7, e8⟩ := (unhide R5).nine
              simp only at e0 e1 e2 e3 e4 e5 e6 e7 e8
              have hne : w.heap.size + 1 ≠ g := by omega
              clear d0 d1 d2 d3 d4 d5 d6 d7 d8 hb4 R4 B4 X4 D4 CL
              go_wp2_with fail
              refine (unhide CD _).mono ?_
              rintro e w6 ⟨rfl, hb6⟩
              have hgw6 : g < (w4.setCell ⟨g, 3, none⟩ (.string ⟨rp.toArray⟩)).heap.size := by simp; omega
              have B6 : Hid (Below u.heap.size u w6) := hide (nnext ((unhide B5).setCell (by exact hg) _) hb6)
              have X6 := hide (((unhide X5).p rp).next hb6)
              have D6 : w6.cell? ⟨w1.heap.size, 5, none⟩ = some (.int .i64 nv) := by
                have D7 := cell_other (a := ⟨g, 3, none⟩) (v := .string ⟨rp.toArray⟩) D5 (by simp only; omega)
                rw [hb6.cell (p := ⟨w1.heap.size, 5, none⟩) (World.block_lt_of_cell? _ _ D7)]
                exact D7
              have k4 := (unhide X6).c4
              have f4 := (unhide X6).f 4
              have k5 := (unhide X6).c5
              have f5 := (unhide X6).f 5
              clear hb6 R5 B5 X5 D5 k3 f3 CD
              go_wp2_with fail
              go_ret
              exact givesF_ok (unhide HF) rfl (((unhide B6).setCell hg _).setCell hg _) (by rw [unhide HX]; exact ((unhide X6).d rd).v (nv + 1))
          · rcases ho with rfl | rfl
            · have HX : Hid (fchX t z ⟨4, rs, rp, rd, rv, rf⟩ = ⟨z, 4, rs, rp, [], 0, 0⟩) := hide rfl
              go_wp2_with fail
              refine (unhide CL _).mono ?_
              rintro e w4 ⟨rfl, hb4⟩
              have R5 := hide ((unhide R4).next hb4)
              have B5 := hide (nnext (unhide B4) hb4)
              have X5 := hide ((unhide X4).next hb4)
              have D5 : w4.cell? ⟨w1.heap.size, 5, none⟩ = some (.int .i64 nv) := by rw [hb4.cell (p := ⟨w1.heap.size, 5, none⟩) (World.block_lt_of_cell? _ _ D4)]; exact D4
              have k3 := (unhide X5).c3
              have f3 := (unhide X5).f 3
              have hgw5 := (unhide X5).lt
              obtain ⟨e0, e1, e2, e3, e4, e5, e6, e7, e8⟩ := (unhide R5).nine
              simp only at e0 e1 e2 e3 e4 e5 e6 e7 e8
              have hne : w.heap.size + 1 ≠ g := by omega
              clear d0 d1 d2 d3 d4 d5 d6 d7 d8 hb4 R4 B4 X4 D4 CL
              go_wp2_with fail
              go_ret
              exact givesF_ok (unhide HF) rfl ((unhide B5).setCell hg _) (by rw [unhide HX]; exact (unhide X5).p rp)
            · have HX : Hid (fchX t z ⟨5, rs, rp, rd, rv, rf⟩ = ⟨z, 5, rs, rp, rd, nv + 1, 0⟩) := hide (by rw [fchX, unhide HY]; rfl)
              go_wp2_with fail
              refine (unhide CL _).mono ?_
              rintro e w4 ⟨rfl, hb4⟩
              have R5 := hide ((unhide R4).next hb4)
              have B5 := hide (nnext (unhide B4) hb4)
              have X5 := hide ((unhide X4).next hb4)
              have D5 : w4.cell? ⟨w1.heap.size, 5, none⟩ = some (.int .i64 nv) := by rw [hb4.cell (p := ⟨w1.heap.size, 5, none⟩) (World.block_lt_of_cell? _ _ D4)]; exact D4
              have k3 := (unhide X5).c3
              have f3 := (unhide X5).f 3
              have hgw5 := (unhide X5).lt
              obtain ⟨e0, e1, e2, e3, e4, e5, e6, e7, e8⟩ := (unhide R5).nine
              simp only at e0 e1 e2 e3 e4 e5 e6 e7 e8
              have hne : w.heap.size + 1 ≠ g := by omega
              clear d0 d1 d2 d3 d4 d5 d6 d7 d8 hb4 R4 B4 X4 D4 CL
              go_wp2_with fail
              refine (unhide CD _).mono ?_
              rintro e w6 ⟨rfl, hb6⟩
              have hgw6 : g < (w4.setCell ⟨g, 3, none⟩ (.string ⟨rp.toArray⟩)).heap.size := by simp; omega
              have B6 : Hid (Below u.heap.size u w6) := hide (nnext ((unhide B5).setCell (by exact hg) _) hb6)
              have X6 := hide (((unhide X5).p rp).next hb6)
              have D6 : w6.cell? ⟨w1.heap.size, 5, none⟩ = some (.int .i64 nv) := by
                have D7 := cell_other (a := ⟨g, 3, none⟩) (v := .string ⟨rp.toArray⟩) D5 (by simp only; omega)
                rw [hb6.cell (p := ⟨w1.heap.size, 5, none⟩) (World.block_lt_of_cell? _ _ D7)]
                exact D7
              have k4 := (unhide X6).c4
              have f4 := (unhide X6).f 4
              have k5 := (unhide X6).c5
              have f5 := (unhide X6).f 5
              clear hb6 R5 B5 X5 D5 k3 f3 CD
              go_wp2_with fail
              go_ret
              exact givesF_ok (unhide HF) rfl (((unhide B6).setCell hg _).setCell hg _) (by rw [unhide HX]; exact ((unhide X6).d rd).v (nv + 1))
        · have HF : Hid (fchE t ⟨ro, rs, rp, rd, rv, rf⟩ = 9) := hide ((fch_some (unhide HG) (unhide HM) (unhide HL)).trans (if_neg (by rw [unhide HV]; exact hv)))
          have hb1 : (rv != -1) = true := by simp; omega
          have hb2 : (rv != nv) = true := by simp; omega
          clear HN HE HG HM HL HV hv
          go_wp2_with fail
          go_ret
          exact givesF_no (unhide HF) (by decide) rfl (unhide B4)
    · rw [show decide (rs ∈ t.ss) = false from decide_eq_false hm]
      have HM := hide hm
      clear hm
      go_wp2_with fail
      go_ret
      exact givesF_no (fch_shut (unhide HG) (unhide HM)) (by decide) rfl (unhide B4)

end Go.Proofs.YtalnmhgedfgooaaGreatDoor
