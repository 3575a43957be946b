/-
  What wal.Keep answers: the walks.
  What a server that took a log safely comes to when it follows another log: the common beginning, the other one's rest, the epoch in a file beside the log; what it comes up with.
  What aviarykeep.pick answers: the walk.
  aviarykeep.StoreFollowed returns true: the walk.
  A transaction as an argument: opened into its seven fields, and read again.
  A disk as an argument: opened into its files; what its weights say of their lengths.
  A log as an argument: opened into its transactions; what its weights say of their lengths.
-/
import Derived.Test.YtbkndjhogaloiaaGreatDoorSGR
import Derived.Test.YtbkndjhogaloiaaGreatDoorSGU
import Derived.Test.YtbkndjhogaloiaaGreatDoorSGW
import Derived.Test.YtbkndjhogaloiaaGreatDoorSGP
import Derived.Test.YtbkndjhogaloiaaGreatDoorRows
import Derived.Test.YtbkndjhogaloiaaGreatDoorSGA
import Derived.WalkKit
import Derived.WalkSpells
import Derived.WalkLawsBesides
import Derived.Test.YtbkndjhogaloiaaGreatDoorSGC
import Derived.Test.YtbkndjhogaloiaaGreatDoorSGM
import Derived.Test.YtbkndjhogaloiaaGreatDoorSGN
import Derived.Test.YtbkndjhogaloiaaGreatDoorSGK
import Derived.ProofKit
import Derived.OpenShut
import Derived.SizedLaws
import Derived.Test.YtbkndjhogaloiaaGreatDoorSGJ
import Derived.Deep.Slices
import Derived.Carry
import Derived.Test.YtbkndjhogaloiaaGreatDoorSGB
namespace Go.Proofs.YtbkndjhogaloiaaGreatDoor
open Go.RowKit
set_option maxRecDepth 10000 in
set_option maxHeartbeats 2000000 in
theorem wkeep_yes (fs d1 d2 : List DF) (ts : List WTxn) (z : Int) (N : Nat) (GR : GivesW 21 (fun x => #[x]) fs ts d1 0) (CU : ∀ v W, LogV W v ts → Calls Tryz.prog 25 #[v, .int .i64 z] W fun e w' => e = .returned (.int .i64 N) ∧ Below W.heap.size W w')
    (GC : GivesD 24 (fun x => #[x, .string ⟨logN.toArray⟩, .int .i64 N]) d1 d2 0) : GivesD 15 (fun x => #[x, .int .i64 z]) fs d2 0 := by
  intro v w hv
  simp only [show logN.toArray = #[108, 111, 103] from rfl] at GC
  have HV := hide hv
  have HGC := hide GC
  have HCU := hide CU
  obtain ⟨a, n, c, rfl⟩ := disk_slice hv
  clear hv GC CU
  go_enter Tryz.func15, Tryz.ntmps15
  go_wp2_with fail
  have X := hide (RBox.start w (.slice a n c))
  generalize (w.alloc (.cells #[.slice a n c] 26)).alloc (.cells #[.slice none 0 0] 26) = W0 at *
  refine (GR _ _ ((unhide HV).next (unhide X).below)).mono ?_
  rintro e w1 ⟨a1, k1, c1, a2, n2, c2, rfl, HL1, HD1, hb1⟩
  have X1 := (unhide X).next hb1
  have hal := (Below.refl w1.heap.size w1).alloc (Nat.le_refl _) (.cells #[.slice a2 n2 c2] 26)
  have HX2 := hide (X1.next hal)
  have HY2 := hide (BoxAt.new w1 (.slice a2 n2 c2))
  have HL2 := hide ((unhide HL1).next hal)
  have HD2 := hide ((unhide HD1).next hal)
  clear hb1 X X1 hal GR HV HL1 HD1
  go_wp2_with fail
  generalize w1.alloc (.cells #[.slice a2 n2 c2] 26) = W1 at *
  have cy := (unhide HY2).c
  go_region_with (first
    | (go_at_call 25; refine (unhide HCU _ _ (unhide HL2).drew).mono ?_; rintro e w2 ⟨rfl, hb⟩; have hb' := below_drew hb; have HX3 := hide ((unhide HX2).next hb'); have HD3 := hide ((unhide HD2).next hb'); have cy3 := ((unhide HY2).next hb').c; clear hb hb')
    | (go_at_call 24; refine (unhide HGC _ _ (unhide HD3)).mono ?_; rintro e w3 ⟨a3, n3, c3, rfl, HD4, hb⟩; have X4 := (unhide HX3).next hb; have cr4 := X4.r.c; have fr4 := X4.r.f; have HF := hide (And.intro (X4.below.setCell (p := ⟨w.heap.size + 1, 0, none⟩) (by show w.heap.size ≤ w.heap.size + 1; omega) (.slice a3 n3 c3)) (disk_box (unhide HD4) X4.r (.slice a3 n3 c3))); clear hb X4 HX3 HD3 HD4))
  all_goals go_wp2_with fail
  all_goals exact bodyPost_ret (v := .tuple #[.agg #[.slice a3 n3 c3], .int .i64 0]) (by simp [results, Tryz.results15, go_sem, cr4]) rfl ⟨_, _, _, rfl, hide (unhide HF).2, (unhide HF).1⟩

theorem keep_yes {fs A B : List DF} {ts : List WTxn} (h : RecYes fs ts A B) (z : Int) : GivesD 15 (fun x => #[x, .int .i64 z]) fs (A ++ logF (keepL z ts) :: B) 0 := by
  refine wkeep_yes fs _ _ ts z (recsL (keepL z ts)).length (recover_yes h) (fun v W hv => upTo_any v ts z W hv h.log.good h.short) (gives_own fun v W hv => ?_)
  have g := h.after h.short
  have hk := keepL_take z ts
  have := cut_there v _ A B (logF ts) logN (recsL (keepL z ts)).length W hv (good_slim g) g (h.there ts) (by simp only [logF, List.length_nil, Nat.add_zero]; exact hk.2)
  simp only [logF, List.append_nil, hk.1] at this ⊢
  exact this
end Go.Proofs.YtbkndjhogaloiaaGreatDoor

namespace Go.Proofs.YtbkndjhogaloiaaGreatDoor
open Go.RowKit

/- two files: the epoch's, the log's -/
def epoF (e : Int) : DF := ⟨epochN, zText (zMake e 0), []⟩
theorem epo_lt : bl epochN logN = true := by decide
theorem gap_epo (s t : List UInt8) : Gap [⟨logN, s, t⟩] [] [⟨logN, s, t⟩] epochN := ⟨rfl, by simp, by simp [epo_lt]⟩
theorem there_epo (a b s t : List UInt8) : There [⟨epochN, a, b⟩, ⟨logN, s, t⟩] [] ⟨epochN, a, b⟩ [⟨logN, s, t⟩] epochN := (gap_epo s t).ins (f' := ⟨epochN, a, b⟩) rfl
theorem there_log (a b s t : List UInt8) : There [⟨epochN, a, b⟩, ⟨logN, s, t⟩] [⟨epochN, a, b⟩] ⟨logN, s, t⟩ [] logN := ⟨rfl, rfl, by simp [epo_lt], by simp⟩
theorem good_two {a b s t : List UInt8} (h1 : a.length + b.length ≤ 1048576) (h2 : s.length + t.length ≤ 1048576) : GoodD [⟨epochN, a, b⟩, ⟨logN, s, t⟩] :=
  good_ins (good_one h2) (gap_epo s t) named_epoch (by simp) (f' := ⟨epochN, a, b⟩) rfl h1
theorem rem_two {m : List WTxn} {e : Int} (he : zIn e = true) (hm : (recsL m).length ≤ 1048576) : GivesE 16 (fun x => #[x, .int .i64 e]) [logF m] [epoF e, logF m] 0 := by
  have hx := zText_len (zMake e 0)
  have g0 : GoodD [logF m] := good_one (by simpa using hm)
  have g1 : GoodD [⟨epochN, [], zText (zMake e 0)⟩, logF m] := good_two (by simp; omega) (by simpa using hm)
  refine srem_not_ok [logF m] [] [⟨epochN, [], zText (zMake e 0)⟩, logF m] [epoF e, logF m] e 7 0 (zMake_yes he (by decide)).2 (by decide) (dgives_no fun v W hv => ?_) (gives_own fun v W hv => ?_) (gives_own fun v W hv => ?_)
  · exact remove_no v [logF m] epochN 7 W hv (good_slim g0) (.inr ⟨g0, ⟨_, _, gap_epo (recsL m) []⟩, rfl⟩)
  · exact write_new v [logF m] [] [logF m] epochN (zText (zMake e 0)) W hv (good_slim g0) g0 named_epoch (by simp) (gap_epo (recsL m) []) (by omega)
  · have := sync_there v _ [] [logF m] ⟨epochN, [], zText (zMake e 0)⟩ epochN W hv (good_slim g1) g1 (there_epo [] (zText (zMake e 0)) (recsL m) [])
    simpa [epoF] using this
theorem app_two {m : List WTxn} {t : WTxn} (e : Int) (h : Logs (m ++ [t])) (hl : m.length ≤ 99) : GivesF 41 (fun x => #[x, txnV t, .bool true]) [epoF e, logF m] [epoF e, logF (m ++ [t])] 0 := by
  have hg := (Logs.at (a := m) (b := []) h).1
  have hx := zText_len (zMake e 0)
  have h1 := recs_small h.left (by omega)
  have h2 := recL_le hg
  have g0 : GoodD [epoF e, logF m] := good_two (by simp; omega) (by simp; omega)
  have g1 : GoodD [epoF e, ⟨logN, recsL m, recL t⟩] := good_two (by simp; omega) (by omega)
  refine wappF_safe [epoF e, logF m] [epoF e, ⟨logN, recsL m, recL t⟩] [epoF e, logF (m ++ [t])] t 0 hg (gives_own fun v W hv => ?_) (givesF_own fun v W hv => ?_)
  · have := write_there v [epoF e, logF m] [epoF e] [] (logF m) logN (recL t) W hv (good_slim g0) g0 (there_log _ _ _ _) (by simp only [logF, List.length_nil]; omega)
    simpa [logF] using this
  · have := sync_there v [epoF e, ⟨logN, recsL m, recL t⟩] [epoF e] [] ⟨logN, recsL m, recL t⟩ logN W hv (good_slim g1) g1 (there_log _ _ _ _)
    simpa [logF, recsL_snoc] using this
theorem rec_two {m : List WTxn} (e : Int) (h : Logs m) (hl : (recsL m).length ≤ 1048576) : RecYes [epoF e, logF m] m [epoF e] [] :=
  ⟨good_two (by have := zText_len (zMake e 0); simp; omega) (by simpa using hl), h, .inr ⟨_, [], there_log _ _ _ _, by have := scan_recs h; simpa [logF] using this⟩⟩
theorem crash_two (e : Int) (m : List WTxn) (keep : Nat) : [epoF e, logF m].map (crashF keep) = [epoF e, logF m] := by simp [crashF, logF, epoF]
theorem epoch_two {m : List WTxn} {e : Int} (he : zIn e = true) (hl : (recsL m).length ≤ 1048576) : epochD [epoF e, logF m] = e := by
  have h1 := zIn_iff.1 he
  have hm : zMake e 0 = e * 2147483648 := by rw [(zMake_yes he (by decide)).1]; omega
  have hz : zGood (zMake e 0) = true := by rw [hm]; exact zGood_iff.2 ⟨by omega, by omega⟩
  unfold epochD
  show zEpoch (zRead (readD [⟨epochN, zText (zMake e 0), []⟩, ⟨logN, recsL m, []⟩] epochN).1) = e
  rw [readD_there (good_two (by have := zText_len (zMake e 0); simp; omega) (by simpa using hl)) (there_epo _ _ _ _)]
  simp only [List.append_nil]
  rw [(read_text hz).1, zEpoch_yes hz, hm]
  omega

/- the common beginning -/
theorem keep_to {ts : List WTxn} (h : Logs ts) {j : Nat} {x : WTxn} (hx : ts[j]? = some x) : keepL x.z ts = ts.take (j + 1) := by
  obtain ⟨hj, hxe⟩ := List.getElem?_eq_some_iff.1 hx
  have hr := List.pairwise_iff_getElem.1 h.rise
  unfold keepL
  have p1 : ∀ t ∈ ts.take (j + 1), decide (t.z ≤ x.z) = true := by
    intro t ht
    obtain ⟨i, hi, rfl⟩ := List.getElem_of_mem ht
    have hi' : i < j + 1 := by simp at hi; omega
    simp only [List.getElem_take, decide_eq_true_eq]
    rw [← hxe]
    by_cases e : i = j
    · subst e; exact Int.le_refl _
    · have := hr i j (by omega) hj (by omega); omega
  have e0 := List.takeWhile_append_of_pos (l₂ := ts.drop (j + 1)) p1
  rw [List.take_append_drop] at e0
  rw [e0]
  cases hd : ts.drop (j + 1) with
  | nil => simp
  | cons y r =>
    have hy : ts[j + 1]? = some y := by
      have := congrArg (fun l => l[0]?) hd
      simpa using this
    obtain ⟨hk, rfl⟩ := List.getElem?_eq_some_iff.1 hy
    have := hr j (j + 1) hj hk (by omega)
    rw [hxe] at this
    rw [List.takeWhile_cons_of_neg (by simp; omega), List.append_nil]
theorem keep_com {a b : List WTxn} (ha : Tkn a) {z : Int} (hz : FolZ b (comN a b) z) : keepL z a = a.take (comN a b) := by
  rcases hz with ⟨h0, rfl⟩ | ⟨x, h0, hx, rfl⟩
  · rw [h0, List.take_zero]
    cases a with
    | nil => rfl
    | cons t r =>
      have := ha.pos t (by simp)
      unfold keepL
      rw [List.takeWhile_cons_of_neg (by simp; omega)]
  · obtain ⟨x', y', h1, h2, h3⟩ := comN_lt a b (comN a b - 1) (by omega)
    rw [hx] at h2
    cases h2
    rw [← h3, keep_to ha.log h1, show comN a b - 1 + 1 = comN a b by omega]
theorem tkn_fol {a b : List WTxn} (ha : Tkn a) (hb : Tkn b) : Tkn (a.take (comN a b) ++ b.drop (comN a b)) ∧ (a.take (comN a b) ++ b.drop (comN a b)).length = b.length := by
  obtain ⟨k1, k2⟩ := comN_le a b
  have hlen : (a.take (comN a b) ++ b.drop (comN a b)).length = b.length := by simp; omega
  have mem : ∀ x ∈ a.take (comN a b) ++ b.drop (comN a b), x ∈ a ∨ x ∈ b := by
    intro x hx
    rcases List.mem_append.1 hx with h | h
    · exact .inl (List.mem_of_mem_take h)
    · exact .inr (List.mem_of_mem_drop h)
  refine ⟨⟨⟨fun x hx => ?_, ?_⟩, by rw [hlen]; exact hb.few, fun x hx => ?_⟩, hlen⟩
  · rcases mem x hx with h | h
    · exact ha.log.good x h
    · exact hb.log.good x h
  · rw [List.pairwise_append]
    refine ⟨ha.log.rise.sublist (List.take_sublist ..), hb.log.rise.sublist (List.drop_sublist ..), fun x hx y hy => ?_⟩
    obtain ⟨i, hi, rfl⟩ := List.getElem_of_mem hx
    obtain ⟨j, hj, rfl⟩ := List.getElem_of_mem hy
    simp only [List.length_take, List.length_drop] at hi hj
    simp only [List.getElem_take, List.getElem_drop]
    obtain ⟨x', y', h1, h2, h3⟩ := comN_lt a b i (by omega)
    obtain ⟨hi1, e1⟩ := List.getElem?_eq_some_iff.1 h1
    obtain ⟨hi2, e2⟩ := List.getElem?_eq_some_iff.1 h2
    have := List.pairwise_iff_getElem.1 hb.log.rise i (comN a b + j) hi2 (by omega) (by omega)
    rw [e1, h3, ← e2]
    exact this
  · rcases mem x hx with h | h
    · exact ha.pos x h
    · exact hb.pos x h

theorem take_at1 {d : List WTxn} {i : Nat} {x : WTxn} (h : d[i]? = some x) : d = d.take i ++ x :: d.drop (i + 1) := by
  obtain ⟨hk, rfl⟩ := List.getElem?_eq_some_iff.1 h
  simp
/-- the server behind so many of the rest -/
noncomputable def stF (a b : List WTxn) (e : Int) (i : Nat) : Sv :=
  ⟨true, [epoF e, logF (a.take (comN a b) ++ (b.drop (comN a b)).take i)], 0, e, a.take (comN a b) ++ (b.drop (comN a b)).take i, 0, trNew, []⟩
theorem fol_step {a b : List WTxn} (ha : Tkn a) (hb : Tkn b) (e : Int) {i : Nat} {x : WTxn} (hx : (b.drop (comN a b))[i]? = some x) : TookX (stF a b e i) x (stF a b e (i + 1)) := by
  have hT := (tkn_fol ha hb).1
  have e1 : a.take (comN a b) ++ b.drop (comN a b) = (a.take (comN a b) ++ (b.drop (comN a b)).take i) ++ x :: (b.drop (comN a b)).drop (i + 1) := by
    rw [List.append_assoc, ← take_at1 hx]
  have e2 : a.take (comN a b) ++ (b.drop (comN a b)).take (i + 1) = (a.take (comN a b) ++ (b.drop (comN a b)).take i) ++ [x] := by rw [take_more1 hx, List.append_assoc]
  rw [e1] at hT
  obtain ⟨h1, h2, h3⟩ := hT.at
  have hg := hT.log.good x (by simp)
  refine ⟨h2, by have := fmB_le (gdE_zero hg).2.2.2; omega, by have := (gdE_zero hg).2.2.1; omega, by simp only [stF]; omega, [epoF e, logF ((a.take (comN a b) ++ (b.drop (comN a b)).take i) ++ [x])], ?_, app_two e h1 (by omega)⟩
  simp only [stF, e2]

/-- a server that took a log safely, and follows -/
theorem follow_yes {a b : List WTxn} (ha : Tkn a) (hb : Tkn b) (e : Int) (he : zIn e = true) (v vl : Value) (w : World) (hv : SvV w v (svF a)) (hvl : LogV w vl b) (ht : TabP w) :
    Calls Tryz.prog 7 #[v, vl, .int .i64 e] w (GivesVF w (stF a b e b.length) 0) := by
  have hr := recs_small ha.log (by have := ha.few; omega)
  obtain ⟨z, hz⟩ : ∃ z, FolZ b (comN a b) z := by
    by_cases h0 : comN a b = 0
    · exact ⟨-1, .inl ⟨h0, rfl⟩⟩
    · obtain ⟨x, y, _, h2, _⟩ := comN_lt a b (comN a b - 1) (by omega)
      exact ⟨y.z, .inr ⟨y, by omega, h2, rfl⟩⟩
  have hT := tkn_fol ha hb
  have hk : (recsL (a.take (comN a b))).length ≤ 48700 := recs_small hT.1.log.left (by have := ha.few; simp; omega)
  have G : GivesD 15 (fun g => #[g, .int .i64 z]) [logF a] [logF (a.take (comN a b))] 0 := by
    have := keep_yes (rec_one (s := recsL a) (t := []) (r := []) (by simp; omega) (by have := scan_recs ha.log; simpa using this)) z
    rw [keep_com ha hz] at this
    exact this
  have h0 : stF a b e 0 = ⟨(svF a).up, [epoF e, logF (a.take (comN a b))], (svF a).id, e, (svF a).ts.take (comN (svF a).ts b), (svF a).dn, (svF a).tr, (svF a).ws⟩ := by simp [stF, svF]
  have := sfol_main (svF a) v vl b e w hv hvl (svF_fits ha) (by have := hb.few; omega) ht (by simp [svF]) z [logF (a.take (comN a b))] [epoF e, logF (a.take (comN a b))] hz G (rem_two he (by omega)) (good_two (by have := zText_len (zMake e 0); simp; omega) (by simp; omega)) (stF a b e) h0 (fun i x hx => fol_step ha hb e hx)
  rwa [show stF a b e (b.drop (comN (svF a).ts b)).length = stF a b e b.length from by
    unfold stF
    rw [show (svF a).ts = a from rfl, List.take_length, List.take_of_length_le (l := b.drop (comN a b)) (by simp)]] at this
theorem follow_no {a b : List WTxn} (ha : Tkn a) (hb : Tkn b) (e : Int) (he : zIn e = false) (v vl : Value) (w : World) (hv : SvV w v (svF a)) (hvl : LogV w vl b) (ht : TabP w) :
    Calls Tryz.prog 7 #[v, vl, .int .i64 e] w (GivesZ w 3) := by
  have hr := recs_small ha.log (by have := ha.few; omega)
  obtain ⟨z, hz⟩ : ∃ z, FolZ b (comN a b) z := by
    by_cases h0 : comN a b = 0
    · exact ⟨-1, .inl ⟨h0, rfl⟩⟩
    · obtain ⟨x, y, _, h2, _⟩ := comN_lt a b (comN a b - 1) (by omega)
      exact ⟨y.z, .inr ⟨y, by omega, h2, rfl⟩⟩
  have G : GivesD 15 (fun g => #[g, .int .i64 z]) [logF a] [logF (a.take (comN a b))] 0 := by
    have := keep_yes (rec_one (s := recsL a) (t := []) (r := []) (by simp; omega) (by have := scan_recs ha.log; simpa using this)) z
    rw [keep_com ha hz] at this
    exact this
  have hM := (zMake_no (c := 0) (.inl he)).2
  have R := srem_no [logF (a.take (comN a b))] e (by rw [hM]; decide)
  rw [hM] at R
  exact sfol_rem (svF a) v vl b e w hv hvl (svF_fits ha) (by have := hb.few; omega) ht (by simp [svF]) z 3 [logF (a.take (comN a b))] [] hz (by decide) G R
theorem fol_whole (a b : List WTxn) : a.take (comN a b) ++ (b.drop (comN a b)).take b.length = a.take (comN a b) ++ b.drop (comN a b) := by rw [List.take_of_length_le (l := b.drop (comN a b)) (by simp)]
theorem fol_zxid (a b : List WTxn) (i : Nat) (x : WTxn) (h : b[i]? = some x) : ∃ y, (a.take (comN a b) ++ b.drop (comN a b))[i]? = some y ∧ y.z = x.z := by
  obtain ⟨k1, k2⟩ := comN_le a b
  by_cases hi : i < comN a b
  · obtain ⟨x', y', h1, h2, h3⟩ := comN_lt a b i hi
    rw [h] at h2
    cases h2
    exact ⟨x', by rw [List.getElem?_append_left (by simp; omega), List.getElem?_take_of_lt hi]; exact h1, h3⟩
  · refine ⟨x, ?_, rfl⟩
    rw [List.getElem?_append_right (by simp; omega), List.getElem?_drop]
    rw [show comN a b + (i - (a.take (comN a b)).length) = i by simp; omega]
    exact h
end Go.Proofs.YtbkndjhogaloiaaGreatDoor

namespace Go.Proofs.YtbkndjhogaloiaaGreatDoor
open Go.RowKit

theorem ret_pick {a b : Int} (h : a = b) : Ending.returned (.int .i64 a) = .returned (.int .i64 b) := by rw [h]

theorem tmod_cases (k n : Int) (hn : 0 < n) : k.tmod n = k % n ∨ k.tmod n = k % n - n := by
  rw [Int.tmod_eq_emod]
  split
  · left; omega
  · right; omega

set_option maxRecDepth 10000 in
set_option maxHeartbeats 400000 in
theorem pick_any (k n : Int) (w : World) (hn : 0 < n) (hn1 : n ≤ 1048576) (hk : -9223372036854775808 ≤ k) (hk1 : k ≤ 9223372036854775807) :
    Calls Tryz.prog 9 #[.int .i64 k, .int .i64 n] w fun e w' => e = .returned (.int .i64 (k % n)) ∧ w' = w := by
  have hm1 := Int.emod_nonneg k (show n ≠ 0 by omega)
  have hm2 := Int.emod_lt_of_pos k hn
  by_cases h0 : 0 ≤ k
  · go_enter Tryz.func9, Tryz.ntmps9
    go_wp2
    go_ret
    exact ⟨rfl, rfl⟩
  · have HT := hide (tmod_cases k n hn)
    go_enter Tryz.func9, Tryz.ntmps9
    go_wp2
    all_goals go_ret
    all_goals refine ⟨ret_pick ?_, rfl⟩
    all_goals (have hT := unhide HT; clear HT; first | omega | (unfold wrap64; omega))

end Go.Proofs.YtbkndjhogaloiaaGreatDoor

namespace Go.Proofs.YtbkndjhogaloiaaGreatDoor
open Go.RowKit

theorem givesZ_VF {w w' : World} {E : Int} {e : Ending} (h : GivesZ w E e w') : GivesVF w sv0 E e w' :=
  ⟨none, 0, 0, none, 0, 0, none, 0, 0, none, 0, 0, none, 0, 0, h.1, hide ⟨SvV.zero w', fresh_none _ _ _⟩, h.2⟩
/-- what following comes to, in both cases -/
def FolC (a b : List WTxn) (epo E : Int) (S : Sv) : Prop := (zIn epo = true ∧ E = 0 ∧ S = stF a b epo b.length) ∨ (zIn epo = false ∧ E = 3 ∧ S = sv0)
theorem follow_both {a b : List WTxn} (ha : Tkn a) (hb : Tkn b) (epo : Int) : ∃ E S, S.tr.ss = [] ∧ FolC a b epo E S ∧
    ∀ v vl w, SvV w v (svF a) → LogV w vl b → TabP w → Calls Tryz.prog 7 #[v, vl, .int .i64 epo] w (GivesVF w S E) := by
  cases he : zIn epo with
  | true => exact ⟨0, stF a b epo b.length, rfl, .inl ⟨he, rfl, rfl⟩, fun v vl w h1 h2 h3 => follow_yes ha hb epo he v vl w h1 h2 h3⟩
  | false => exact ⟨3, sv0, rfl, .inr ⟨he, rfl, rfl⟩, fun v vl w h1 h2 h3 => (follow_no ha hb epo he v vl w h1 h2 h3).mono fun _ _ h => givesZ_VF h⟩
theorem crash_epo {m : List WTxn} {e : Int} (h : (recsL m).length ≤ 1048576) (keep : Nat) : GivesD 19 (fun x => #[x, .int .i64 keep]) [epoF e, logF m] [epoF e, logF m] 0 := by
  have g : GoodD [epoF e, logF m] := good_two (by have := zText_len (zMake e 0); simp; omega) (by simpa using h)
  have h1 : GivesD 19 (fun x => #[x, .int .i64 keep]) [epoF e, logF m] ([epoF e, logF m].map (crashF keep)) 0 := gives_own fun v W hv => crash_yes v [epoF e, logF m] keep W hv (good_slim g) g
  rw [crash_two] at h1
  exact h1
theorem rec_epo {m : List WTxn} (e : Int) (h : Logs m) (hl : (recsL m).length ≤ 1048576) : GivesW 21 (fun x => #[x]) [epoF e, logF m] m [epoF e, logF m] 0 :=
  recover_yes (A := [epoF e]) (B := []) (rec_two e h hl)
theorem grown_noneS {w w' : World} (h : w.grownBy w' none) : Below w.heap.size w w' := ⟨h.os, h.tape, h.output, h.size, fun k hk => h.block k hk (by simp)⟩
/-- a server that crashed -/
def svDf (s : Sv) (d : List DF) : Sv := ⟨false, d, s.id, 0, [], 0, trNew, []⟩
/-- a server that came up with this log and this epoch -/
noncomputable def svBf (d : List DF) (ep : Int) (m : List WTxn) : Sv := ⟨true, d, 0, ep, m, 0, trNew, []⟩

set_option maxRecDepth 10000 in
set_option maxHeartbeats 4000000 in
theorem storeFollowed_walk (v v' : Value) (ts ts' : List WTxn) (epo keep : Int) (w : World) (hv : LogV w v ts) (hv' : LogV w v' ts') (hd : ∀ t ∈ ts, t.d.length ≤ 140737488355328) (hd' : ∀ t ∈ ts', t.d.length ≤ 140737488355328) (ht : TabP w) (hk0 : -9223372036854775808 ≤ keep) (hk1 : keep ≤ 9223372036854775807) :
    Calls Tryz.prog 3 #[v, v', .int .i64 epo, .int .i64 keep] w fun e w' => e = .returned (.bool true) ∧ Below w.heap.size w w' := by
  have C1 := taken_any v ts w hv hd
  have HC2 := hide (fun W (hW : Below w.heap.size w W) => taken_any v' ts' W (hv'.next hW) hd')
  have HT := hide (fun W (hW : Below w.heap.size w W) => ht.next hW)
  have CP := pick_any keep 50
  obtain ⟨kp, hkp⟩ : ∃ kp : Nat, keep % 50 = kp := ⟨(keep % 50).toNat, by rw [Int.toNat_of_nonneg (Int.emod_nonneg _ (by omega))]⟩
  rw [hkp] at CP
  obtain ⟨va, vc, rfl⟩ := log_slice hv
  obtain ⟨ma, mc, rfl⟩ := log_slice hv'
  clear hv hd hv' hd' ht hkp
  go_enter Tryz.func3, Tryz.ntmps3
  go_wp2_with fail
  refine C1.mono ?_
  rintro e w1 ⟨a1, c1, a, rfl, HM, hb1⟩
  have HB1 := hide hb1
  have C2 := unhide HC2 w1 hb1
  clear C1 HC2 hb1
  go_wp2_with fail
  refine C2.mono ?_
  rintro e w2 ⟨a2, c2, b, rfl, HN, hb2⟩
  have HB2 := hide (nnext (unhide HB1) hb2)
  have CF := filled_any _ a w2 ((unhide HM).1.next hb2) (unhide HM).2
  have HLB2 := hide (unhide HN).1
  have HBN : Hid (Tkn b) := hide (unhide HN).2
  have hbl : b.length ≤ 40 := (unhide HN).2.few
  obtain ⟨E, S, hss, hcase, hfol⟩ := follow_both (unhide HM).2 (unhide HN).2 epo
  have HSS := hide hss
  have HCASE := hide hcase
  have HFOL := hide hfol
  have HTT : Hid (Tkn (a.take (comN a b) ++ b.drop (comN a b)) ∧ (a.take (comN a b) ++ b.drop (comN a b)).length = b.length) := hide (tkn_fol (unhide HM).2 (unhide HN).2)
  clear C2 HB1 hb2 HM HN hss hcase hfol
  go_wp2_with fail
  refine CF.mono ?_
  rintro e w3 ⟨v3, rfl, hv3, hb3⟩
  obtain ⟨s, hs⟩ : ∃ s, s = svF a := ⟨_, rfl⟩
  rw [← hs] at hv3 HFOL
  obtain ⟨ad, nd, cd, al, cl, an, cn, ai, ci, aw, cw, rfl, q1, q2, q3, q4, q5⟩ := hv3.five
  have hal := allocB w3 (.cells #[.bool s.up, .slice ad nd cd, .int .i64 s.id, .int .i64 s.ep, .slice al s.ts.length cl, .int .i64 s.dn, .int .i64 s.tr.z, .slice an s.tr.ns.length cn, .slice ai s.tr.ss.length ci, .slice aw s.ws.length cw] 35)
  have HB3 := hide (nnext (nnext (unhide HB2) hb3) hal)
  have HLB3 := hide (((unhide HLB2).next hb3).next hal)
  have HX3 := hide (Box10.new w3 s.up s.id s.ep s.dn s.tr.z (.slice ad nd cd) (.slice al s.ts.length cl) (.slice an s.tr.ns.length cn) (.slice ai s.tr.ss.length ci) (.slice aw s.ws.length cw))
  have HSV3 := hide (hv3.next hal)
  clear hv3 hb3 hal q1 q2 q3 q4 q5 HB2 HLB2 CF hs
  go_upto_region 3 with fail
  generalize w3.heap.size = q at *
  generalize w3.alloc (.cells #[.bool s.up, .slice ad nd cd, .int .i64 s.id, .int .i64 s.ep, .slice al s.ts.length cl, .int .i64 s.dn, .int .i64 s.tr.z, .slice an s.tr.ns.length cn, .slice ai s.tr.ss.length ci, .slice aw s.ws.length cw] 35) = W3 at *
  go_wp2_with fail
  refine (kboots_any _).mono ?_
  rintro e w4 ⟨rfl, hb4⟩
  have HB4 := hide (nnext (unhide HB3) hb4)
  have HX4 := hide ((unhide HX3).next hb4)
  have HSV4 := hide ((unhide HSV3).next hb4)
  have HLB4 := hide ((unhide HLB3).next hb4)
  clear hb4 HB3 HX3 HSV3 HLB3
  go_upto_region 5 with fail
  obtain ⟨x0, x1, x2, x3, x4, x5, x6, x7, x8, x9⟩ := (unhide HX4).cells
  have hql := (unhide HX4).lt
  have HLS := hide (fun V (h : Below w4.heap.size w4 V) => seq_log.2 ((unhide HLB4).next h))
  have HLN : Hid (b.length * 72 ≤ 140737488355328) := hide (by omega)
  have HARG := hide (fun V (h : Below w4.heap.size w4 V) => And.intro ((unhide HSV4).next h) (unhide HT _ (nnext (unhide HB4) h)))
  go_cut [13, 14] from 35 (fun t13 t14 wx => ∃ k, t13 = .pointer (some ⟨k, 0, none⟩) ∧ t14 = .int .i64 E ∧ Hid (InBox w4 wx k S))
  case first =>
    go_region_law (first
      | (refine step_copyT (by kernel_rfl) _ _ (by rfl) (by rfl) (.slice a2 b.length c2) (by rfl) b (unhide HLS _ (by first | with_reducible exact (Below.refl _ _).drew | with_reducible exact (allocB _ _).drew)) (unhide HLN) ?_; intro a5 c5 w5 ho5 hg5; have B5 : Hid (Below w4.heap.size w4 w5) := hide (by first | with_reducible exact nbelow_drew (grown_noneS hg5) | with_reducible exact nnext (allocB _ _) (nbelow_drew (grown_noneS hg5))); have L5 := hide (seq_log.1 ho5.seq); (try (have Z5 : Hid (Box10 w5 w4.heap.size false (.slice none 0 0) 0 0 (.slice none 0 0) 0 0 (.slice none 0 0) (.slice none 0 0) (.slice none 0 0)) := hide ((newZ w4).next (nbelow_drew (grown_noneS hg5))))); have X5 := (unhide HX4).next (unhide B5); obtain ⟨u0, u1, u2, u3, u4, u5, u6, u7, u8, u9⟩ := X5.cells; have hq5 := X5.lt; clear X5 ho5 hg5)
      | (go_simp; go_at_call 7; refine (unhide HFOL _ _ _ (unhide HARG _ (by first | with_reducible exact unhide B5 | with_reducible exact nnext (unhide B5) (allocB _ _))).1 ((unhide L5).next (by first | with_reducible exact Below.refl _ _ | with_reducible exact allocB _ _)) (unhide HARG _ (by first | with_reducible exact unhide B5 | with_reducible exact nnext (unhide B5) (allocB _ _))).2).mono ?_; rintro e w6 ⟨cad, cnd, ccd, cal, cnl, ccl, can, cnn, ccn, cai, cni, cci, caw, cnw, ccw, rfl, S6, hb6⟩; have B6 : Hid (Below w4.heap.size w4 w6) := hide (by first | with_reducible exact nnext (unhide B5) hb6 | with_reducible exact nnext (nnext (unhide B5) (allocB _ _)) hb6); (try (have Z6 : Hid (Box10 w6 w4.heap.size false (.slice none 0 0) 0 0 (.slice none 0 0) 0 0 (.slice none 0 0) (.slice none 0 0) (.slice none 0 0)) := hide ((unhide Z5).next hb6); obtain ⟨zc0, zc1, zc2, zc3, zc4, zc5, zc6, zc7, zc8, zc9, zf0, zf1, zf2, zf3, zf4, zf5, zf6, zf7, zf8, zf9, zk⟩ := zcells10 (unhide Z6))); (try (have Z6 : Hid (Box10 w6 w5.heap.size false (.slice none 0 0) 0 0 (.slice none 0 0) 0 0 (.slice none 0 0) (.slice none 0 0) (.slice none 0 0)) := hide ((newZ w5).next hb6); obtain ⟨zc0, zc1, zc2, zc3, zc4, zc5, zc6, zc7, zc8, zc9, zf0, zf1, zf2, zf3, zf4, zf5, zf6, zf7, zf8, zf9, zk⟩ := zcells10 (unhide Z6))); clear hb6))
    all_goals go_wp2_with fail
    all_goals go_meet
    all_goals first
      | with_reducible exact ⟨_, rfl, rfl, hide (inbox_new (unhide B6) (unhide S6).1)⟩
      | exact ⟨_, rfl, rfl, hide (inbox_over0 (unhide B6) (Nat.le_refl _) (unhide HSS) (unhide S6).1 (unhide Z6))⟩
      | exact ⟨_, rfl, rfl, hide (inbox_over0 (unhide B6) (unhide B5).size (unhide HSS) (unhide S6).1 (unhide Z6))⟩
  case rest =>
    obtain ⟨k, rfl, rfl, HA⟩ := hcut
    clear x0 x1 x2 x3 x4 x5 x6 x7 x8 x9 hql HLS HLN HARG HX4 HSV4 HFOL
    obtain ⟨dad, dnd, dcd, dal, dnl, dcl, dan, dnn, dcn, dai, dni, dci, daw, dnw, dcw, BA, SA, hbA⟩ := unhide HA
    have HB5 := hide (nnext (unhide HB4) hbA)
    have HLB5 := hide ((unhide HLB4).next hbA)
    have HBA := hide BA
    have HSA := hide SA
    clear BA SA hbA HA HB4 HLB4 HT
    rcases unhide HCASE with ⟨he, rfl, hS⟩ | ⟨he, rfl, hS⟩
    · have hr := zIn_iff.1 he
      have h0 : ¬ epo < 0 := by omega
      have h1 : ¬ 2147483647 < epo := by omega
      obtain ⟨hT, hTl⟩ := unhide HTT
      have hcs := recs_small hT.log (by have := hT.few; omega)
      have HZX := hide (fol_zxid a b)
      rw [show stF a b epo b.length = ⟨true, [epoF epo, logF (a.take (comN a b) ++ b.drop (comN a b))], 0, epo, a.take (comN a b) ++ b.drop (comN a b), 0, trNew, []⟩ from by unfold stF; rw [fol_whole]] at hS
      clear HTT
      generalize a.take (comN a b) ++ b.drop (comN a b) = f at *
      have HEP : Hid (epochD [epoF epo, logF f] = epo) := hide (epoch_two he (by omega))
      have HDS : Hid (S.up = true ∧ S.fs = [epoF epo, logF f] ∧ S.ep = epo ∧ S.ts = f ∧ S.tr.ss = []) := hide (by rw [hS]; exact ⟨rfl, rfl, rfl, rfl, rfl⟩)
      have CCR := hide (fun v W (h : SvV W v S) => scrash_ok S v [epoF epo, logF f] kp W h (by rw [(unhide HDS).2.1]; exact crash_epo (by omega) kp))
      have CBT := hide (fun v W (h : DiskV W v [epoF epo, logF f]) => sboot_ok v [epoF epo, logF f] [epoF epo, logF f] f 0 W h (good_slim (good_two (by have := zText_len (zMake epo 0); simp; omega) (by simp; omega))) (by omega) (by omega) (rec_epo epo hT.log (by omega)))
      have CSL := hide (fun v1 v2 W (h : LogV W v1 f) (h' : LogV W v2 f) => ksl_any v1 v2 f W (by omega) h h')
      rw [unhide HEP] at CBT
      obtain ⟨s1, hs1⟩ : ∃ s1, s1 = svDf S [epoF epo, logF f] := ⟨_, rfl⟩
      rw [show (⟨false, [epoF epo, logF f], S.id, 0, [], 0, trNew, []⟩ : Sv) = s1 from hs1.symm] at CCR
      have HD1 : Hid (s1.fs = [epoF epo, logF f] ∧ s1.tr.ss = []) := hide (by rw [hs1]; exact ⟨rfl, rfl⟩)
      obtain ⟨s2, hs2⟩ : ∃ s2, s2 = svBf [epoF epo, logF f] epo f := ⟨_, rfl⟩
      rw [show (⟨true, [epoF epo, logF f], 0, epo, f, 0, trNew, []⟩ : Sv) = s2 from hs2.symm] at CBT
      have HD2 : Hid (s2.ts = f ∧ s2.ep = epo) := hide (by rw [hs2]; exact ⟨rfl, rfl⟩)
      have HLF5 : Hid (LogV wc (.slice dal b.length dcl) f ∧ dnl = b.length) := hide (by
        obtain ⟨vd, vl, vn, vs, vw, e, _, h2, _⟩ := unhide HSA
        simp only [Value.agg.injEq, Array.mk.injEq, List.cons.injEq] at e
        obtain ⟨_, _, _, _, rfl, _⟩ := e
        rw [(unhide HDS).2.2.2.1] at h2
        obtain ⟨xa, xc, hx⟩ := log_slice h2
        simp only [Value.slice.injEq] at hx
        obtain ⟨_, rfl, _⟩ := hx
        rw [hTl] at h2
        exact ⟨h2, hTl⟩)
      obtain rfl := (unhide HLF5).2
      have HFL : Hid (f.length = b.length) := hide hTl
      have HBA2 := hide (unhide HBA)
      rw [(unhide HDS).2.2.1] at HBA2
      obtain ⟨x0, x1, x2, x3, x4, x5, x6, x7, x8, x9⟩ := (unhide HBA2).cells
      clear hr he hS hs1 hs2 hT hTl hcs HEP HBN HCASE HSS HBA
      go_upto_region 10 with fail
      have hql := (unhide HBA2).lt
      have HSX := hide (fun V (h : Below wc.heap.size wc V) => (unhide HSA).next h)
      rw [← (unhide HDS).2.2.1] at x3
      generalize hwc : wc = W5 at *
      clear hwc
      go_cut [15, 16] from 74 (fun t15 t16 wx => ∃ k, t15 = .pointer (some ⟨k, 0, none⟩) ∧ t16 = .int .i64 0 ∧ Hid (InBox W5 wx k s1))
      case first =>
        go_region_with (first
          | (go_at_call 9; refine (CP _ (by omega) (by omega) hk0 hk1).mono ?_; rintro e w7 ⟨rfl, rfl⟩)
          | (go_at_call 8; refine (unhide CCR _ _ (unhide HSX _ (by first | with_reducible exact (Below.refl _ _).drew | with_reducible exact (allocB _ _).drew))).mono ?_; rintro e w7 ⟨v7, rfl, s7v, hb7⟩; have B7 : Hid (Below W5.heap.size W5 w7) := hide (by first | with_reducible exact nbelow_drew hb7 | with_reducible exact nnext (allocB _ _) (nbelow_drew hb7)); obtain ⟨gad, gnd, gcd, gal, gcl, gan, gcn, gai, gci, gaw, gcw, rfl, hh1, hh2, hh3, hh4, hh5⟩ := s7v.five; have S7 := hide s7v; clear hh1 hh2 hh3 hh4 hh5 s7v; (try (have Z7 : Hid (Box10 w7 W5.heap.size false (.slice none 0 0) 0 0 (.slice none 0 0) 0 0 (.slice none 0 0) (.slice none 0 0) (.slice none 0 0)) := hide ((newZ W5).next (nbelow_drew hb7)); obtain ⟨zc0, zc1, zc2, zc3, zc4, zc5, zc6, zc7, zc8, zc9, zf0, zf1, zf2, zf3, zf4, zf5, zf6, zf7, zf8, zf9, zk⟩ := zcells10 (unhide Z7))); clear hb7))
        all_goals go_wp2_with fail
        all_goals go_meet
        all_goals first
          | with_reducible exact ⟨_, rfl, rfl, hide (inbox_new (unhide B7) (unhide S7))⟩
          | exact ⟨_, rfl, rfl, hide (inbox_over0 (unhide B7) (Nat.le_refl _) (unhide HD1).2 (unhide S7) (unhide Z7))⟩
      case rest =>
        obtain ⟨k2, rfl, rfl, HA2⟩ := hcut
        obtain ⟨ead, eend, ecd, eal, enl, ecl, ean, enn, ecn, eai, eni, eci, eaw, enw, ecw, BE, SE, hbE⟩ := unhide HA2
        have hdk : DiskV wc (.slice ead eend ecd) [epoF epo, logF f] := by
          obtain ⟨vd, vl, vn, vs, vw, e, h1, _⟩ := SE
          simp only [Value.agg.injEq, Array.mk.injEq, List.cons.injEq] at e
          obtain ⟨_, rfl, _⟩ := e
          rw [← (unhide HD1).1]; exact h1
        have C8 := unhide CBT _ wc hdk
        have HB8 := hide (nnext (unhide HB5) hbE)
        have HLB8 := hide ((unhide HLB5).next hbE)
        have HLF8 := hide ((unhide HLF5).1.next hbE)
        have HBF8 := hide ((unhide HBA2).next hbE)
        have y1 := BE.cells.2.1
        clear HA2 BE SE hbE hdk HB5 HLB5 HLF5 HBA2 HSA HSX CCR CBT CP x0 x1 x2 x3 x4 x5 x6 x7 x8 x9 hql
        go_wp2_with fail
        refine C8.mono ?_
        rintro e w9 ⟨v9, rfl, hv9, hb9⟩
        obtain ⟨pad, pnd, pcd, pal, pcl, pan, pcn, pai, pci, paw, pcw, rfl, _, lv9, _, _, _⟩ := hv9.five
        have hal := allocB w9 (.cells #[.bool s2.up, .slice pad pnd pcd, .int .i64 s2.id, .int .i64 s2.ep, .slice pal s2.ts.length pcl, .int .i64 s2.dn, .int .i64 s2.tr.z, .slice pan s2.tr.ns.length pcn, .slice pai s2.tr.ss.length pci, .slice paw s2.ws.length pcw] 35)
        have HB9 := hide (nnext (nnext (unhide HB8) hb9) hal)
        have HLB9 := hide (((unhide HLB8).next hb9).next hal)
        have HLF9 := hide (((unhide HLF8).next hb9).next hal)
        have HBF9 := hide (((unhide HBF8).next hb9).next hal)
        have HL9 := hide (lv9.next hal)
        have HE9 := hide (Box10.new w9 s2.up s2.id s2.ep s2.dn s2.tr.z (.slice pad pnd pcd) (.slice pal s2.ts.length pcl) (.slice pan s2.tr.ns.length pcn) (.slice pai s2.tr.ss.length pci) (.slice paw s2.ws.length pcw))
        clear hv9 hb9 hal lv9 HB8 HLB8 HLF8 HBF8 C8 y1
        go_upto_region 12 with fail
        generalize w9.heap.size = r at *
        generalize w9.alloc (.cells #[.bool s2.up, .slice pad pnd pcd, .int .i64 s2.id, .int .i64 s2.ep, .slice pal s2.ts.length pcl, .int .i64 s2.dn, .int .i64 s2.tr.z, .slice pan s2.tr.ns.length pcn, .slice pai s2.tr.ss.length pci, .slice paw s2.ws.length pcw] 35) = W9 at *
        rw [(unhide HD2).1] at HL9 HE9
        rw [(unhide HD2).2] at HE9
        obtain ⟨x0, x1, x2, x3, x4, x5, x6, x7, x8, x9⟩ := (unhide HBF9).cells
        obtain ⟨y0, y1, y2, y3, y4, y5, y6, y7, y8, y9⟩ := (unhide HE9).cells
        go_wp2_with fail
        refine (unhide CSL _ _ _ (unhide HL9) (unhide HLF9)).mono ?_
        rintro e wA ⟨rfl, hbA⟩
        have HBA := hide (nnext (unhide HB9) hbA)
        have HLBA := hide ((unhide HLB9).next hbA)
        have HLFA := hide ((unhide HLF9).next hbA)
        have HBFA := hide ((unhide HBF9).next hbA)
        clear hbA HB9 HLB9 HLF9 HBF9 HL9 HE9 CSL x0 x1 x2 x3 x4 x5 x6 x7 x8 x9 y0 y1 y2 y3 y4 y5 y6 y7 y8 y9
        go_wp2_with fail
        go_loopg [19] b.length (fun kx s19 wr => ∃ i : Nat, s19 = .int .i64 i ∧ i ≤ b.length ∧ b.length - i ≤ kx ∧ Hid (Below wA.heap.size wA wr))
        case atStart => exact ⟨0, rfl, Nat.zero_le _, Nat.le_refl _, hide (Below.refl _ _)⟩
        case round =>
          obtain ⟨i, rfl, hi, hgi, HW⟩ := hrel
          by_cases hlt : i < b.length
          · obtain ⟨t, htb⟩ : ∃ t, b[i]? = some t := ⟨_, List.getElem?_eq_getElem hlt⟩
            obtain ⟨t', htf, hz⟩ := unhide HZX i t htb
            obtain ⟨fb, fo, fc, he1, _, rf, _, _, _⟩ := log_row ((unhide HLFA).next (unhide HW)) htf
            obtain ⟨bb, bo, bc, he2, _, rb, _, _, _⟩ := log_row ((unhide HLBA).next (unhide HW)) htb
            simp only [Value.slice.injEq, true_and] at he1 he2
            obtain ⟨rfl, _, rfl⟩ := he1
            obtain ⟨rfl, rfl⟩ := he2
            have e1 := rf.z htf
            have e2 := rb.z htb
            rw [hz] at e1
            have x4 := ((unhide HBFA).next (unhide HW)).cells.2.2.2.2.1
            have hii : (i : Int) < (b.length : Int) := by omega
            clear rf rb htf htb hz t'
            go_wp2_with fail
            go_region
            all_goals go_wp2_with fail
            all_goals
              go_roundg (b.length - (i + 1))
              case measure => omega
              case rel => exact ⟨i + 1, by simp, by omega, Nat.le_refl _, hide ((unhide HW).drew)⟩
          · obtain rfl : i = b.length := by omega
            go_wp2_with fail
            go_ret
            exact ⟨rfl, nnext (unhide HBA) (unhide HW)⟩
    · have hr : ¬ (0 ≤ epo ∧ epo < 2147483648) := fun h => by rw [zIn_iff.2 h] at he; cases he
      subst hS
      have x0 := (unhide HBA).cells.1
      rw [show sv0.up = false from rfl] at x0
      by_cases h0 : epo < 0
      · clear hr he
        go_wp2_with fail
        go_ret
        exact ⟨rfl, unhide HB5⟩
      · have h1 : 2147483647 < epo := by omega
        clear hr he
        go_wp2_with fail
        go_ret
        exact ⟨rfl, unhide HB5⟩
end Go.Proofs.YtbkndjhogaloiaaGreatDoor

namespace Go.Proofs.YtbkndjhogaloiaaGreatDoor
open Go.ChangeShapes Go.WideShapes Go.ChangeAt Go.RowKit Go.ChangeMaps

def txnD {H : Type} (t : WTxn) : DataW H := .agg [.lit (.int .i64 t.z), .lit (.int .i64 t.o), .lit (.int .i64 t.s), .lit (.string t.p), .lit (.string t.d), .lit (.int .i64 t.v), .lit (.int .i64 t.w)]
structure TxnOk (t : WTxn) : Prop where
  z : (Lit.int .i64 t.z).wf = true
  o : (Lit.int .i64 t.o).wf = true
  s : (Lit.int .i64 t.s).wf = true
  p : (ByteArray.mk t.p.toArray).size ≤ maxLen
  d : (ByteArray.mk t.d.toArray).size ≤ maxLen
  v : (Lit.int .i64 t.v).wf = true
  w : (Lit.int .i64 t.w).wf = true

theorem cellsInt : Tryz.prog.cellsOf 3 = 1 := by kernel_rfl
theorem cellsStr : Tryz.prog.cellsOf 9 = 1 := by kernel_rfl
theorem cellsTxn : Tryz.prog.cellsOf 47 = 7 := by kernel_rfl
theorem ba_of (s : ByteArray) : ∃ l : List UInt8, s = ⟨l.toArray⟩ := ⟨s.data.toList, rfl⟩

end Go.Proofs.YtbkndjhogaloiaaGreatDoor

namespace Go.Proofs.YtbkndjhogaloiaaGreatDoor
open Go.ChangeShapes Go.WideShapes Go.ChangeAt Go.RowKit Go.ChangeMaps
theorem laidOut : laidOutB Tryz.prog = true := by kernel_rfl
section
variable {H : Type} {enc : TypeId × Value → H} {W : World} {base : Nat} {spare : Nat → Bool} {held : Bool}
theorem weightsAll_mem {e : TypeId} : ∀ (l : List (DataW H)) (d : DataW H) (x : Nat), d ∈ l → x ∈ DataW.weights Tryz.prog e d → x ∈ DataW.weightsAll Tryz.prog e l
  | d' :: r, d, x, h, hx => by
    rw [DataW.weightsAll]
    rcases List.mem_cons.1 h with rfl | h
    · exact List.mem_append.2 (.inl hx)
    · exact List.mem_append.2 (.inr (weightsAll_mem r d x h hx))
instance : Inhabited (DataW H) := ⟨.nil⟩

end
end Go.Proofs.YtbkndjhogaloiaaGreatDoor

namespace Go.Proofs.YtbkndjhogaloiaaGreatDoor
open Go.ChangeShapes Go.WideShapes Go.ChangeAt Go.RowKit Go.ChangeMaps
theorem bytesTxn : Tryz.prog.bytesOf 47 = 72 := by kernel_rfl

section
variable {H : Type} {enc : TypeId × Value → H} {W : World} {base : Nat} {spare : Nat → Bool} {held : Bool}
set_option maxRecDepth 10000 in
theorem open_one {n : Nat} {cs : List Value} {x : DataW H × List MemPlace} (hl : cs.length = 7) (h : DataW.trod enc Tryz.prog W base spare held n 47 cs = some x) : ∃ t : WTxn, cs = tcells t ∧ x.1 = txnD t ∧ TxnOk t := by
  match cs, hl with
  | [c0, c1, c2, c3, c4, c5, c6], _ =>
    obtain ⟨xs, n, _, hx, _, hlen, hfs⟩ := DataW.trod_struct Tryz.underlying47 h
    match xs, hlen with
    | [y0, y1, y2, y3, y4, y5, y6], _ =>
      obtain ⟨z, e0, rfl, w0⟩ := DataW.trod_int Tryz.underlying3 (show DataW.trod enc Tryz.prog W base spare held n 3 [c0] = some y0 by simpa [cellsInt] using hfs 0 _ rfl)
      obtain ⟨o, e1, rfl, w1⟩ := DataW.trod_int Tryz.underlying3 (show DataW.trod enc Tryz.prog W base spare held n 3 [c1] = some y1 by simpa [cellsInt] using hfs 1 _ rfl)
      obtain ⟨s, e2, rfl, w2⟩ := DataW.trod_int Tryz.underlying3 (show DataW.trod enc Tryz.prog W base spare held n 3 [c2] = some y2 by simpa [cellsInt] using hfs 2 _ rfl)
      obtain ⟨p', e3, rfl, w3⟩ := DataW.trod_string Tryz.underlying9 (show DataW.trod enc Tryz.prog W base spare held n 9 [c3] = some y3 by simpa [cellsStr] using hfs 3 _ rfl)
      obtain ⟨d', e4, rfl, w4⟩ := DataW.trod_string Tryz.underlying9 (show DataW.trod enc Tryz.prog W base spare held n 9 [c4] = some y4 by simpa [cellsStr] using hfs 4 _ rfl)
      obtain ⟨v', e5, rfl, w5⟩ := DataW.trod_int Tryz.underlying3 (show DataW.trod enc Tryz.prog W base spare held n 3 [c5] = some y5 by simpa [cellsInt] using hfs 5 _ rfl)
      obtain ⟨u', e6, rfl, w6⟩ := DataW.trod_int Tryz.underlying3 (show DataW.trod enc Tryz.prog W base spare held n 3 [c6] = some y6 by simpa [cellsInt] using hfs 6 _ rfl)
      simp only [List.cons.injEq, and_true] at e0 e1 e2 e3 e4 e5 e6
      subst e0 e1 e2 e3 e4 e5 e6
      obtain ⟨pl, rfl⟩ := ba_of p'
      obtain ⟨dl, rfl⟩ := ba_of d'
      subst hx
      exact ⟨⟨z, o, s, pl, dl, v', u'⟩, rfl, rfl, ⟨w0, w1, w2, w3, w4, w5, w6⟩⟩
theorem weights_txn (t : WTxn) : DataW.weights Tryz.prog 47 (txnD t : DataW H) = [t.p.length, t.d.length] := by
  simp [DataW.weights, txnD, Tryz.underlying47, DataW.weightsEach]

set_option maxRecDepth 10000 in
theorem open_log {r : Reach} {b0 : Nat} {v : Value} {d : DataW H} {p : List MemPlace}
    (hv : Value.okWide Tryz.prog W r b0 22 v) (h : DataW.Trod enc Tryz.prog W base spare held 22 v d p) :
    ∃ ts, LogV W v ts ∧ (∀ t ∈ ts, TxnOk t) ∧ ∀ M, (∀ x ∈ DataW.weights Tryz.prog 22 d, x ≤ M) → (∀ t ∈ ts, t.p.length ≤ M ∧ t.d.length ≤ M) ∧ ts.length * 72 ≤ M := by
  obtain ⟨fuel, hf⟩ := h
  obtain ⟨sa, sl, sc, rfl⟩ := okWide_slice Tryz.underlying22 hv
  have hf' : DataW.trod enc Tryz.prog W base spare held fuel 22 [.slice sa sl sc] = some (d, p) := by simpa [Value.cells] using hf
  clear hf
  rcases Go.Deep.open_slice Tryz.underlying22 hf' with ⟨h1, hx⟩ | ⟨a, len, cap, m, k, D, Pl, h1, hb, hl, hm, hmm, hx, hel⟩
  · simp only [List.cons.injEq, and_true] at h1
    rw [h1]
    exact ⟨[], LogV.nil W, by simp, fun M _ => ⟨by simp, by simp⟩⟩
  · simp only [List.cons.injEq, and_true] at h1
    rw [h1]
    simp only [Prod.mk.injEq] at hx
    obtain ⟨rfl, _⟩ := hx
    have hlm : len ≤ m := by rw [hmm]; split <;> omega
    have each : ∀ i, i < len → ∃ t : WTxn, (∀ c, c < 7 → W.cell? (a.add (i * 7 + c)) = (tcells t)[c]?) ∧ D i = txnD t ∧ TxnOk t := by
      intro i hi
      obtain ⟨cs', g1, g2⟩ := hel i (by omega)
      rw [cellsTxn] at g1
      obtain ⟨_, hlen, hcell⟩ := World.cells?_some g1
      obtain ⟨t, rfl, hd, hok⟩ := open_one hlen g2
      refine ⟨t, fun c hc => ?_, hd, hok⟩
      have := hcell c hc
      rwa [Go.Deep.add_add] at this
    have : Inhabited WTxn := ⟨t0⟩
    obtain ⟨F, hF⟩ := Go.Deep.choose_lt each
    refine ⟨(List.range len).map F, ?_, ?_, ?_⟩
    · by_cases h0 : len = 0
      · subst h0
        exact .inl ⟨some a, cap, rfl, rfl, hm⟩
      · have c0 := (hF 0 (by omega)).1 0 (by decide)
        obtain ⟨b, off, sp⟩ := a
        have hsp : sp = none := by
          cases sp with
          | none => rfl
          | some s => simp [World.cell?, Addr.add, tcells] at c0; split at c0 <;> simp at c0
        subst hsp
        have hblt : b < W.heap.size := World.block_lt_of_cell? W _ (show W.cell? ((⟨b, off, none⟩ : Addr).add (0 * 7 + 0)) = some _ from c0) |> fun h => by simpa [Addr.add] using h
        refine .inr ⟨b, off, cap, by simp, by simpa using hl, hm, hblt, by simp; omega, fun j u hj => ?_⟩
        have hjl : j < len * 7 := by
          have := (List.getElem?_eq_some_iff.1 hj).1
          rw [cellsT_length] at this
          simpa using this
        have hi : j / 7 < len := by omega
        have hg := cellsT_get ((List.range len).map F) (j / 7) (F (j / 7)) (by simp [hi]) (j % 7) (by omega)
        rw [show j / 7 * 7 + j % 7 = j by omega, hj] at hg
        have := (hF (j / 7) hi).1 (j % 7) (by omega)
        rw [show j / 7 * 7 + j % 7 = j by omega, Addr.add_lit, ← hg] at this
        exact this
    · intro t ht
      obtain ⟨i, hi, rfl⟩ := List.mem_map.1 ht
      exact (hF i (by simpa using hi)).2.2
    · intro M hM
      have hw : DataW.weights Tryz.prog 22 (.slice ((List.range len).map D) ((List.range (m - len)).map fun j => D (len + j)) : DataW H) =
          (len + (m - len)) * 72 :: (DataW.weightsAll Tryz.prog 47 ((List.range len).map D) ++ DataW.weightsAll Tryz.prog 47 ((List.range (m - len)).map fun j => D (len + j))) := by
        simp [DataW.weights, Tryz.underlying22, bytesTxn]
      rw [hw] at hM
      refine ⟨fun t ht => ?_, ?_⟩
      · obtain ⟨i, hi, rfl⟩ := List.mem_map.1 ht
        have hi' : i < len := by simpa using hi
        have key : ∀ x ∈ DataW.weights Tryz.prog 47 (D i), x ≤ M := fun x hx => hM x (List.mem_cons_of_mem _ (List.mem_append.2 (.inl (weightsAll_mem _ (D i) x (List.mem_map.2 ⟨i, hi, rfl⟩) hx))))
        rw [(hF i hi').2.1, weights_txn] at key
        exact ⟨key _ (by simp), key _ (by simp)⟩
      · have := hM _ (List.mem_cons_self ..)
        simp only [List.length_map, List.length_range]
        omega
theorem sized_log {ts : List TypeId} {ds : List (DataW H)} (h : (DataW.weightsEach Tryz.prog ts ds).all (· ≤ reachBytes) = true) {j : Nat} {d : DataW H} (ht : ts[j]? = some 22) (hd : ds[j]? = some d) : ∀ x ∈ DataW.weights Tryz.prog 22 d, x ≤ 140737488351232 := by
  intro x hx
  have e : reachBytes = 140737488351232 := by decide
  have h1 := List.all_eq_true.1 h _ (DataW.weights_mem_each ht hd x hx)
  rw [e] at h1
  simpa using h1
end
end Go.Proofs.YtbkndjhogaloiaaGreatDoor
