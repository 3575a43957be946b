/-
  A transaction and its record as plain lists of bytes: what is wrong with one, its bytes, what bytes tell; that these go together. No program is named here.
-/
import Derived.Test.YtnbkpilgmjjflaaDoorZx
import Derived.Test.YtnbkpilgmjjflaaDoorSplit
import Derived.Test.YtnbkpilgmjjflaaDoorWCrc
namespace Go.Proofs.YtnbkpilgmjjflaaDoor
open Go.RowKit

/- numbers as bytes, the highest first -/
def be : Nat → Nat → List UInt8
  | 0, _ => []
  | k + 1, n => be k (n / 256) ++ [UInt8.ofNat n]
def un (l : List UInt8) : Nat := l.foldl (fun a b => a * 256 + b.toNat) 0
theorem be_length : ∀ k n, (be k n).length = k
  | 0, _ => rfl
  | k + 1, n => by rw [be, List.length_append, be_length k]; rfl
theorem un_snoc (l : List UInt8) (b : UInt8) : un (l ++ [b]) = un l * 256 + b.toNat := by simp [un]
theorem un_be : ∀ k n, n < 256 ^ k → un (be k n) = n
  | 0, n, h => by have : n = 0 := by simpa using h
                  subst this; rfl
  | k + 1, n, h => by
    rw [be, un_snoc, un_be k (n / 256) (by rw [Nat.pow_succ] at h; omega)]
    have : (UInt8.ofNat n).toNat = n % 256 := by simp
    omega
theorem un_lt (l : List UInt8) : un l < 256 ^ l.length := by
  induction h : l.length generalizing l with
  | zero => obtain rfl := List.eq_nil_of_length_eq_zero h; decide
  | succ k ih =>
    rcases List.eq_nil_or_concat l with rfl | ⟨a, b, rfl⟩
    · simp at h
    · rw [List.concat_eq_append] at h ⊢
      have hk : a.length = k := by simpa using h
      have h1 := ih a hk
      have h2 := b.toNat_lt
      rw [un_snoc, Nat.pow_succ]
      omega
theorem be_un (l : List UInt8) : be l.length (un l) = l := by
  induction h : l.length generalizing l with
  | zero => obtain rfl := List.eq_nil_of_length_eq_zero h; rfl
  | succ k ih =>
    rcases List.eq_nil_or_concat l with rfl | ⟨a, b, rfl⟩
    · simp at h
    · rw [List.concat_eq_append] at h ⊢
      have hk : a.length = k := by simpa using h
      have h2 := b.toNat_lt
      rw [un_snoc, be, show (un a * 256 + b.toNat) / 256 = un a from by omega, ih a hk]
      congr 2
      apply UInt8.toNat_inj.1
      have : (UInt8.ofNat (un a * 256 + b.toNat)).toNat = (un a * 256 + b.toNat) % 256 := by simp
      omega
theorem be_back {l : List UInt8} {k : Nat} (h : l.length = k) : be k (un l) = l := by rw [← h]; exact be_un l

/- transactions -/
structure WTxn where
  z : Int
  o : Int
  s : Int
  p : List UInt8
  d : List UInt8
  v : Int
  w : Int
def t0 : WTxn := ⟨0, 0, 0, [], [], 0, 0⟩
def cntB (n least : Int) : Bool := decide (least ≤ n) && decide (n ≤ 2147483647)
theorem cntB_iff {n k : Int} : cntB n k = true ↔ k ≤ n ∧ n ≤ 2147483647 := by simp [cntB]
def opB (o : Int) : Bool := decide (1 ≤ o) && decide (o ≤ 5)
theorem opB_iff {o : Int} : opB o = true ↔ 1 ≤ o ∧ o ≤ 5 := by simp [opB]
def numB (t : WTxn) : Bool := zGood t.z && cntB t.s 1 && cntB t.v 0 && cntB t.w 0
theorem numB_iff {t : WTxn} : numB t = true ↔ zGood t.z = true ∧ cntB t.s 1 = true ∧ cntB t.v 0 = true ∧ cntB t.w 0 = true := by simp [numB, and_assoc]
def fmB (t : WTxn) : Bool :=
  if t.o = 3 then goodB t.p && !(t.p == [47]) && t.v == 0
  else if t.o = 4 then goodB t.p && !(t.p == [47]) && t.d == [] && t.v == 0 && t.w == 0
  else if t.o = 5 then goodB t.p && t.w == 0
  else t.p == [] && t.d == [] && t.v == 0 && t.w == 0
def gdE (t : WTxn) : Int :=
  if opB t.o then (if numB t then (if t.d.length ≤ 256 then (if fmB t then 0 else 2) else 1) else 3) else 4
theorem gdE_kind {t : WTxn} (h : opB t.o = false) : gdE t = 4 := by simp [gdE, h]
theorem gdE_range {t : WTxn} (h : opB t.o = true) (h1 : numB t = false) : gdE t = 3 := by simp [gdE, h, h1]
theorem gdE_long {t : WTxn} (h : opB t.o = true) (h1 : numB t = true) (h2 : 256 < t.d.length) : gdE t = 1 := by
  simp [gdE, h, h1, show ¬ t.d.length ≤ 256 from by omega]
theorem gdE_form {t : WTxn} (h : opB t.o = true) (h1 : numB t = true) (h2 : t.d.length ≤ 256) (h3 : fmB t = false) : gdE t = 2 := by simp [gdE, h, h1, h2, h3]
theorem gdE_ok {t : WTxn} (h : opB t.o = true) (h1 : numB t = true) (h2 : t.d.length ≤ 256) (h3 : fmB t = true) : gdE t = 0 := by simp [gdE, h, h1, h2, h3]
theorem gdE_zero {t : WTxn} (h : gdE t = 0) : opB t.o = true ∧ numB t = true ∧ t.d.length ≤ 256 ∧ fmB t = true := by
  unfold gdE at h
  split at h
  · split at h
    · split at h
      · split at h
        · exact ⟨‹_›, ‹_›, ‹_›, ‹_›⟩
        · exact absurd h (by decide)
      · exact absurd h (by decide)
    · exact absurd h (by decide)
  · exact absurd h (by decide)
theorem path_le {p : List UInt8} (h : goodB p = true) : p.length ≤ 200 := by
  unfold goodB at h
  simp only [Bool.and_eq_true, decide_eq_true_eq] at h
  exact h.1.1
theorem fmB_le {t : WTxn} (h : fmB t = true) : t.p.length ≤ 200 := by
  unfold fmB at h
  split at h
  · simp only [Bool.and_eq_true] at h; exact path_le h.1.1
  · split at h
    · simp only [Bool.and_eq_true] at h; exact path_le h.1.1.1.1
    · split at h
      · simp only [Bool.and_eq_true] at h; exact path_le h.1
      · simp only [Bool.and_eq_true, beq_iff_eq] at h; rw [h.1.1.1]; decide
/-- what the numbers and lengths of a good one are -/
theorem gd_bounds {t : WTxn} (h : gdE t = 0) : (0 ≤ t.z ∧ t.z < 4611686018427387904) ∧ (1 ≤ t.o ∧ t.o ≤ 5) ∧ (1 ≤ t.s ∧ t.s ≤ 2147483647) ∧ (0 ≤ t.v ∧ t.v ≤ 2147483647) ∧ (0 ≤ t.w ∧ t.w ≤ 2147483647) ∧ t.p.length ≤ 200 ∧ t.d.length ≤ 256 := by
  obtain ⟨h1, h2, h3, h4⟩ := gdE_zero h
  obtain ⟨a, b, c, d⟩ := numB_iff.1 h2
  exact ⟨zGood_iff.1 a, opB_iff.1 h1, cntB_iff.1 b, cntB_iff.1 c, cntB_iff.1 d, fmB_le h4, h3⟩

/- records -/
def bodyL (t : WTxn) : List UInt8 :=
  be 8 t.z.toNat ++ (be 1 t.o.toNat ++ (be 4 t.s.toNat ++ (be 4 t.v.toNat ++ (be 4 t.w.toNat ++ (be 1 t.p.length ++ (t.p ++ (be 2 t.d.length ++ t.d)))))))
def frontL (b : List UInt8) : List UInt8 := 84 :: (be 2 b.length ++ b)
def recL (t : WTxn) : List UInt8 := frontL (bodyL t) ++ be 4 (sumN (frontL (bodyL t)))
theorem bodyL_length (t : WTxn) : (bodyL t).length = 24 + t.p.length + t.d.length := by
  simp only [bodyL, List.length_append, be_length]; omega
theorem frontL_length (b : List UInt8) : (frontL b).length = b.length + 3 := by
  simp only [frontL, List.length_cons, List.length_append, be_length]; omega
theorem recL_length (t : WTxn) : (recL t).length = 31 + t.p.length + t.d.length := by
  simp only [recL, List.length_append, be_length, frontL_length, bodyL_length]; omega

/- what bytes tell -/
def plOf (b : List UInt8) : Nat := un ((b.drop 21).take 1)
def dlOf (b : List UInt8) : Nat := un ((b.drop (22 + plOf b)).take 2)
def tOf (b : List UInt8) : WTxn :=
  ⟨wrap64 (un (b.take 8)), un ((b.drop 8).take 1), un ((b.drop 9).take 4), (b.drop 22).take (plOf b), b.drop (24 + plOf b), un ((b.drop 13).take 4), un ((b.drop 17).take 4)⟩
/-- do the body's lengths fit it? -/
def fitB (b : List UInt8) : Bool := decide (24 + plOf b ≤ b.length) && decide (b.length = 24 + plOf b + dlOf b)
def unfE (b : List UInt8) : Int := if fitB b then gdE (tOf b) else 2
def unfT (b : List UInt8) : WTxn := if unfE b = 0 then tOf b else t0
def lenOf (s : List UInt8) : Nat := un ((s.drop 1).take 2)
/-- is there a T, a length, as many bytes and four more? -/
def wholeB (s : List UInt8) : Bool := s.take 1 == [84] && decide (lenOf s ≤ 1024) && decide (lenOf s + 7 ≤ s.length)
def sumB (s : List UInt8) : Bool := un ((s.drop (lenOf s + 3)).take 4) == sumN (s.take (lenOf s + 3))
def insideL (s : List UInt8) : List UInt8 := (s.drop 3).take (lenOf s)
def decE (s : List UInt8) : Int := if wholeB s then (if sumB s then unfE (insideL s) else 5) else 2
def decT (s : List UInt8) : WTxn := if decE s = 0 then tOf (insideL s) else t0
def decN (s : List UInt8) : Int := if decE s = 0 then (lenOf s + 7 : Nat) else 0

theorem dec_bad {s : List UInt8} (h : wholeB s = false) : decE s = 2 ∧ decT s = t0 ∧ decN s = 0 := by
  have e : decE s = 2 := by simp [decE, h]
  exact ⟨e, by simp [decT, e], by simp [decN, e]⟩
theorem dec_sum {s : List UInt8} (h : wholeB s = true) (h1 : sumB s = false) : decE s = 5 ∧ decT s = t0 ∧ decN s = 0 := by
  have e : decE s = 5 := by simp [decE, h, h1]
  exact ⟨e, by simp [decT, e], by simp [decN, e]⟩
theorem dec_form {s : List UInt8} (h : wholeB s = true) (h1 : sumB s = true) {e : Int} (h2 : unfE (insideL s) = e) (h3 : e ≠ 0) : decE s = e ∧ decT s = t0 ∧ decN s = 0 := by
  have e : decE s = e := by simp [decE, h, h1, h2]
  exact ⟨e, by rw [decT, e, if_neg h3], by rw [decN, e, if_neg h3]⟩
theorem dec_ok {s : List UInt8} (h : wholeB s = true) (h1 : sumB s = true) (h2 : unfE (insideL s) = 0) : decE s = 0 ∧ decT s = tOf (insideL s) ∧ decN s = (lenOf s + 7 : Nat) := by
  have e : decE s = 0 := by simp [decE, h, h1, h2]
  exact ⟨e, by rw [decT, e, if_pos rfl], by rw [decN, e, if_pos rfl]⟩
theorem unf_bad {b : List UInt8} (h : fitB b = false) : unfE b = 2 ∧ unfT b = t0 := by
  have e : unfE b = 2 := by simp [unfE, h]
  exact ⟨e, by simp [unfT, e]⟩
theorem unf_no {b : List UInt8} (h : fitB b = true) (h1 : gdE (tOf b) ≠ 0) : unfE b = gdE (tOf b) ∧ unfT b = t0 := by
  have e : unfE b = gdE (tOf b) := by simp [unfE, h]
  exact ⟨e, by rw [unfT, e, if_neg h1]⟩
theorem unf_ok {b : List UInt8} (h : fitB b = true) (h1 : gdE (tOf b) = 0) : unfE b = 0 ∧ unfT b = tOf b := by
  have e : unfE b = 0 := by simp [unfE, h, h1]
  exact ⟨e, by rw [unfT, e, if_pos rfl]⟩
theorem wholeB_iff {s : List UInt8} : wholeB s = true ↔ s.take 1 = [84] ∧ lenOf s ≤ 1024 ∧ lenOf s + 7 ≤ s.length := by
  simp [wholeB, and_assoc]
theorem wholeB_no {s : List UInt8} (h : ¬ (s.take 1 = [84] ∧ lenOf s ≤ 1024 ∧ lenOf s + 7 ≤ s.length)) : wholeB s = false := by
  cases hw : wholeB s with
  | false => rfl
  | true => exact absurd (wholeB_iff.1 hw) h
theorem fitB_iff {b : List UInt8} : fitB b = true ↔ 24 + plOf b ≤ b.length ∧ b.length = 24 + plOf b + dlOf b := by simp [fitB]
theorem fitB_no {b : List UInt8} (h : ¬ (24 + plOf b ≤ b.length ∧ b.length = 24 + plOf b + dlOf b)) : fitB b = false := by
  cases hw : fitB b with
  | false => rfl
  | true => exact absurd (fitB_iff.1 hw) h
theorem sumB_iff {s : List UInt8} : sumB s = true ↔ un ((s.drop (lenOf s + 3)).take 4) = sumN (s.take (lenOf s + 3)) := by simp [sumB]

/- together: what a record tells -/
theorem cut_at {a b : List UInt8} {k : Nat} (h : a.length = k) : (a ++ b).take k = a ∧ (a ++ b).drop k = b := by
  subst h; simp
theorem drop_more {l a b : List UInt8} {j k : Nat} (h : l.drop j = a ++ b) (hk : a.length = k) : l.drop (j + k) = b := by
  rw [← List.drop_drop, h]; exact (cut_at hk).2
theorem take_more {l a b : List UInt8} {j k : Nat} (h : l.drop j = a ++ b) (hk : a.length = k) : (l.drop j).take k = a := by
  rw [h]; exact (cut_at hk).1
theorem w64_id {n : Int} (h : 0 ≤ n) (h1 : n < 9223372036854775808) : wrap64 n = n := by unfold wrap64; omega
theorem t_body {t : WTxn} (h : gdE t = 0) : fitB (bodyL t) = true ∧ tOf (bodyL t) = t := by
  obtain ⟨hz, ho, hs, hv, hw, hp, hd⟩ := gd_bounds h
  have e0 : (bodyL t).drop 0 = be 8 t.z.toNat ++ _ := rfl
  have e1 := drop_more e0 (be_length 8 _)
  have e2 := drop_more e1 (be_length 1 _)
  have e3 := drop_more e2 (be_length 4 _)
  have e4 := drop_more e3 (be_length 4 _)
  have e5 := drop_more e4 (be_length 4 _)
  have e6 := drop_more e5 (be_length 1 _)
  have e7 := drop_more e6 (rfl : t.p.length = t.p.length)
  have e8 := drop_more e7 (be_length 2 _)
  have g0 := take_more e0 (be_length 8 _)
  have g1 := take_more e1 (be_length 1 _)
  have g2 := take_more e2 (be_length 4 _)
  have g3 := take_more e3 (be_length 4 _)
  have g4 := take_more e4 (be_length 4 _)
  have g5 := take_more e5 (be_length 1 _)
  have g6 := take_more e6 (rfl : t.p.length = t.p.length)
  have g7 := take_more e7 (be_length 2 _)
  simp only [Nat.zero_add, Nat.reduceAdd, List.drop_zero] at e1 e2 e3 e4 e5 e6 e7 e8 g0 g1 g2 g3 g4 g5 g6 g7
  have hpl : plOf (bodyL t) = t.p.length := by rw [plOf, g5]; exact un_be 1 _ (by omega)
  have hdl : dlOf (bodyL t) = t.d.length := by rw [dlOf, hpl, g7]; exact un_be 2 _ (by omega)
  refine ⟨fitB_iff.2 ?_, ?_⟩
  · rw [hpl, hdl, bodyL_length]; omega
  · rw [tOf, hpl, g0, g1, g2, g3, g4, g6, show 24 + t.p.length = 22 + t.p.length + 2 from by omega, e8]
    rw [un_be 8 _ (by omega), un_be 1 _ (by omega), un_be 4 _ (by omega), un_be 4 _ (by omega), un_be 4 _ (by omega), w64_id (by omega) (by omega)]
    simp only [Int.toNat_of_nonneg hz.1, Int.toNat_of_nonneg hv.1, Int.toNat_of_nonneg hw.1, Int.toNat_of_nonneg (show 0 ≤ t.o by omega), Int.toNat_of_nonneg (show 0 ≤ t.s by omega)]
theorem unf_body {t : WTxn} (h : gdE t = 0) : unfE (bodyL t) = 0 := by
  obtain ⟨h1, h2⟩ := t_body h
  rw [unfE, h1, h2, h]; rfl

/-- bytes that begin as a record does: T, the length of b, b, four bytes m, whatever behind -/
theorem dec_parts {b m more : List UInt8} (hb : b.length ≤ 1024) (hm : m.length = 4) : 
    wholeB (frontL b ++ (m ++ more)) = true ∧ lenOf (frontL b ++ (m ++ more)) = b.length ∧ insideL (frontL b ++ (m ++ more)) = b ∧
    sumB (frontL b ++ (m ++ more)) = (un m == sumN (frontL b)) := by
  have e0 : (frontL b ++ (m ++ more)).drop 1 = be 2 b.length ++ (b ++ (m ++ more)) := by simp [frontL]
  have g0 := take_more e0 (be_length 2 _)
  have e1 := drop_more e0 (be_length 2 _)
  have g1 := take_more e1 (rfl : b.length = b.length)
  have hl : lenOf (frontL b ++ (m ++ more)) = b.length := by rw [lenOf, g0]; exact un_be 2 _ (by omega)
  have hf : (frontL b).length = b.length + 3 := frontL_length b
  refine ⟨wholeB_iff.2 ⟨by simp [frontL], by omega, ?_⟩, hl, ?_, ?_⟩
  · rw [hl, List.length_append, List.length_append, hf]; omega
  · rw [insideL, hl]; exact g1
  · rw [sumB, hl, (cut_at hf).1, (cut_at hf).2, (cut_at hm).1]
theorem rec_split (t : WTxn) (more : List UInt8) : recL t ++ more = frontL (bodyL t) ++ (be 4 (sumN (frontL (bodyL t))) ++ more) := by rw [recL, List.append_assoc]
theorem gd_body_le {t : WTxn} (h : gdE t = 0) : (bodyL t).length ≤ 1024 := by
  obtain ⟨_, _, _, _, _, hp, hd⟩ := gd_bounds h
  rw [bodyL_length]; omega
theorem dec_rec {t : WTxn} (h : gdE t = 0) (more : List UInt8) : decE (recL t ++ more) = 0 ∧ decT (recL t ++ more) = t ∧ decN (recL t ++ more) = (recL t).length := by
  rw [rec_split]
  obtain ⟨h1, h2, h3, h4⟩ := dec_parts (b := bodyL t) (m := be 4 (sumN (frontL (bodyL t)))) (more := more) (gd_body_le h) (be_length 4 _)
  have hs : un (be 4 (sumN (frontL (bodyL t)))) = sumN (frontL (bodyL t)) := un_be 4 _ (by have := sumN_lt (frontL (bodyL t)); omega)
  rw [hs, beq_self_eq_true] at h4
  obtain ⟨a, b, c⟩ := dec_ok h1 h4 (by rw [h3]; exact unf_body h)
  refine ⟨a, ?_, ?_⟩
  · rw [b, h3]; exact (t_body h).2
  · rw [c, h2, bodyL_length, recL_length]; omega

theorem zGood_w64 {n : Nat} (h : n < 18446744073709551616) (h1 : zGood (wrap64 n) = true) : (wrap64 n).toNat = n := by
  have h2 := zGood_iff.1 h1
  unfold wrap64 at h2 ⊢
  omega
theorem body_t {b : List UInt8} (h : fitB b = true) (h1 : gdE (tOf b) = 0) : bodyL (tOf b) = b := by
  obtain ⟨f1, f2⟩ := fitB_iff.1 h
  obtain ⟨_, hn, _, _⟩ := gdE_zero h1
  have hz := (numB_iff.1 hn).1
  have u8 : un (b.take 8) < 18446744073709551616 := by
    have := un_lt (b.take 8)
    rw [List.length_take_of_le (by omega)] at this
    exact this
  have hp : ((b.drop 22).take (plOf b)).length = plOf b := by rw [List.length_take, List.length_drop]; omega
  have hd : (b.drop (24 + plOf b)).length = dlOf b := by rw [List.length_drop]; omega
  have k : ∀ i n, i + n ≤ b.length → ((b.drop i).take n).length = n := fun i n hh => by rw [List.length_take, List.length_drop]; omega
  have hz' : (tOf b).z.toNat = un (b.take 8) := zGood_w64 u8 hz
  unfold bodyL
  rw [hz']
  show be 8 _ ++ (be 1 (un ((b.drop 8).take 1)) ++ (be 4 (un ((b.drop 9).take 4)) ++ (be 4 (un ((b.drop 13).take 4)) ++ (be 4 (un ((b.drop 17).take 4)) ++ (be 1 ((b.drop 22).take (plOf b)).length ++ ((b.drop 22).take (plOf b) ++ (be 2 (b.drop (24 + plOf b)).length ++ b.drop (24 + plOf b)))))))) = b
  rw [hp, hd]
  conv => lhs; rw [show be 1 (plOf b) = (b.drop 21).take 1 from be_back (k _ _ (by omega)), show be 2 (dlOf b) = (b.drop (22 + plOf b)).take 2 from be_back (k _ _ (by omega))]
  rw [be_back (k 8 1 (by omega)), be_back (k 9 4 (by omega)), be_back (k 13 4 (by omega)), be_back (k 17 4 (by omega)), be_back (l := b.take 8) (by rw [List.length_take_of_le (by omega)])]
  have j : ∀ i n m, m = i + n → (b.drop i).take n ++ b.drop m = b.drop i := fun i n m hm => by rw [hm, ← List.drop_drop, List.take_append_drop]
  rw [j (22 + plOf b) 2 (24 + plOf b) (by omega), j 22 (plOf b) _ rfl, j 21 1 22 rfl, j 17 4 21 rfl, j 13 4 17 rfl, j 9 4 13 rfl, j 8 1 9 rfl, List.take_append_drop]
theorem dec_only {s : List UInt8} (h : decE s = 0) : gdE (decT s) = 0 ∧ ∃ n : Nat, decN s = n ∧ n ≤ s.length ∧ recL (decT s) = s.take n := by
  have hw : wholeB s = true := by
    cases hh : wholeB s with
    | true => rfl
    | false => rw [(dec_bad hh).1] at h; exact absurd h (by decide)
  have hs : sumB s = true := by
    cases hh : sumB s with
    | true => rfl
    | false => rw [(dec_sum hw hh).1] at h; exact absurd h (by decide)
  have hu : unfE (insideL s) = 0 := by rw [decE, hw, hs] at h; exact h
  have hf : fitB (insideL s) = true := by
    cases hh : fitB (insideL s) with
    | true => rfl
    | false => rw [(unf_bad hh).1] at hu; exact absurd hu (by decide)
  have hg : gdE (tOf (insideL s)) = 0 := by rw [unfE, hf] at hu; exact hu
  obtain ⟨_, h2, h3⟩ := dec_ok hw hs hu
  obtain ⟨w1, w2, w3⟩ := wholeB_iff.1 hw
  rw [h2]
  refine ⟨hg, lenOf s + 7, h3, w3, ?_⟩
  have hl : (insideL s).length = lenOf s := by rw [insideL, List.length_take, List.length_drop]; omega
  have hfr : frontL (insideL s) = s.take (lenOf s + 3) := by
    rw [frontL, hl]
    have e : be 2 (lenOf s) = (s.drop 1).take 2 := be_back (by rw [List.length_take, List.length_drop]; omega)
    rw [e, insideL]
    have a1 : s.take (lenOf s + 3) = s.take 1 ++ ((s.drop 1).take 2 ++ (s.drop 3).take (lenOf s)) := by
      rw [show lenOf s + 3 = 1 + (2 + lenOf s) from by omega, List.take_add, List.take_add, List.drop_drop]
    rw [a1, w1]; rfl
  rw [recL, body_t hf hg, hfr, ← sumB_iff.1 hs]
  rw [be_back (k := 4) (by rw [List.length_take, List.length_drop]; omega), show lenOf s + 7 = (lenOf s + 3) + 4 from by omega]
  exact List.take_add.symm
theorem dec_none {s : List UInt8} (h : decE s ≠ 0) : decT s = t0 ∧ decN s = 0 := ⟨by rw [decT, if_neg h], by rw [decN, if_neg h]⟩

theorem dec_cut {t : WTxn} (h : gdE t = 0) {k : Nat} (hk : k < (recL t).length) : decE ((recL t).take k) = 2 ∧ decN ((recL t).take k) = 0 := by
  have hw : wholeB ((recL t).take k) = false := wholeB_no (by
    rintro ⟨h1, h2, h3⟩
    rw [List.length_take] at h3
    have e0 : (recL t).drop 1 = be 2 (bodyL t).length ++ (bodyL t ++ be 4 (sumN (frontL (bodyL t)))) := by simp [recL, frontL]
    have g0 := take_more e0 (be_length 2 _)
    have hl : lenOf ((recL t).take k) = (bodyL t).length := by
      rw [lenOf, List.drop_take, List.take_take, show min 2 (k - 1) = 2 from by omega, g0]
      exact un_be 2 _ (by have := gd_body_le h; omega)
    rw [hl, bodyL_length] at h3
    rw [recL_length] at hk
    omega)
  exact ⟨(dec_bad hw).1, (dec_bad hw).2.2⟩
/-- one byte behind the length changed -/
theorem dec_turned {t : WTxn} (h : gdE t = 0) {i : Nat} (h3 : 3 ≤ i) (hi : i < (recL t).length) {c : UInt8} (hc : c ≠ (recL t)[i]) : decE ((recL t).take i ++ (c :: (recL t).drop (i + 1))) = 5 ∧ decN ((recL t).take i ++ (c :: (recL t).drop (i + 1))) = 0 := by
  have hs : un (be 4 (sumN (frontL (bodyL t)))) = sumN (frontL (bodyL t)) := un_be 4 _ (by have := sumN_lt (frontL (bodyL t)); omega)
  have hfl := frontL_length (bodyL t)
  obtain ⟨m, hm⟩ : ∃ m, be 4 (sumN (frontL (bodyL t))) = m := ⟨_, rfl⟩
  have hm4 : m.length = 4 := by rw [← hm]; exact be_length 4 _
  have hr : recL t = frontL (bodyL t) ++ m := by rw [recL, hm]
  rw [hm] at hs
  by_cases hin : i < (frontL (bodyL t)).length
  · obtain ⟨b, hb⟩ : ∃ b, bodyL t = b := ⟨_, rfl⟩
    have hbl := gd_body_le h
    rw [hb] at hs hfl hr hin hbl
    obtain ⟨j, rfl⟩ : ∃ j, i = j + 3 := ⟨i - 3, by omega⟩
    have hj : j < b.length := by omega
    have h2 : ∀ x : List UInt8, (be 2 b.length ++ x).take (j + 2) = be 2 b.length ++ x.take j := fun x => by
      rw [show j + 2 = 2 + j from by omega, List.take_add, (cut_at (be_length 2 _)).1, (cut_at (be_length 2 _)).2]
    have h2' : ∀ x : List UInt8, (be 2 b.length ++ x).drop (j + 3) = x.drop (j + 1) := fun x => by
      rw [show j + 3 = 2 + (j + 1) from by omega, ← List.drop_drop, (cut_at (be_length 2 _)).2]
    have hget : (recL t)[j + 3] = b[j] := by
      have : (recL t)[j + 3]? = some b[j] := by
        rw [hr, frontL, List.cons_append, List.getElem?_cons_succ, List.append_assoc, List.getElem?_append_right (by rw [be_length]; omega), be_length, List.getElem?_append_left (by omega)]
        rw [show j + 2 - 2 = j from by omega, List.getElem?_eq_getElem hj]
      rw [List.getElem?_eq_getElem hi] at this
      exact Option.some.inj this
    have hb' : (b.take j ++ c :: b.drop (j + 1)).length = b.length := by rw [List.length_append, List.length_cons, List.length_take, List.length_drop]; omega
    have e : (recL t).take (j + 3) ++ c :: (recL t).drop (j + 3 + 1) = frontL (b.take j ++ c :: b.drop (j + 1)) ++ (m ++ []) := by
      rw [hr, frontL, frontL, hb', List.cons_append, List.cons_append, List.append_assoc, List.take_succ_cons, List.drop_succ_cons, h2, h2', List.take_append_of_le_length (by omega), List.drop_append_of_le_length (by omega)]
      simp
    obtain ⟨d1, d2, d3, d4⟩ := dec_parts (b := b.take j ++ c :: b.drop (j + 1)) (m := m) (more := []) (by omega) hm4
    rw [e]
    have hne : sumB (frontL (b.take j ++ c :: b.drop (j + 1)) ++ (m ++ [])) = false := by
      rw [d4, hs, beq_eq_false_iff_ne]
      intro hh
      have hbj : b = b.take j ++ b[j] :: b.drop (j + 1) := by rw [List.getElem_cons_drop, List.take_append_drop]
      have q : ∀ x : UInt8, frontL (b.take j ++ x :: b.drop (j + 1)) = (84 :: (be 2 b.length ++ b.take j)) ++ x :: b.drop (j + 1) := fun x => by
        have : (b.take j ++ x :: b.drop (j + 1)).length = b.length := by rw [List.length_append, List.length_cons, List.length_take, List.length_drop]; omega
        rw [frontL, this]; simp
      have q0 : frontL b = (84 :: (be 2 b.length ++ b.take j)) ++ b[j] :: b.drop (j + 1) := by rw [← q, ← hbj]
      rw [q c, q0] at hh
      exact hc ((sum_turned _ _ _ _ hh).symm.trans hget.symm)
    exact ⟨(dec_sum d1 hne).1, (dec_sum d1 hne).2.2⟩
  · obtain ⟨j, rfl⟩ : ∃ j, i = (frontL (bodyL t)).length + j := ⟨i - (frontL (bodyL t)).length, by omega⟩
    have hj : j < m.length := by rw [hr, List.length_append] at hi; omega
    have e : (recL t).take ((frontL (bodyL t)).length + j) ++ c :: (recL t).drop ((frontL (bodyL t)).length + j + 1) = frontL (bodyL t) ++ ((m.take j ++ c :: m.drop (j + 1)) ++ []) := by
      rw [hr, List.take_length_add_append, Nat.add_assoc, List.drop_length_add_append]; simp
    have hget : (recL t)[(frontL (bodyL t)).length + j] = m[j] := by
      have : (recL t)[(frontL (bodyL t)).length + j]? = some m[j] := by
        rw [hr, List.getElem?_append_right (by omega), Nat.add_sub_cancel_left, List.getElem?_eq_getElem hj]
      rw [List.getElem?_eq_getElem hi] at this
      exact Option.some.inj this
    have hm' : (m.take j ++ c :: m.drop (j + 1)).length = 4 := by rw [List.length_append, List.length_cons, List.length_take, List.length_drop]; omega
    obtain ⟨d1, d2, d3, d4⟩ := dec_parts (b := bodyL t) (m := m.take j ++ c :: m.drop (j + 1)) (more := []) (gd_body_le h) hm'
    rw [e]
    have hne : sumB (frontL (bodyL t) ++ ((m.take j ++ c :: m.drop (j + 1)) ++ [])) = false := by
      rw [d4, ← hs, beq_eq_false_iff_ne]
      intro hh
      have hmm : m.take j ++ c :: m.drop (j + 1) = m := by
        have a1 := be_back hm'
        have a2 := be_back hm4
        rw [hh] at a1
        exact a1.symm.trans a2
      have hmj : m = m.take j ++ m[j] :: m.drop (j + 1) := by rw [List.getElem_cons_drop, List.take_append_drop]
      rw [hget] at hc
      apply hc
      have hx := hmm.trans hmj
      have hy := List.append_cancel_left hx
      exact (List.cons.inj hy).1
    exact ⟨(dec_sum d1 hne).1, (dec_sum d1 hne).2.2⟩
end Go.Proofs.YtnbkpilgmjjflaaDoor
