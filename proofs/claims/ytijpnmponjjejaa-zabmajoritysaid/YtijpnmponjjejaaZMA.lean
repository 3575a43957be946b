/-
  Plain functions on lists of bytes that the contracts of package path speak of, and what holds of them; no program is named here.
  The numbers of transactions as plain arithmetic, and the answers of package zxid's number functions; no program is named here.
  The pieces of a text between slashes, and what path.Good says of them; no program is named here.
  The cyclic sum of 32 bits as plain arithmetic: one bit, a byte, a text; that one changed byte changes it; and the same by single bits. No program is named here.
  A transaction and its record as plain lists of bytes: what is wrong with one, its bytes, what bytes tell; that these go together. No program is named here.
  A log as a plain list of transactions: its bytes, what bytes begin with, and where that ends. No program is named here.
  A transaction as a value.
  A disk as a plain list of files: when it is one, where a name stands on it, what the order of names is. No program is named here.
  How a disk lies in memory: a row of files, three texts each; a row of the call's own; what stays when other memory turns.
  How a log lies in memory: a row of transactions, seven cells each; a row of the call's own; what stays when other memory turns.
  How lists of elements lie in memory, whatever these are: rows of cells, so many each; a row of the call's own; runs of cells stored into it; what stays when other memory turns.
  Transactions as laid elements.
  How lists of peers and lists of logs lie in memory.
  Two transactions held against each other; in how many logs one stands: plain counts.
  Appends of one element to a row of the call's own, copies of a log; rows of other elements stay.
-/
import Derived.WalkKit
import Derived.Laws.BitsLemmas
import Derived.Lib.IndexLaws
import Derived.Lib.Strings
import Derived.Test.YtijpnmponjjejaaProg
import Derived.Laws.Cover1
import Derived.Lib.Bytealg
import Derived.Laws.AppendOwn
import Derived.Deep.LoopGhost
import Derived.Lib.QuietBelow
import Derived.Laws.StructEq
import Derived.BigQuiet
import Derived.Deep.AppendLies
namespace Go.Proofs.Ytijpnmponjjejaa
open Go.RowKit

theorem hide {p : Prop} (h : p) : Hid p := h
theorem unhide {p : Prop} (h : Hid p) : p := h

/-- a byte that may stand in a step: a to z, 0 to 9, minus or underscore -/
def letterB (c : UInt8) : Bool := (decide (97 ≤ c.toNat) && decide (c.toNat ≤ 122)) || (decide (48 ≤ c.toNat) && decide (c.toNat ≤ 57)) || c.toNat == 45 || c.toNat == 95
/-- a step: 1 to 40 such bytes -/
def namedB (l : List UInt8) : Bool := decide (1 ≤ l.length) && decide (l.length ≤ 40) && l.all letterB

end Go.Proofs.Ytijpnmponjjejaa

namespace Go.Proofs.Ytijpnmponjjejaa
open Go.RowKit

def zGood (z : Int) : Bool := decide (0 ≤ z) && decide (z < 4611686018427387904)
def zEpoch (z : Int) : Int := if zGood z then z / 2147483648 else 0
theorem zGood_iff {z : Int} : zGood z = true ↔ 0 ≤ z ∧ z < 4611686018427387904 := by simp [zGood]
theorem zEpoch_yes {z : Int} (h : zGood z = true) : zEpoch z = z / 2147483648 := by rw [zEpoch, if_pos h]
theorem zEpoch_no {z : Int} (h : zGood z = false) : zEpoch z = 0 := by rw [zEpoch, h]; rfl
theorem ret_int {a b : Int} (h : a = b) : Ending.returned (.int .i64 a) = .returned (.int .i64 b) := by rw [h]
end Go.Proofs.Ytijpnmponjjejaa

namespace Go.Proofs.Ytijpnmponjjejaa
open Go.RowKit

/-- the pieces of a text between slashes -/
def splitL : List UInt8 → List (List UInt8)
  | [] => [[]]
  | c :: l => if c = 47 then [] :: splitL l else match splitL l with
    | [] => [[c]]
    | p :: ps => (c :: p) :: ps

/-- the steps of a text that begins with a slash: none of the root -/
def stepsL (l : List UInt8) : List (List UInt8) := if l = [47] then [] else splitL (Lib.trimPrefix l [47])
/-- a path: at most 200 bytes, a slash ahead, each step a name -/
def goodB (l : List UInt8) : Bool := decide (l.length ≤ 200) && Lib.hasPrefix l [47] && (stepsL l).all namedB

end Go.Proofs.Ytijpnmponjjejaa

namespace Go.Proofs.Ytijpnmponjjejaa
open Go.RowKit

def crc1 (c : Nat) : Nat := (c / 2) ^^^ (3988292384 * (c % 2))
def crcN : Nat → Nat → Nat
  | 0, c => c
  | n + 1, c => crc1 (crcN n c)
def crcB (c : Nat) (b : UInt8) : Nat := crcN 8 (c ^^^ b.toNat)
def crcL (l : List UInt8) : Nat := l.foldl crcB 4294967295
def sumN (l : List UInt8) : Nat := 4294967295 ^^^ crcL l

/- what the model's operations on 32 bits are, as plain ones -/
/- by single bits -/
end Go.Proofs.Ytijpnmponjjejaa

namespace Go.Proofs.Ytijpnmponjjejaa
open Go.RowKit

/- numbers as bytes, the highest first -/
def be : Nat → Nat → List UInt8
  | 0, _ => []
  | k + 1, n => be k (n / 256) ++ [UInt8.ofNat n]
def un (l : List UInt8) : Nat := l.foldl (fun a b => a * 256 + b.toNat) 0
/- transactions -/
structure WTxn where
  z : Int
  o : Int
  s : Int
  p : List UInt8
  d : List UInt8
  v : Int
  w : Int
def t0 : WTxn := ⟨0, 0, 0, [], [], 0, 0⟩
def cntB (n least : Int) : Bool := decide (least ≤ n) && decide (n ≤ 2147483647)
def opB (o : Int) : Bool := decide (1 ≤ o) && decide (o ≤ 5)
def numB (t : WTxn) : Bool := zGood t.z && cntB t.s 1 && cntB t.v 0 && cntB t.w 0
def fmB (t : WTxn) : Bool :=
  if t.o = 3 then goodB t.p && !(t.p == [47]) && t.v == 0
  else if t.o = 4 then goodB t.p && !(t.p == [47]) && t.d == [] && t.v == 0 && t.w == 0
  else if t.o = 5 then goodB t.p && t.w == 0
  else t.p == [] && t.d == [] && t.v == 0 && t.w == 0
def gdE (t : WTxn) : Int :=
  if opB t.o then (if numB t then (if t.d.length ≤ 256 then (if fmB t then 0 else 2) else 1) else 3) else 4
/- records -/
def bodyL (t : WTxn) : List UInt8 :=
  be 8 t.z.toNat ++ (be 1 t.o.toNat ++ (be 4 t.s.toNat ++ (be 4 t.v.toNat ++ (be 4 t.w.toNat ++ (be 1 t.p.length ++ (t.p ++ (be 2 t.d.length ++ t.d)))))))
def frontL (b : List UInt8) : List UInt8 := 84 :: (be 2 b.length ++ b)
def recL (t : WTxn) : List UInt8 := frontL (bodyL t) ++ be 4 (sumN (frontL (bodyL t)))
/- what bytes tell -/
def plOf (b : List UInt8) : Nat := un ((b.drop 21).take 1)
def dlOf (b : List UInt8) : Nat := un ((b.drop (22 + plOf b)).take 2)
def tOf (b : List UInt8) : WTxn :=
  ⟨wrap64 (un (b.take 8)), un ((b.drop 8).take 1), un ((b.drop 9).take 4), (b.drop 22).take (plOf b), b.drop (24 + plOf b), un ((b.drop 13).take 4), un ((b.drop 17).take 4)⟩
/-- do the body's lengths fit it? -/
def fitB (b : List UInt8) : Bool := decide (24 + plOf b ≤ b.length) && decide (b.length = 24 + plOf b + dlOf b)
def unfE (b : List UInt8) : Int := if fitB b then gdE (tOf b) else 2
def lenOf (s : List UInt8) : Nat := un ((s.drop 1).take 2)
/-- is there a T, a length, as many bytes and four more? -/
def wholeB (s : List UInt8) : Bool := s.take 1 == [84] && decide (lenOf s ≤ 1024) && decide (lenOf s + 7 ≤ s.length)
def sumB (s : List UInt8) : Bool := un ((s.drop (lenOf s + 3)).take 4) == sumN (s.take (lenOf s + 3))
def insideL (s : List UInt8) : List UInt8 := (s.drop 3).take (lenOf s)
def decE (s : List UInt8) : Int := if wholeB s then (if sumB s then unfE (insideL s) else 5) else 2
def decT (s : List UInt8) : WTxn := if decE s = 0 then tOf (insideL s) else t0
/- together: what a record tells -/
end Go.Proofs.Ytijpnmponjjejaa

namespace Go.Proofs.Ytijpnmponjjejaa
open Go.RowKit

def recsL : List WTxn → List UInt8
  | [] => []
  | t :: l => recL t ++ recsL l
def lastZ (l : List WTxn) : Int := l.foldl (fun _ t => t.z) 0
theorem lastZ_snoc (l : List WTxn) (t : WTxn) : lastZ (l ++ [t]) = t.z := by simp [lastZ]
theorem lastZ_nil : lastZ [] = 0 := rfl
/-- may it stand behind these? -/
def follB (l : List WTxn) (t : WTxn) : Bool := decide (l.length = 0) || decide (lastZ l < t.z)
theorem follB_some {l : List WTxn} {t : WTxn} (h : l.length ≠ 0) : follB l t = decide (lastZ l < t.z) := by simp [follB, h]
theorem snoc_of {l : List WTxn} (h : l.length ≠ 0) : ∃ m x, l = m ++ [x] := by
  rcases List.eq_nil_or_concat l with rfl | ⟨m, x, rfl⟩
  · exact absurd rfl h
  · exact ⟨m, x, List.concat_eq_append⟩
structure Logs (ts : List WTxn) : Prop where
  good : ∀ t ∈ ts, gdE t = 0
  rise : ts.Pairwise fun a b => a.z < b.z
theorem Logs.nil : Logs [] := ⟨by simp, List.Pairwise.nil⟩
theorem Logs.at {a b : List WTxn} {t : WTxn} (h : Logs (a ++ t :: b)) : gdE t = 0 ∧ follB a t = true := by
  refine ⟨h.good t (by simp), ?_⟩
  by_cases h0 : a.length = 0
  · simp [follB, h0]
  · rw [follB_some h0]
    obtain ⟨m, x, rfl⟩ := snoc_of h0
    rw [lastZ_snoc]
    exact decide_eq_true ((List.pairwise_append.1 h.rise).2.2 x (by simp) t (by simp))
/-- bytes begin with these, and there it stops -/
structure Scan (s : List UInt8) (ts : List WTxn) (r : List UInt8) : Prop where
  eq : s = recsL ts ++ r
  log : Logs ts
  stop : decE r ≠ 0 ∨ follB ts (decT r) = false
theorem Scan.len {s r : List UInt8} {ts : List WTxn} (h : Scan s ts r) : (recsL ts).length + r.length = s.length := by rw [h.eq, List.length_append]
end Go.Proofs.Ytijpnmponjjejaa

namespace Go.Proofs.Ytijpnmponjjejaa
open Go.RowKit
/-- a transaction as a value -/
def txnV (t : WTxn) : Value := .agg #[.int .i64 t.z, .int .i64 t.o, .int .i64 t.s, .string ⟨t.p.toArray⟩, .string ⟨t.d.toArray⟩, .int .i64 t.v, .int .i64 t.w]
end Go.Proofs.Ytijpnmponjjejaa

namespace Go.Proofs.Ytijpnmponjjejaa
open Go.RowKit

/- the order of texts -/
abbrev bl (a b : List UInt8) : Bool := Op.bytesLess a b
/- files -/
structure DF where
  n : List UInt8
  s : List UInt8
  t : List UInt8
instance : Inhabited DF := ⟨⟨[], [], []⟩⟩

def fileOk (f : DF) : Bool := namedB f.n && decide (f.s.length + f.t.length ≤ 1048576)
def Asc (fs : List DF) : Prop := fs.Pairwise fun a b => bl a.n b.n = true
structure GoodD (fs : List DF) : Prop where
  few : fs.length ≤ 16
  ok : ∀ f ∈ fs, fileOk f = true
  asc : Asc fs
/- what is known of the first k files -/
/- where a name stands -/
structure There (fs A : List DF) (f : DF) (B : List DF) (name : List UInt8) : Prop where
  eq : fs = A ++ f :: B
  nm : f.n = name
  lo : ∀ a ∈ A, bl a.n name = true
  hi : ∀ b ∈ B, bl name b.n = true
theorem There.ok {fs A B : List DF} {f : DF} {name : List UInt8} (T : There fs A f B name) (g : GoodD fs) : fileOk f = true := g.ok f (by rw [T.eq]; simp)
end Go.Proofs.Ytijpnmponjjejaa

namespace Go.Proofs.Ytijpnmponjjejaa
open Go.RowKit

def fcells (f : DF) : List Value := [.string ⟨f.n.toArray⟩, .string ⟨f.s.toArray⟩, .string ⟨f.t.toArray⟩]
def cellsF : List DF → List Value
  | [] => []
  | f :: r => fcells f ++ cellsF r
theorem cellsF_get : ∀ (fs : List DF) (i : Nat) (f : DF), fs[i]? = some f → ∀ c, c < 3 → (cellsF fs)[i * 3 + c]? = (fcells f)[c]?
  | [], i, f, h, _, _ => by simp at h
  | x :: r, 0, f, h, c, hc => by
    simp at h
    subst h
    rw [cellsF, List.getElem?_append_left (by simp [fcells]; omega)]
    simp
  | x :: r, i + 1, f, h, c, hc => by
    rw [cellsF, List.getElem?_append_right (by simp [fcells]; omega), ← cellsF_get r i f (by simpa using h) c hc]
    congr 1
    simp [fcells]; omega
def RowAt (w : World) (b off : Nat) (cs : List Value) : Prop := ∀ j v, cs[j]? = some v → w.cell? ⟨b, off + j, none⟩ = some v
theorem RowAt.c0 {w : World} {b off : Nat} {fs : List DF} (h : RowAt w b off (cellsF fs)) {i : Nat} {f : DF} (hi : fs[i]? = some f) : w.cell? ⟨b, off + i * 3, none⟩ = some (.string ⟨f.n.toArray⟩) :=
  h (i * 3) _ (by have := cellsF_get fs i f hi 0 (by omega); simpa [fcells] using this)
theorem RowAt.c1 {w : World} {b off : Nat} {fs : List DF} (h : RowAt w b off (cellsF fs)) {i : Nat} {f : DF} (hi : fs[i]? = some f) : w.cell? ⟨b, off + i * 3 + 1, none⟩ = some (.string ⟨f.s.toArray⟩) := by
  rw [Nat.add_assoc]; exact h (i * 3 + 1) _ (by have := cellsF_get fs i f hi 1 (by omega); simpa [fcells] using this)
theorem RowAt.c2 {w : World} {b off : Nat} {fs : List DF} (h : RowAt w b off (cellsF fs)) {i : Nat} {f : DF} (hi : fs[i]? = some f) : w.cell? ⟨b, off + i * 3 + 2, none⟩ = some (.string ⟨f.t.toArray⟩) := by
  rw [Nat.add_assoc]; exact h (i * 3 + 2) _ (by have := cellsF_get fs i f hi 2 (by omega); simpa [fcells] using this)
theorem RowAt.kept {w w' : World} {b off B : Nat} {cs : List Value} (h : RowAt w b off cs) (hb : Below B w w') (hB : b < B) : RowAt w' b off cs :=
  fun j v hj => by rw [hb.cell (p := ⟨b, off + j, none⟩) hB]; exact h j v hj

/-- the value of a disk's one field holds these files -/
def DiskV (w : World) (v : Value) (fs : List DF) : Prop :=
  (∃ a cap, v = .slice a 0 cap ∧ fs = [] ∧ cap ≤ maxLen) ∨
  ∃ b off cap, v = .slice (some ⟨b, off, none⟩) fs.length cap ∧ fs.length ≤ cap ∧ cap ≤ maxLen ∧ b < w.heap.size ∧ fs ≠ [] ∧ RowAt w b off (cellsF fs)
theorem DiskV.kept {w w' : World} {B : Nat} {v : Value} {fs : List DF} (h : DiskV w v fs) (hb : Below B w w') (hB : w.heap.size ≤ B) : DiskV w' v fs := by
  rcases h with h | ⟨b, off, cap, rfl, h1, h2, h3, h0, h4⟩
  · exact .inl h
  · exact .inr ⟨b, off, cap, rfl, h1, h2, Nat.lt_of_lt_of_le h3 hb.size, h0, h4.kept hb (Nat.lt_of_lt_of_le h3 hB)⟩
theorem DiskV.next {w w' : World} {v : Value} {fs : List DF} (h : DiskV w v fs) (hb : Below w.heap.size w w') : DiskV w' v fs := h.kept hb (Nat.le_refl _)
theorem DiskV.alloc {w : World} {v : Value} {fs : List DF} (h : DiskV w v fs) (o : Obj) : DiskV (w.alloc o) v fs := h.next ((Below.refl _ _).alloc (Nat.le_refl _) o)
theorem DiskV.drew {w : World} {v : Value} {fs : List DF} (h : DiskV w v fs) : DiskV w.drew v fs := h.next (Below.refl _ _).drew
theorem DiskV.nil (w : World) : DiskV w (.slice none 0 0) [] := .inl ⟨none, 0, rfl, rfl, by decide⟩

theorem block_set {w : World} {g j : Nat} {cur : Array Value} {t : TypeId} {fz : Nat × Nat} (v : Value) (h : w.heap[g]? = some (.cells cur t fz)) :
    (w.setCell ⟨g, j, none⟩ v).heap[g]? = some (.cells (cur.setIfInBounds j v) t fz) := by
  obtain ⟨hlt, hk⟩ := Array.getElem?_eq_some_iff.1 h
  show (w.heap.modify g _)[g]? = _
  rw [Array.getElem?_eq_getElem (by rw [Array.size_modify]; exact hlt), Array.getElem_modify_self, hk]
  rfl
end Go.Proofs.Ytijpnmponjjejaa

namespace Go.Proofs.Ytijpnmponjjejaa
open Go.RowKit

def tcells (t : WTxn) : List Value := [.int .i64 t.z, .int .i64 t.o, .int .i64 t.s, .string ⟨t.p.toArray⟩, .string ⟨t.d.toArray⟩, .int .i64 t.v, .int .i64 t.w]
def cellsT : List WTxn → List Value
  | [] => []
  | t :: r => tcells t ++ cellsT r
theorem cellsT_append : ∀ a b : List WTxn, cellsT (a ++ b) = cellsT a ++ cellsT b
  | [], _ => rfl
  | t :: r, b => by rw [List.cons_append, cellsT, cellsT, cellsT_append r b, List.append_assoc]
theorem cellsT_snoc (a : List WTxn) (t : WTxn) : cellsT (a ++ [t]) = cellsT a ++ tcells t := by rw [cellsT_append, cellsT, cellsT, List.append_nil]
theorem cellsT_get : ∀ (ts : List WTxn) (i : Nat) (t : WTxn), ts[i]? = some t → ∀ c, c < 7 → (cellsT ts)[i * 7 + c]? = (tcells t)[c]?
  | [], i, t, h, _, _ => by simp at h
  | x :: r, 0, t, h, c, hc => by
    simp at h
    subst h
    rw [cellsT, List.getElem?_append_left (by simp [tcells]; omega)]
    simp
  | x :: r, i + 1, t, h, c, hc => by
    rw [cellsT, List.getElem?_append_right (by simp [tcells]; omega), ← cellsT_get r i t (by simpa using h) c hc]
    congr 1
    simp [tcells]; omega
theorem tcells_one (t : WTxn) : ∀ u ∈ tcells t, u.oneCell' = true := by
  intro u hu
  simp [tcells] at hu
  rcases hu with rfl | rfl | rfl | rfl | rfl | rfl | rfl <;> rfl

theorem RowAt.z {w : World} {b off : Nat} {ts : List WTxn} (h : RowAt w b off (cellsT ts)) {i : Nat} {t : WTxn} (hi : ts[i]? = some t) : w.cell? ⟨b, off + i * 7, none⟩ = some (.int .i64 t.z) :=
  h (i * 7) _ (by have := cellsT_get ts i t hi 0 (by omega); simpa [tcells] using this)
theorem RowAt.o {w : World} {b off : Nat} {ts : List WTxn} (h : RowAt w b off (cellsT ts)) {i : Nat} {t : WTxn} (hi : ts[i]? = some t) : w.cell? ⟨b, off + i * 7 + 1, none⟩ = some (.int .i64 t.o) := by
  rw [Nat.add_assoc]; exact h (i * 7 + 1) _ (by have := cellsT_get ts i t hi 1 (by omega); simpa [tcells] using this)
theorem RowAt.s {w : World} {b off : Nat} {ts : List WTxn} (h : RowAt w b off (cellsT ts)) {i : Nat} {t : WTxn} (hi : ts[i]? = some t) : w.cell? ⟨b, off + i * 7 + 2, none⟩ = some (.int .i64 t.s) := by
  rw [Nat.add_assoc]; exact h (i * 7 + 2) _ (by have := cellsT_get ts i t hi 2 (by omega); simpa [tcells] using this)
theorem RowAt.p {w : World} {b off : Nat} {ts : List WTxn} (h : RowAt w b off (cellsT ts)) {i : Nat} {t : WTxn} (hi : ts[i]? = some t) : w.cell? ⟨b, off + i * 7 + 3, none⟩ = some (.string ⟨t.p.toArray⟩) := by
  rw [Nat.add_assoc]; exact h (i * 7 + 3) _ (by have := cellsT_get ts i t hi 3 (by omega); simpa [tcells] using this)
theorem RowAt.d {w : World} {b off : Nat} {ts : List WTxn} (h : RowAt w b off (cellsT ts)) {i : Nat} {t : WTxn} (hi : ts[i]? = some t) : w.cell? ⟨b, off + i * 7 + 4, none⟩ = some (.string ⟨t.d.toArray⟩) := by
  rw [Nat.add_assoc]; exact h (i * 7 + 4) _ (by have := cellsT_get ts i t hi 4 (by omega); simpa [tcells] using this)
theorem RowAt.v {w : World} {b off : Nat} {ts : List WTxn} (h : RowAt w b off (cellsT ts)) {i : Nat} {t : WTxn} (hi : ts[i]? = some t) : w.cell? ⟨b, off + i * 7 + 5, none⟩ = some (.int .i64 t.v) := by
  rw [Nat.add_assoc]; exact h (i * 7 + 5) _ (by have := cellsT_get ts i t hi 5 (by omega); simpa [tcells] using this)
theorem RowAt.w {w : World} {b off : Nat} {ts : List WTxn} (h : RowAt w b off (cellsT ts)) {i : Nat} {t : WTxn} (hi : ts[i]? = some t) : w.cell? ⟨b, off + i * 7 + 6, none⟩ = some (.int .i64 t.w) := by
  rw [Nat.add_assoc]; exact h (i * 7 + 6) _ (by have := cellsT_get ts i t hi 6 (by omega); simpa [tcells] using this)

/-- the value holds these transactions -/
def LogV (w : World) (v : Value) (ts : List WTxn) : Prop :=
  (∃ a cap, v = .slice a 0 cap ∧ ts = [] ∧ cap ≤ maxLen) ∨
  ∃ b off cap, v = .slice (some ⟨b, off, none⟩) ts.length cap ∧ ts.length ≤ cap ∧ cap ≤ maxLen ∧ b < w.heap.size ∧ ts ≠ [] ∧ RowAt w b off (cellsT ts)
theorem LogV.kept {w w' : World} {B : Nat} {v : Value} {ts : List WTxn} (h : LogV w v ts) (hb : Below B w w') (hB : w.heap.size ≤ B) : LogV w' v ts := by
  rcases h with h | ⟨b, off, cap, rfl, h1, h2, h3, h0, h4⟩
  · exact .inl h
  · exact .inr ⟨b, off, cap, rfl, h1, h2, Nat.lt_of_lt_of_le h3 hb.size, h0, h4.kept hb (Nat.lt_of_lt_of_le h3 hB)⟩
theorem LogV.next {w w' : World} {v : Value} {ts : List WTxn} (h : LogV w v ts) (hb : Below w.heap.size w w') : LogV w' v ts := h.kept hb (Nat.le_refl _)
theorem LogV.alloc {w : World} {v : Value} {ts : List WTxn} (h : LogV w v ts) (o : Obj) : LogV (w.alloc o) v ts := h.next ((Below.refl _ _).alloc (Nat.le_refl _) o)
theorem LogV.drew {w : World} {v : Value} {ts : List WTxn} (h : LogV w v ts) : LogV w.drew v ts := h.next (Below.refl _ _).drew
theorem LogV.nil (w : World) : LogV w (.slice none 0 0) [] := .inl ⟨none, 0, rfl, rfl, by decide⟩
theorem log_slice {w : World} {v : Value} {ts : List WTxn} (hv : LogV w v ts) : ∃ a c, v = .slice a ts.length c := by
  rcases hv with ⟨a, cap, rfl, rfl, _⟩ | ⟨b, off, cap, rfl, _⟩
  · exact ⟨_, _, rfl⟩
  · exact ⟨_, _, rfl⟩
theorem log_row {w : World} {v : Value} {ts : List WTxn} (hv : LogV w v ts) {i : Nat} {t : WTxn} (hi : ts[i]? = some t) :
    ∃ b off cap, v = .slice (some ⟨b, off, none⟩) ts.length cap ∧ b < w.heap.size ∧ RowAt w b off (cellsT ts) ∧ i < ts.length ∧ ts.length ≤ cap ∧ cap ≤ maxLen := by
  have hlt := (List.getElem?_eq_some_iff.1 hi).1
  rcases hv with ⟨a, cap, rfl, rfl, _⟩ | ⟨b, off, cap, rfl, h1, h2, hb, _, hr⟩
  · simp at hi
  · exact ⟨b, off, cap, rfl, hb, hr, hlt, h1, h2⟩
/-- a value that holds these in a row of the call's own, at or behind block B -/
def OwnL (W : World) (B : Nat) (v : Value) (ts : List WTxn) : Prop := W.ownsRow B 47 7 v ts.length (cellsT ts)
theorem OwnL.nil (W : World) (B : Nat) : OwnL W B (.slice none 0 0) [] := ⟨rfl, .inl ⟨rfl, rfl⟩⟩
theorem OwnL.log {W : World} {B : Nat} {v : Value} {ts : List WTxn} (h : OwnL W B v ts) : LogV W v ts := by
  obtain ⟨hl, ⟨rfl, h0⟩ | ⟨g, cap, cur, rfl, hB, hg, hn, hm, hs, ht⟩⟩ := h
  · rw [List.eq_nil_of_length_eq_zero h0]; exact LogV.nil W
  · by_cases h0 : ts = []
    · subst h0; exact .inl ⟨_, cap, rfl, rfl, hm⟩
    · refine .inr ⟨g, 0, cap, rfl, hn, hm, (Array.getElem?_eq_some_iff.1 hg).1, h0, fun j v hj => ?_⟩
      have hlt : j < (cellsT ts).length := (List.getElem?_eq_some_iff.1 hj).1
      have : cur[j]? = some v := by
        rw [← ht, List.getElem?_take_of_lt (by rw [hl] at hlt; exact hlt)] at hj
        simpa using hj
      simp [World.cell?, hg, this]
theorem OwnL.next {W V : World} {B : Nat} {v : Value} {ts : List WTxn} (h : OwnL W B v ts) (hb : Below W.heap.size W V) : OwnL V B v ts := by
  obtain ⟨hl, h | ⟨g, cap, cur, e, hB, hg, hr⟩⟩ := h
  · exact ⟨hl, .inl h⟩
  · exact ⟨hl, .inr ⟨g, cap, cur, e, hB, (hb.block _ (Array.getElem?_eq_some_iff.1 hg).1).trans hg, hr⟩⟩
theorem OwnL.mono {W : World} {B C : Nat} {v : Value} {ts : List WTxn} (h : OwnL W B v ts) (hC : C ≤ B) : OwnL W C v ts := by
  obtain ⟨hl, h | ⟨g, cap, cur, e, hB, hr⟩⟩ := h
  · exact ⟨hl, .inl h⟩
  · exact ⟨hl, .inr ⟨g, cap, cur, e, Nat.le_trans hC hB, hr⟩⟩
theorem OwnL.more {W : World} {B : Nat} {v : Value} {ts : List WTxn} {t : WTxn} (h : W.ownsRow B 47 7 v (ts.length + 1) (cellsT ts ++ tcells t)) : OwnL W B v (ts ++ [t]) := by
  unfold OwnL
  rw [cellsT_snoc, List.length_append]
  exact h

/-- block g holds one transaction -/
def TAt (W : World) (g : Nat) (t : WTxn) : Prop := W.heap[g]? = some (.cells #[.int .i64 t.z, .int .i64 t.o, .int .i64 t.s, .string ⟨t.p.toArray⟩, .string ⟨t.d.toArray⟩, .int .i64 t.v, .int .i64 t.w] 47 (0, 0))
theorem TAt.new (W : World) (t : WTxn) : TAt (W.alloc (.cells #[.int .i64 t.z, .int .i64 t.o, .int .i64 t.s, .string ⟨t.p.toArray⟩, .string ⟨t.d.toArray⟩, .int .i64 t.v, .int .i64 t.w] 47)) W.heap.size t := heap_alloc_new W _
theorem TAt.next {W V : World} {g : Nat} {t : WTxn} (h : TAt W g t) (hb : Below W.heap.size W V) : TAt V g t := (hb.block g (by unfold TAt at h; exact (Array.getElem?_eq_some_iff.1 h).1)).trans h
theorem TAt.lt {W : World} {g : Nat} {t : WTxn} (h : TAt W g t) : g < W.heap.size := by unfold TAt at h; exact (Array.getElem?_eq_some_iff.1 h).1
theorem TAt.c0 {W : World} {g : Nat} {t : WTxn} (h : TAt W g t) : W.cell? ⟨g, 0, none⟩ = some (.int .i64 t.z) := by unfold TAt at h; simp [World.cell?, h]
theorem TAt.c1 {W : World} {g : Nat} {t : WTxn} (h : TAt W g t) : W.cell? ⟨g, 1, none⟩ = some (.int .i64 t.o) := by unfold TAt at h; simp [World.cell?, h]
theorem TAt.c2 {W : World} {g : Nat} {t : WTxn} (h : TAt W g t) : W.cell? ⟨g, 2, none⟩ = some (.int .i64 t.s) := by unfold TAt at h; simp [World.cell?, h]
theorem TAt.c3 {W : World} {g : Nat} {t : WTxn} (h : TAt W g t) : W.cell? ⟨g, 3, none⟩ = some (.string ⟨t.p.toArray⟩) := by unfold TAt at h; simp [World.cell?, h]
theorem TAt.c4 {W : World} {g : Nat} {t : WTxn} (h : TAt W g t) : W.cell? ⟨g, 4, none⟩ = some (.string ⟨t.d.toArray⟩) := by unfold TAt at h; simp [World.cell?, h]
theorem TAt.c5 {W : World} {g : Nat} {t : WTxn} (h : TAt W g t) : W.cell? ⟨g, 5, none⟩ = some (.int .i64 t.v) := by unfold TAt at h; simp [World.cell?, h]
theorem TAt.c6 {W : World} {g : Nat} {t : WTxn} (h : TAt W g t) : W.cell? ⟨g, 6, none⟩ = some (.int .i64 t.w) := by unfold TAt at h; simp [World.cell?, h]
theorem TAt.f {W : World} {g : Nat} {t : WTxn} (h : TAt W g t) (j : Nat) : W.frozen? ⟨g, j, none⟩ = false := by unfold TAt at h; simp [World.frozen?, h]
theorem info_txn0 : (Try.prog.info? 47).map (fun i => (i.zero, i.size, i.bytes)) = some (some (txnV t0), 7, 72) := by kernel_rfl
theorem info_txn : ∃ i0, Try.prog.info? 47 = some i0 ∧ i0.zero = some (txnV t0) ∧ i0.size = 7 ∧ i0.bytes = 72 := by
  obtain ⟨i0, h, e⟩ := Option.map_eq_some_iff.1 info_txn0
  simp only [Prod.mk.injEq] at e
  exact ⟨i0, h, e.1, e.2.1, e.2.2⟩
end Go.Proofs.Ytijpnmponjjejaa

namespace Go.Proofs.Ytijpnmponjjejaa
open Go.RowKit

/-- how one element lies -/
class Lay (α : Type) where
  k : Nat
  cs : α → List Value
  ty : TypeId
  len : ∀ x, (cs x).length = k
  one : ∀ x, ∀ u ∈ cs x, u.oneCell' = true
instance layI : Lay Int := ⟨1, fun x => [.int .i64 x], 3, fun _ => rfl, fun x u hu => by simp at hu; subst hu; rfl⟩
instance layS : Lay (List UInt8) := ⟨1, fun x => [.string ⟨x.toArray⟩], 9, fun _ => rfl, fun x u hu => by simp at hu; subst hu; rfl⟩

section
variable {α : Type} [Lay α]
def cellsL (xs : List α) : List Value := xs.flatMap Lay.cs
theorem cellsL_cons (x : α) (r : List α) : cellsL (x :: r) = Lay.cs x ++ cellsL r := by simp [cellsL]
theorem cellsL_length (xs : List α) : (cellsL xs).length = xs.length * Lay.k α := by
  induction xs with
  | nil => simp [cellsL]
  | cons x r ih => rw [cellsL_cons, List.length_append, Lay.len, ih, List.length_cons, Nat.add_mul]; omega
theorem cellsL_append (a b : List α) : cellsL (a ++ b) = cellsL a ++ cellsL b := by simp [cellsL]
theorem cellsL_snoc (a : List α) (x : α) : cellsL (a ++ [x]) = cellsL a ++ Lay.cs x := by simp [cellsL]
theorem cellsL_at (A : List α) (x : α) (B : List α) (c : Nat) (hc : c < Lay.k α) : (cellsL (A ++ x :: B))[A.length * Lay.k α + c]? = (Lay.cs x)[c]? := by
  rw [cellsL_append, List.getElem?_append_right (by rw [cellsL_length]; omega), cellsL_length, Nat.add_sub_cancel_left, cellsL_cons, List.getElem?_append_left (by rw [Lay.len]; exact hc)]
theorem cellsL_get (xs : List α) (i : Nat) (x : α) (h : xs[i]? = some x) (c : Nat) (hc : c < Lay.k α) : (cellsL xs)[i * Lay.k α + c]? = (Lay.cs x)[c]? := by
  obtain ⟨hi, rfl⟩ := List.getElem?_eq_some_iff.1 h
  have e : xs = xs.take i ++ xs[i] :: xs.drop (i + 1) := by simp
  have := cellsL_at (xs.take i) xs[i] (xs.drop (i + 1)) c hc
  rw [← e, List.length_take, Nat.min_eq_left (Nat.le_of_lt hi)] at this
  exact this
theorem cellsL_one (xs : List α) : ∀ u ∈ cellsL xs, u.oneCell' = true := by
  intro u hu
  obtain ⟨x, _, hx⟩ := List.mem_flatMap.1 hu
  exact Lay.one x u hx
theorem cellsL_set (A : List α) (x y : α) (B : List α) (c : Nat) (v : Value) (hc : c < Lay.k α) (hy : Lay.cs y = (Lay.cs x).set c v) : (cellsL (A ++ x :: B)).set (A.length * Lay.k α + c) v = cellsL (A ++ y :: B) := by
  rw [cellsL_append, cellsL_append, List.set_append_right _ _ (by rw [cellsL_length]; omega), cellsL_length, Nat.add_sub_cancel_left, cellsL_cons, cellsL_cons, List.set_append_left _ _ (by rw [Lay.len]; exact hc), hy]

/-- the value holds these -/
def SeqV (w : World) (v : Value) (xs : List α) : Prop :=
  (∃ a cap, v = .slice a 0 cap ∧ xs = [] ∧ cap ≤ maxLen) ∨
  ∃ b off cap, v = .slice (some ⟨b, off, none⟩) xs.length cap ∧ xs.length ≤ cap ∧ cap ≤ maxLen ∧ b < w.heap.size ∧ xs ≠ [] ∧ RowAt w b off (cellsL xs)
theorem SeqV.kept {w w' : World} {B : Nat} {v : Value} {xs : List α} (h : SeqV w v xs) (hb : Below B w w') (hB : w.heap.size ≤ B) : SeqV w' v xs := by
  rcases h with h | ⟨b, off, cap, rfl, h1, h2, h3, h0, h4⟩
  · exact .inl h
  · exact .inr ⟨b, off, cap, rfl, h1, h2, Nat.lt_of_lt_of_le h3 hb.size, h0, h4.kept hb (Nat.lt_of_lt_of_le h3 hB)⟩
theorem SeqV.next {w w' : World} {v : Value} {xs : List α} (h : SeqV w v xs) (hb : Below w.heap.size w w') : SeqV w' v xs := h.kept hb (Nat.le_refl _)
theorem SeqV.alloc {w : World} {v : Value} {xs : List α} (h : SeqV w v xs) (o : Obj) : SeqV (w.alloc o) v xs := h.next ((Below.refl _ _).alloc (Nat.le_refl _) o)
theorem SeqV.nil (w : World) : SeqV w (.slice none 0 0) ([] : List α) := .inl ⟨none, 0, rfl, rfl, by decide⟩
theorem seq_slice {w : World} {v : Value} {xs : List α} (hv : SeqV w v xs) : ∃ a c, v = .slice a xs.length c := by
  rcases hv with ⟨a, cap, rfl, rfl, _⟩ | ⟨b, off, cap, rfl, _⟩
  · exact ⟨_, _, rfl⟩
  · exact ⟨_, _, rfl⟩
theorem seq_row {w : World} {v : Value} {xs : List α} (hv : SeqV w v xs) (h0 : xs ≠ []) :
    ∃ b off cap, v = .slice (some ⟨b, off, none⟩) xs.length cap ∧ b < w.heap.size ∧ RowAt w b off (cellsL xs) ∧ xs.length ≤ cap ∧ cap ≤ maxLen := by
  rcases hv with ⟨a, cap, rfl, rfl, _⟩ | ⟨b, off, cap, rfl, h1, h2, hb, _, hr⟩
  · exact absurd rfl h0
  · exact ⟨b, off, cap, rfl, hb, hr, h1, h2⟩

/-- block g is a row of the call's own with these at its head -/
def OwnR (W : World) (g cap : Nat) (xs : List α) : Prop := ∃ rest : List Value, W.heap[g]? = some (.cells (cellsL xs ++ rest).toArray (Lay.ty α) (0, 0)) ∧ xs.length * Lay.k α + rest.length = cap * Lay.k α ∧ xs.length ≤ cap ∧ cap ≤ maxLen
theorem OwnR.lt {W : World} {g cap : Nat} {xs : List α} (h : OwnR W g cap xs) : g < W.heap.size := by
  obtain ⟨rest, h1, _⟩ := h
  exact (Array.getElem?_eq_some_iff.1 h1).1
theorem OwnR.le {W : World} {g cap : Nat} {xs : List α} (h : OwnR W g cap xs) : xs.length ≤ cap := by obtain ⟨rest, _, _, h2, _⟩ := h; exact h2
theorem OwnR.capLe {W : World} {g cap : Nat} {xs : List α} (h : OwnR W g cap xs) : cap ≤ maxLen := by obtain ⟨rest, _, _, _, h3⟩ := h; exact h3
theorem OwnR.row {W : World} {g cap : Nat} {xs : List α} (h : OwnR W g cap xs) : RowAt W g 0 (cellsL xs) := by
  obtain ⟨rest, h1, _⟩ := h
  intro j v hj
  have hlt : j < (cellsL xs).length := (List.getElem?_eq_some_iff.1 hj).1
  simp [World.cell?, h1, List.getElem?_append_left hlt, hj]
theorem OwnR.frozen {W : World} {g cap : Nat} {xs : List α} (h : OwnR W g cap xs) (j : Nat) : W.frozen? ⟨g, j, none⟩ = false := by
  obtain ⟨rest, h1, _⟩ := h
  simp [World.frozen?, h1]
theorem OwnR.kept {W V : World} {g B cap : Nat} {xs : List α} (h : OwnR W g cap xs) (hb : Below B W V) (hg : g < B) : OwnR V g cap xs := by
  obtain ⟨rest, h1, h2⟩ := h
  exact ⟨rest, (hb.block _ hg).trans h1, h2⟩
theorem OwnR.next {W V : World} {g cap : Nat} {xs : List α} (h : OwnR W g cap xs) (hb : Below W.heap.size W V) : OwnR V g cap xs := h.kept hb h.lt
theorem OwnR.other {W : World} {g cap : Nat} {xs : List α} (h : OwnR W g cap xs) {a : Addr} (ha : g ≠ a.block) (v : Value) : OwnR (W.setCell a v) g cap xs := by
  obtain ⟨rest, h1, h2⟩ := h
  exact ⟨rest, (Below.heap_setCell W a v g ha).trans h1, h2⟩
theorem OwnR.set {W : World} {g cap : Nat} {A B : List α} {x y : α} (h : OwnR W g cap (A ++ x :: B)) {c : Nat} (hc : c < Lay.k α) {v : Value} (hy : Lay.cs y = (Lay.cs x).set c v) : OwnR (W.setCell ⟨g, A.length * Lay.k α + c, none⟩ v) g cap (A ++ y :: B) := by
  obtain ⟨rest, h1, h2, h3⟩ := h
  refine ⟨rest, ?_, by simpa using h2, by simpa using h3⟩
  rw [block_set v h1, ← cellsL_set A x y B c v hc hy]
  have hlt : A.length * Lay.k α + c < (cellsL (A ++ x :: B)).length := by
    rw [cellsL_length]; simp [Nat.add_mul]; omega
  simp [List.set_append_left _ _ hlt]

/-- a value that holds these in a row of the call's own, at or behind block B -/
def OwnS (W : World) (B : Nat) (v : Value) (xs : List α) : Prop := (v = .slice none 0 0 ∧ xs = []) ∨ ∃ g cap, v = .slice (some ⟨g, 0, none⟩) xs.length cap ∧ B ≤ g ∧ OwnR W g cap xs
theorem OwnS.seq {W : World} {B : Nat} {v : Value} {xs : List α} (h : OwnS W B v xs) : SeqV W v xs := by
  rcases h with ⟨rfl, rfl⟩ | ⟨g, cap, rfl, _, h⟩
  · exact SeqV.nil W
  · by_cases h0 : xs = []
    · subst h0; exact .inl ⟨_, cap, rfl, rfl, h.capLe⟩
    · exact .inr ⟨g, 0, cap, rfl, h.le, h.capLe, h.lt, h0, h.row⟩
theorem OwnS.kept {W V : World} {B C : Nat} {v : Value} {xs : List α} (h : OwnS W B v xs) (hb : Below C W V) (hC : W.heap.size ≤ C) : OwnS V B v xs := by
  rcases h with h | ⟨g, cap, rfl, hB, h⟩
  · exact .inl h
  · exact .inr ⟨g, cap, rfl, hB, h.kept hb (Nat.lt_of_lt_of_le h.lt hC)⟩
theorem OwnS.next {W V : World} {B : Nat} {v : Value} {xs : List α} (h : OwnS W B v xs) (hb : Below W.heap.size W V) : OwnS V B v xs := h.kept hb (Nat.le_refl _)
theorem OwnS.other {W : World} {B : Nat} {v : Value} {xs : List α} (h : OwnS W B v xs) {a : Addr} (ha : v.ownBlock ≠ some a.block) (u : Value) : OwnS (W.setCell a u) B v xs := by
  rcases h with h | ⟨g, cap, rfl, hB, h⟩
  · exact .inl h
  · exact .inr ⟨g, cap, rfl, hB, h.other (by intro e; apply ha; simp [Value.ownBlock, e]) u⟩
theorem OwnS.lower {W : World} {B C : Nat} {v : Value} {xs : List α} (h : OwnS W B v xs) (hC : C ≤ B) : OwnS W C v xs := by
  rcases h with h | ⟨g, cap, rfl, hB, h⟩
  · exact .inl h
  · exact .inr ⟨g, cap, rfl, Nat.le_trans hC hB, h⟩
theorem OwnS.of_row {W : World} {B : Nat} {v : Value} {xs : List α} (h : W.ownsRow B (Lay.ty α) (Lay.k α) v xs.length (cellsL xs)) : OwnS W B v xs := by
  obtain ⟨_, ⟨rfl, h0⟩ | ⟨g, cap, cur, rfl, hB, hg, hn, hm, hs, ht⟩⟩ := h
  · exact .inl ⟨rfl, List.eq_nil_of_length_eq_zero h0⟩
  · refine .inr ⟨g, cap, rfl, hB, cur.toList.drop (xs.length * Lay.k α), ?_, ?_, hn, hm⟩
    · rw [hg, ← ht, List.take_append_drop]
    · have := Nat.mul_le_mul_right (Lay.k α) hn
      simp [hs]; omega
theorem OwnS.row {W : World} {B : Nat} {v : Value} {xs : List α} (h : OwnS W B v xs) : W.ownsRow B (Lay.ty α) (Lay.k α) v xs.length (cellsL xs) := by
  refine ⟨cellsL_length xs, ?_⟩
  rcases h with ⟨rfl, rfl⟩ | ⟨g, cap, rfl, hB, h⟩
  · exact .inl ⟨rfl, rfl⟩
  · obtain ⟨rest, h1, h2, hle, h3⟩ := h
    refine .inr ⟨g, cap, _, rfl, hB, h1, hle, h3, by simp [cellsL_length, h2], ?_⟩
    simp [← cellsL_length xs]
theorem OwnS.slice {W : World} {B : Nat} {v : Value} {xs : List α} (h : OwnS W B v xs) : ∃ a c, v = .slice a xs.length c ∧ c ≤ maxLen := by
  rcases h with ⟨rfl, rfl⟩ | ⟨g, cap, rfl, _, h⟩
  · exact ⟨none, 0, rfl, by decide⟩
  · exact ⟨_, _, rfl, h.capLe⟩
end

theorem RowAt.i0 {w : World} {b off : Nat} {xs : List Int} (h : RowAt w b off (cellsL xs)) {i : Nat} {x : Int} (hi : xs[i]? = some x) : w.cell? ⟨b, off + i, none⟩ = some (.int .i64 x) :=
  h i _ (by have := cellsL_get xs i x hi 0 (by decide); simpa [Lay.k, Lay.cs] using this)
theorem nnext {w W V : World} (h : Below w.heap.size w W) (h' : Below W.heap.size W V) : Below w.heap.size w V := h.trans (h'.mono h.size)
theorem allocB (w : World) (o : Obj) : Below w.heap.size w (w.alloc o) := (Below.refl _ _).alloc (Nat.le_refl _) _

theorem nblock_setCells {g : Nat} {t : TypeId} {fz : Nat × Nat} : ∀ (vs : List Value) (o : Nat) (w : World) (l : List Value), w.heap[g]? = some (.cells l.toArray t fz) → o + vs.length ≤ l.length →
    (w.setCells g o vs).heap[g]? = some (.cells (l.take o ++ vs ++ l.drop (o + vs.length)).toArray t fz)
  | [], o, w, l, h, _ => by simpa [World.setCells] using h
  | v :: r, o, w, l, h, hl => by
    have h1 : (w.setCell ⟨g, o, none⟩ v).heap[g]? = some (.cells (l.set o v).toArray t fz) := by rw [block_set v h]; simp
    rw [World.setCells, nblock_setCells r (o + 1) _ _ h1 (by simp at hl ⊢; omega)]
    have ho : o < l.length := by simp at hl; omega
    have e1 : (l.set o v).take (o + 1) = l.take o ++ [v] := by
      rw [List.take_set, List.take_succ_eq_append_getElem ho, List.set_append_right _ _ (by simp; omega)]
      simp [Nat.min_eq_left (Nat.le_of_lt ho)]
    have e2 : (l.set o v).drop (o + 1 + r.length) = l.drop (o + (r.length + 1)) := by
      rw [List.drop_set_of_lt (by omega)]; congr 1; omega
    rw [e1, e2]
    simp
section
variable {α : Type} [Lay α]
theorem OwnR.spare {W : World} {g cap : Nat} {fs : List α} (h : OwnR W g cap fs) (vs : List Value) (o : Nat) (ho : fs.length * Lay.k α ≤ o) (hfit : o + vs.length ≤ cap * Lay.k α) : OwnR (W.setCells g o vs) g cap fs := by
  obtain ⟨rest, h1, h2, h4, h3⟩ := h
  have hlen : (cellsL fs ++ rest).length = cap * Lay.k α := by rw [List.length_append, cellsL_length]; exact h2
  have hc := cellsL_length fs
  refine ⟨rest.take (o - fs.length * Lay.k α) ++ vs ++ (cellsL fs ++ rest).drop (o + vs.length), ?_, ?_, h4, h3⟩
  · rw [nblock_setCells vs o W _ h1 (by rw [hlen]; omega)]
    congr 2
    rw [List.take_append, List.take_of_length_le (by omega), hc]
    simp only [List.append_assoc]
  · simp only [List.length_append, List.length_take, List.length_drop, hc]
    omega
theorem OwnR.some {W : World} {g cap : Nat} {fs : List α} (h : OwnR W g cap fs) {j : Nat} (hj : j < cap * Lay.k α) : (W.cell? ⟨g, j, none⟩).isSome = true := by
  obtain ⟨rest, h1, h2, _⟩ := h
  have hl : j < (cellsL fs ++ rest).length := by rw [List.length_append, cellsL_length, h2]; exact hj
  rw [List.length_append] at hl
  simp [World.cell?, h1, hl]
theorem OwnR.drew {W : World} {g cap : Nat} {fs : List α} (h : OwnR W g cap fs) : OwnR W.drew g cap fs := h
theorem OwnR.alloc {W : World} {g cap : Nat} {fs : List α} (h : OwnR W g cap fs) (o : Obj) : OwnR (W.alloc o) g cap fs := h.next ((Below.refl _ _).alloc (Nat.le_refl _) o)
/-- block b holds just this one -/
def OneR (W : World) (b : Nat) (x : α) : Prop := W.heap[b]? = some (.cells (Lay.cs x).toArray (Lay.ty α) (0, 0))
theorem OneR.row {W : World} {b : Nat} {x : α} (h : OneR W b x) : ∀ j v, (Lay.cs x)[j]? = some v → W.cell? ⟨b, 0 + j, none⟩ = some v := by
  intro j v hj
  unfold OneR at h
  simp [World.cell?, h, hj]
end
/-- all old blocks but those of F are as they were -/
structure Touch (F : Nat → Prop) (w w' : World) : Prop where
  os : w'.os = w.os
  tape : w'.tape = w.tape
  output : w'.output = w.output
  size : w.heap.size ≤ w'.heap.size
  block : ∀ k, k < w.heap.size → ¬ F k → w'.heap[k]? = w.heap[k]?
theorem Touch.refl (F : Nat → Prop) (w : World) : Touch F w w := ⟨rfl, rfl, rfl, Nat.le_refl _, fun _ _ _ => rfl⟩
theorem Touch.trans {F : Nat → Prop} {a b c : World} (h : Touch F a b) (k : Touch F b c) : Touch F a c :=
  ⟨k.os.trans h.os, k.tape.trans h.tape, k.output.trans h.output, Nat.le_trans h.size k.size, fun i hi hf => (k.block i (Nat.lt_of_lt_of_le hi h.size) hf).trans (h.block i hi hf)⟩
theorem Touch.set {F : Nat → Prop} {w : World} {a : Addr} (hf : F a.block) (v : Value) : Touch F w (w.setCell a v) := ⟨rfl, rfl, rfl, by simp [World.setCell], fun k _ hn => Below.heap_setCell w a v k (fun e => hn (by rw [e]; exact hf))⟩
theorem Touch.drew {F : Nat → Prop} {w w' : World} (h : Touch F w w') : Touch F w w'.drew := ⟨h.os, h.tape, h.output, h.size, h.block⟩
theorem Touch.mono {F G : Nat → Prop} {w w' : World} (h : Touch F w w') (hg : ∀ k, k < w.heap.size → F k → G k) : Touch G w w' := ⟨h.os, h.tape, h.output, h.size, fun k hk hn => h.block k hk (fun hf => hn (hg k hk hf))⟩
theorem OwnS.grown {α : Type} [Lay α] {W V : World} {B : Nat} {v : Value} {xs : List α} (h : OwnS W B v xs) {r : Option Nat} (hg : W.grownBy V r) (hr : ∀ k, v.ownBlock = some k → some k ≠ r) : OwnS V B v xs := by
  rcases h with h | ⟨g, cap, rfl, hB, h⟩
  · exact .inl h
  · obtain ⟨rest, h1, h2⟩ := h
    have hlt := (Array.getElem?_eq_some_iff.1 h1).1
    exact .inr ⟨g, cap, rfl, hB, rest, (hg.block g hlt (hr g rfl)).trans h1, h2⟩
theorem nbelow_drew {W V : World} (h : Below W.drew.heap.size W.drew V) : Below W.heap.size W V := ((Below.refl _ W).drew).trans h
theorem one_news {α : Type} [Lay α] {W : World} {g : Nat} {x : α} (h : OneR W g x) (j : Nat) (u : Value) (hj : (Lay.cs x)[j]? = some u) : W.cell? ((⟨g, 0, none⟩ : Addr).add j) = some u := by
  rw [Addr.add_lit]
  exact h.row j u hj
end Go.Proofs.Ytijpnmponjjejaa

namespace Go.Proofs.Ytijpnmponjjejaa
open Go.RowKit

instance layX : Lay WTxn := ⟨7, tcells, 47, fun _ => rfl, fun x u hu => tcells_one x u hu⟩
theorem cellsT_L (ts : List WTxn) : cellsL ts = cellsT ts := by
  induction ts with
  | nil => rfl
  | cons f r ih => rw [cellsL_cons, ih]; rfl
theorem seq_log {w : World} {v : Value} {ts : List WTxn} : SeqV w v ts ↔ LogV w v ts := by unfold SeqV LogV; rw [cellsT_L]
end Go.Proofs.Ytijpnmponjjejaa

namespace Go.Proofs.Ytijpnmponjjejaa
open Go.RowKit

/-- a peer; its log's place, and what it holds -/
structure Pe where
  id : Int
  ep : Int
  a : Option Addr
  c : Nat
  ts : List WTxn
  dn : Int
def pe0 : Pe := ⟨0, 0, none, 0, [], 0⟩
def peV (p : Pe) : Value := .agg #[.int .i64 p.id, .int .i64 p.ep, .slice p.a p.ts.length p.c, .int .i64 p.dn]
def pcells (p : Pe) : List Value := [.int .i64 p.id, .int .i64 p.ep, .slice p.a p.ts.length p.c, .int .i64 p.dn]
instance layP : Lay Pe := ⟨4, pcells, 29, fun _ => rfl, fun x u hu => by simp [pcells] at hu; rcases hu with rfl | rfl | rfl | rfl <;> rfl⟩
/-- one log of a list -/
structure Lg where
  a : Option Addr
  c : Nat
  ts : List WTxn
def lgV (l : Lg) : Value := .slice l.a l.ts.length l.c
instance layG : Lay Lg := ⟨1, fun l => [lgV l], 27, fun _ => rfl, fun x u hu => by simp at hu; subst hu; rfl⟩

def Pe.log (p : Pe) : Value := .slice p.a p.ts.length p.c
/-- the peers' logs hold what they say -/
def PLogs (w : World) (ps : List Pe) : Prop := ∀ p ∈ ps, LogV w p.log p.ts
def GLogs (w : World) (ls : List Lg) : Prop := ∀ l ∈ ls, LogV w (lgV l) l.ts
theorem PLogs.next {w w' : World} {ps : List Pe} (h : PLogs w ps) (hb : Below w.heap.size w w') : PLogs w' ps := fun p hp => (h p hp).next hb
theorem GLogs.next {w w' : World} {ls : List Lg} (h : GLogs w ls) (hb : Below w.heap.size w w') : GLogs w' ls := fun p hp => (h p hp).next hb
theorem RowAt.pe0 {w : World} {b off : Nat} {xs : List Pe} (h : RowAt w b off (cellsL xs)) {i : Nat} {x : Pe} (hi : xs[i]? = some x) : w.cell? ⟨b, off + i * 4, none⟩ = some (.int .i64 x.id) :=
  h (i * 4) _ (cellsL_get xs i x hi 0 (by decide))
theorem RowAt.pe1 {w : World} {b off : Nat} {xs : List Pe} (h : RowAt w b off (cellsL xs)) {i : Nat} {x : Pe} (hi : xs[i]? = some x) : w.cell? ⟨b, off + i * 4 + 1, none⟩ = some (.int .i64 x.ep) := by
  rw [Nat.add_assoc]; exact h (i * 4 + 1) _ (cellsL_get xs i x hi 1 (by decide))
theorem RowAt.pe2 {w : World} {b off : Nat} {xs : List Pe} (h : RowAt w b off (cellsL xs)) {i : Nat} {x : Pe} (hi : xs[i]? = some x) : w.cell? ⟨b, off + i * 4 + 2, none⟩ = some (.slice x.a x.ts.length x.c) := by
  rw [Nat.add_assoc]; exact h (i * 4 + 2) _ (cellsL_get xs i x hi 2 (by decide))
theorem RowAt.pe3 {w : World} {b off : Nat} {xs : List Pe} (h : RowAt w b off (cellsL xs)) {i : Nat} {x : Pe} (hi : xs[i]? = some x) : w.cell? ⟨b, off + i * 4 + 3, none⟩ = some (.int .i64 x.dn) := by
  rw [Nat.add_assoc]; exact h (i * 4 + 3) _ (cellsL_get xs i x hi 3 (by decide))
theorem RowAt.lg0 {w : World} {b off : Nat} {xs : List Lg} (h : RowAt w b off (cellsL xs)) {i : Nat} {x : Lg} (hi : xs[i]? = some x) : w.cell? ⟨b, off + i, none⟩ = some (.slice x.a x.ts.length x.c) :=
  h i _ (by have := cellsL_get xs i x hi 0 (by decide); simpa [Lay.k, Lay.cs, lgV] using this)

/-- a box of a peer -/
def PBox (W : World) (g : Nat) (p : Pe) : Prop := W.heap[g]? = some (.cells #[.int .i64 p.id, .int .i64 p.ep, .slice p.a p.ts.length p.c, .int .i64 p.dn] 29 (0, 0))
theorem PBox.new (W : World) (p : Pe) : PBox (W.alloc (.cells #[.int .i64 p.id, .int .i64 p.ep, .slice p.a p.ts.length p.c, .int .i64 p.dn] 29)) W.heap.size p := heap_alloc_new W _
theorem PBox.next {W V : World} {g : Nat} {p : Pe} (h : PBox W g p) (hb : Below W.heap.size W V) : PBox V g p := (hb.block g (by unfold PBox at h; exact (Array.getElem?_eq_some_iff.1 h).1)).trans h
theorem PBox.lt {W : World} {g : Nat} {p : Pe} (h : PBox W g p) : g < W.heap.size := by unfold PBox at h; exact (Array.getElem?_eq_some_iff.1 h).1
theorem PBox.c0 {W : World} {g : Nat} {p : Pe} (h : PBox W g p) : W.cell? ⟨g, 0, none⟩ = some (.int .i64 p.id) := by unfold PBox at h; simp [World.cell?, h]
theorem PBox.c1 {W : World} {g : Nat} {p : Pe} (h : PBox W g p) : W.cell? ⟨g, 1, none⟩ = some (.int .i64 p.ep) := by unfold PBox at h; simp [World.cell?, h]
theorem PBox.c2 {W : World} {g : Nat} {p : Pe} (h : PBox W g p) : W.cell? ⟨g, 2, none⟩ = some (.slice p.a p.ts.length p.c) := by unfold PBox at h; simp [World.cell?, h]
theorem PBox.c3 {W : World} {g : Nat} {p : Pe} (h : PBox W g p) : W.cell? ⟨g, 3, none⟩ = some (.int .i64 p.dn) := by unfold PBox at h; simp [World.cell?, h]
theorem PBox.f {W : World} {g : Nat} {p : Pe} (h : PBox W g p) (j : Nat) : W.frozen? ⟨g, j, none⟩ = false := by unfold PBox at h; simp [World.frozen?, h]
theorem ginfo0 : (Try.prog.info? 27).map (fun i => (i.zero, i.size, i.bytes)) = some (some (.slice none 0 0), 1, 24) := by kernel_rfl
theorem ginfo : ∃ i0, Try.prog.info? 27 = some i0 ∧ i0.zero = some (.slice none 0 0) ∧ i0.size = 1 ∧ i0.bytes = 24 := by
  obtain ⟨i0, h, e⟩ := Option.map_eq_some_iff.1 ginfo0
  simp only [Prod.mk.injEq] at e
  exact ⟨i0, h, e⟩
theorem belowN {B n : Nat} {a w : World} (h : Below B a w) : Below B a (w.drewN n) := ⟨h.os, h.tape, h.output, h.size, h.block⟩
theorem row_of {α : Type} [Lay α] {w : World} {v : Value} {xs : List α} (hv : SeqV w v xs) {i : Nat} {x : α} (hi : xs[i]? = some x) :
    ∃ b off cap, v = .slice (some ⟨b, off, none⟩) xs.length cap ∧ b < w.heap.size ∧ RowAt w b off (cellsL xs) ∧ i < xs.length ∧ xs.length ≤ cap ∧ cap ≤ maxLen := by
  obtain ⟨hi', _⟩ := List.getElem?_eq_some_iff.1 hi
  obtain ⟨b, off, cap, e, hb, hr, h1, h2⟩ := seq_row hv (fun h0 => by rw [h0] at hi'; simp at hi')
  exact ⟨b, off, cap, e, hb, hr, hi', h1, h2⟩
end Go.Proofs.Ytijpnmponjjejaa

namespace Go.Proofs.Ytijpnmponjjejaa
open Go.RowKit

def eqX (x y : WTxn) : Bool := x.z == y.z && x.o == y.o && x.s == y.s && x.p == y.p && x.d == y.d && x.v == y.v && x.w == y.w
theorem eqX_iff {x y : WTxn} : eqX x y = true ↔ x = y := by
  obtain ⟨a, b, c, d, e, f, g⟩ := x
  obtain ⟨a', b', c', d', e', f', g'⟩ := y
  simp [eqX, and_assoc]
theorem run_eqX (x y : WTxn) (w : World) : (binOp .eql 47 (txnV x) (txnV y)).run Try.prog w = .ok (.bool (eqX x y)) w := by
  have u3 := Try.underlying3
  have a3 := Try.isAgg3
  have z3 := Try.sizeOf3
  have u9 := Try.underlying9
  have a9 := Try.isAgg9
  have z9 := Try.sizeOf9
  have hS : Try.prog.underlying 47 = some (.struct (Try.prog.fieldsOf 47)) := by kernel_rfl
  have hp : Try.prog.stoodInHeld 47 = false := by kernel_rfl
  simp only [txnV]
  rw [run_eql_struct, show (10000 : Nat) = 9999 + 1 from rfl, run_equalIn_agg w 9999 47 _ _ hS hp]
  simp only [Program.fieldsOf, Try.underlying47]
  go_simp
  unfold eqX
  by_cases h0 : x.z = y.z
  · by_cases h1 : x.o = y.o
    · by_cases h2 : x.s = y.s
      · by_cases h3 : x.p = y.p
        · by_cases h4 : x.d = y.d
          · by_cases h5 : x.v = y.v
            · by_cases h6 : x.w = y.w
              · simp [h0, h1, h2, h3, h4, h5, h6]
              · simp [h0, h1, h2, h3, h4, h5, h6]
            · simp [h0, h1, h2, h3, h4, h5]
          · simp [h0, h1, h2, h3, h4]
        · simp [h0, h1, h2, h3]
      · simp [h0, h1, h2]
    · simp [h0, h1]
  · simp [h0]
/-- does this transaction stand at this place of the log? -/
def atB (m : List WTxn) (i : Nat) (t : WTxn) : Bool := match m[i]? with | some x => eqX x t | none => false
/-- in how many of them -/
def cntN (tss : List (List WTxn)) (i : Nat) (t : WTxn) : Nat := tss.countP (fun m => atB m i t)
theorem cntN_snoc (tss : List (List WTxn)) (m : List WTxn) (i : Nat) (t : WTxn) : cntN (tss ++ [m]) i t = cntN tss i t + if atB m i t = true then 1 else 0 := by
  simp [cntN, List.countP_append, List.countP_cons]
theorem cntN_le (tss : List (List WTxn)) (i : Nat) (t : WTxn) : cntN tss i t ≤ tss.length := List.countP_le_length
/-- how many transactions of the first log stand in two of them -/
structure Com (tss : List (List WTxn)) (l : List WTxn) (n : Nat) : Prop where
  le : n ≤ l.length
  two : ∀ i t, i < n → l[i]? = some t → 2 ≤ cntN tss i t
  stop : ∀ t, l[n]? = some t → cntN tss n t < 2
theorem com_ex (tss : List (List WTxn)) (l : List WTxn) : ∃ n, Com tss l n := by
  have main : ∀ k, k ≤ l.length → (∀ i t, i < k → l[i]? = some t → 2 ≤ cntN tss i t) ∨ ∃ n, Com tss l n := by
    intro k
    induction k with
    | zero => exact fun _ => .inl fun i t h => by omega
    | succ k ih =>
      intro hk
      rcases ih (by omega) with ih | ih
      · obtain ⟨x, hx⟩ : ∃ x, l[k]? = some x := ⟨_, List.getElem?_eq_getElem (by omega)⟩
        by_cases h : 2 ≤ cntN tss k x
        · refine .inl fun i t hi ht => ?_
          by_cases e : i = k
          · subst e; rw [hx] at ht; cases ht; exact h
          · exact ih i t (by omega) ht
        · refine .inr ⟨k, by omega, ih, fun t ht => ?_⟩
          rw [hx] at ht; cases ht; omega
      · exact .inr ih
  rcases main l.length (Nat.le_refl _) with h | h
  · exact ⟨l.length, Nat.le_refl _, h, fun t ht => by simp at ht⟩
  · exact h
theorem atB_at {m : List WTxn} {i : Nat} {x t : WTxn} (h : m[i]? = some x) : atB m i t = eqX x t := by simp [atB, h]
theorem atB_no {m : List WTxn} {i : Nat} {t : WTxn} (h : m.length ≤ i) : atB m i t = false := by simp [atB, List.getElem?_eq_none h]
/-- the counts of all places of l, over these logs -/
def cnts (tss : List (List WTxn)) (l : List WTxn) : List Int := l.mapIdx fun i t => (cntN tss i t : Int)
theorem cnts_len (tss : List (List WTxn)) (l : List WTxn) : (cnts tss l).length = l.length := by simp [cnts]
theorem cnts_get (tss : List (List WTxn)) {l : List WTxn} {i : Nat} {t : WTxn} (h : l[i]? = some t) : (cnts tss l)[i]? = some (cntN tss i t : Int) := by simp [cnts, h]
theorem cnts_nil (l : List WTxn) : cnts [] l = List.replicate l.length 0 := by
  apply List.ext_getElem?
  intro i
  by_cases h : i < l.length
  · rw [cnts_get [] (List.getElem?_eq_getElem h)]
    simp [cntN, h]
  · rw [List.getElem?_eq_none (by rw [cnts_len]; omega), List.getElem?_eq_none (by simp; omega)]
end Go.Proofs.Ytijpnmponjjejaa

namespace Go.Proofs.Ytijpnmponjjejaa
open Go.RowKit

theorem wpList_app1 {α : Type} [Lay α] {w : World} {ops : Array Oper} {rest : List Oper} {o : Oper} {a : Act} {Q : Exit → Act → World → Prop} (hgd : o.guard = none) (s x : Operand) (T : TypeId)
    (ho : o.op = .call { callee := .builtin .append, args := #[s, x], argTypes := #[T, T] })
    (i0 : TypeInfo) (z : Value) (bytes : Nat) (hU : Try.prog.underlying T = some (.slice (Lay.ty α))) (hi0 : Try.prog.info? (Lay.ty α) = some i0) (hz0 : i0.zero = some z) (hz1 : i0.size = Lay.k α) (hz2 : i0.bytes = bytes) (hzs : z.cells.size = Lay.k α) (hk0 : 0 < Lay.k α)
    (v : Value) (ns : List α) (hs : a.eval s = v) (B : Nat) (hown : OwnS w B v ns) (q : Nat) (hx : a.eval x = .slice (some ⟨q, 0, none⟩) 1 1) (t : α) (hnews : OneR w q t) (hl : (ns.length + 1) * bytes ≤ 140737488355328) (hm : ns.length + 1 ≤ maxLen) (hB : B ≤ w.heap.size)
    (h : ∀ a' c' w', OwnS w' B (.slice a' (ns.length + 1) c') (ns ++ [t]) → w.grownBy w' v.ownBlock → wpList Try.prog ops Q rest (a.put o.dst (.slice a' (ns.length + 1) c')) w') :
    wpList Try.prog ops Q (o :: rest) a w := by
  refine wpList_plain hgd fun K hK => ?_
  obtain ⟨v', w', hr, h2, h3, _⟩ := run_append_own (P := Try.prog) w B T o.type (Lay.ty α) i0 z (Lay.k α) bytes hU hi0 hz0 hz1 hz2 hzs hk0 v ns.length (cellsL ns) hown.row ⟨q, 0, none⟩ 1 1 (Lay.cs t) (by rw [Lay.len, Nat.one_mul]) (one_news hnews) (Lay.one t) hm hl hB
  have h2' : OwnS w' B v' (ns ++ [t]) := OwnS.of_row (by rw [List.length_append, cellsL_snoc]; exact h2)
  obtain ⟨a', c', rfl, _⟩ := h2'.slice
  rw [List.length_append, List.length_singleton] at h2' hr
  unfold Oper.wp execOp
  simp only [ho, resolve, invoke, builtin, Sem.run_bind, Sem.run_pure, Result.andThen_ok, List.map_toArray, List.map_cons, List.map_nil, hs, hx, hr]
  exact hK _ _ (h a' c' w' h2' h3)

/- append(nil, l...) at transactions -/
theorem zrun_copyT (W : World) (ty : TypeId) (v : Value) (xs : List WTxn) (hv : SeqV W v xs) (hl : xs.length * 72 ≤ 140737488355328) :
    ∃ v' w', (Builtin.append_ #[27, 27] ty #[.slice none 0 0, v]).run Try.prog W = .ok v' w' ∧ OwnS w' W.heap.size v' xs ∧ W.grownBy w' none := by
  obtain ⟨i0, hi0, hz0, hz1, hz2⟩ := info_txn
  have main : ∀ (a : Addr) (cap : Nat), v = .slice (some a) xs.length cap → (∀ j u, (cellsL xs)[j]? = some u → W.cell? (a.add j) = some u) →
      ∃ v' w', (Builtin.append_ #[27, 27] ty #[.slice none 0 0, v]).run Try.prog W = .ok v' w' ∧ OwnS w' W.heap.size v' xs ∧ W.grownBy w' none := by
    intro a cap e hc
    subst e
    obtain ⟨v', w', h1, h2, h3, _⟩ := run_append_own (P := Try.prog) W W.heap.size 27 ty 47 i0 _ 7 72 Try.underlying27 hi0 hz0 hz1 hz2 rfl (by decide) (.slice none 0 0) 0 [] (World.ownsRow_nil _ _ _ _) a xs.length cap (cellsL xs) (cellsL_length xs) hc (cellsL_one xs)
      (by simp only [maxLen]; omega) (by omega) (Nat.le_refl _)
    refine ⟨v', w', h1, OwnS.of_row (by first | exact h2 | (simp only [List.nil_append, Nat.zero_add] at h2; exact h2) | simpa using h2), h3⟩
  rcases hv with ⟨a, cap, rfl, rfl, _⟩ | ⟨b, off, cap, rfl, _, _, _, _, hr⟩
  · cases a with
    | none =>
      refine ⟨.slice none 0 0, W, ?_, .inl ⟨rfl, rfl⟩, ⟨rfl, rfl, rfl, Nat.le_refl _, fun _ _ _ => rfl⟩⟩
      simp [Builtin.append_, run_underlying Try.underlying27, sizeOf, typeInfo, hi0, Builtin.lenOf, Builtin.firstCells]
    | some a => exact main a cap rfl (fun j u h => by simp [cellsL] at h)
  · exact main ⟨b, off, none⟩ cap rfl (fun j u h => by rw [Addr.add_lit]; exact hr j u h)
theorem zwpList_copyT {w : World} {ops : Array Oper} {rest : List Oper} {o : Oper} {a : Act} {Q : Exit → Act → World → Prop} (hgd : o.guard = none) (s x : Operand)
    (ho : o.op = .call { callee := .builtin .append, args := #[s, x], argTypes := #[27, 27] })
    (hs : a.eval s = .slice none 0 0) (v : Value) (hx : a.eval x = v) (xs : List WTxn) (hv : SeqV w v xs) (hl : xs.length * 72 ≤ 140737488355328)
    (h : ∀ a' c' w', OwnS w' w.heap.size (.slice a' xs.length c') xs → w.grownBy w' none → wpList Try.prog ops Q rest (a.put o.dst (.slice a' xs.length c')) w') : wpList Try.prog ops Q (o :: rest) a w := by
  refine wpList_plain hgd fun K hK => ?_
  obtain ⟨v', w', hr, h2, h3⟩ := zrun_copyT w o.type v xs hv hl
  obtain ⟨a', c', rfl, _⟩ := h2.slice
  unfold Oper.wp execOp
  simp only [ho, resolve, invoke, builtin, Sem.run_bind, Sem.run_pure, Result.andThen_ok, List.map_toArray, List.map_cons, List.map_nil, hs, hx, hr]
  exact hK _ _ (h a' c' w' h2 h3)

/-- rows of elements of two kinds are two blocks -/
theorem OwnS.apart {α β : Type} [Lay α] [Lay β] {W : World} {B C : Nat} {u v : Value} {xs : List α} {ys : List β} (h : OwnS W B u xs) (k : OwnS W C v ys) (hne : Lay.ty α ≠ Lay.ty β) : ∀ q, u.ownBlock = some q → some q ≠ v.ownBlock := by
  intro q hq e
  rcases h with ⟨rfl, rfl⟩ | ⟨g, cap, rfl, _, rest, h1, _⟩
  · simp [Value.ownBlock] at hq
  · rcases k with ⟨rfl, rfl⟩ | ⟨g', cap', rfl, _, rest', h1', _⟩
    · simp [Value.ownBlock] at e
    · simp only [Value.ownBlock, Option.some.injEq] at hq e
      subst hq e
      rw [h1] at h1'
      simp at h1'
      exact hne h1'.2
theorem grown_none {w w' : World} (h : w.grownBy w' none) : Below w.heap.size w w' := ⟨h.os, h.tape, h.output, h.size, fun k hk => h.block k hk (by simp)⟩
/-- the logs of these peers lie in rows of the call's own -/
def POwn (W : World) (B : Nat) (ps : List Pe) : Prop := ∀ p ∈ ps, OwnS W B p.log p.ts
theorem POwn.next {W V : World} {B : Nat} {ps : List Pe} (h : POwn W B ps) (hb : Below W.heap.size W V) : POwn V B ps := fun p hp => (h p hp).next hb
theorem POwn.logs {W : World} {B : Nat} {ps : List Pe} (h : POwn W B ps) : PLogs W ps := fun p hp => seq_log.1 (h p hp).seq
theorem POwn.grown {W V : World} {B C : Nat} {ps qs : List Pe} {v : Value} (h : POwn W B ps) (k : OwnS W C v qs) (hg : W.grownBy V v.ownBlock) : POwn V B ps := fun p hp => (h p hp).grown hg ((h p hp).apart k (by decide))
def GOwn (W : World) (B : Nat) (ls : List Lg) : Prop := ∀ l ∈ ls, OwnS W B (lgV l) l.ts
theorem GOwn.next {W V : World} {B : Nat} {ls : List Lg} (h : GOwn W B ls) (hb : Below W.heap.size W V) : GOwn V B ls := fun p hp => (h p hp).next hb
theorem GOwn.logs {W : World} {B : Nat} {ls : List Lg} (h : GOwn W B ls) : GLogs W ls := fun p hp => seq_log.1 (h p hp).seq
theorem GOwn.grown {W V : World} {B C : Nat} {ls qs : List Lg} {v : Value} (h : GOwn W B ls) (k : OwnS W C v qs) (hg : W.grownBy V v.ownBlock) : GOwn V B ls := fun p hp => (h p hp).grown hg ((h p hp).apart k (by decide))
end Go.Proofs.Ytijpnmponjjejaa
