/-
  Part.
-/
import Derived.Test.YtodnhndkghdinaaGreatDoorLOXWdOp
import Derived.Test.YtodnhndkghdinaaGreatDoorLOXZbJ
set_option maxRecDepth 20000
set_option maxHeartbeats 8000000
namespace Go.Proofs.YtodnhndkghdinaaGreatDoor
open Go.RowKit
variable{x:AQ}
def inB(l:List AQ)(x:AQ):Bool:=l.any fun y=>eqX y x
theorem CM1{l:List AQ}:inB l x=true↔x∈l:=by
 rw[inB,List.any_eq_true];exact⟨fun⟨y,hy,e⟩=>by rw[←CL6.1 e];exact hy,fun h=>⟨x,h,CL6.2 rfl⟩⟩
theorem CM2{l:List AQ}:[x].Sublist l↔inB l x=true:=by rw[CM1];exact List.singleton_sublist
def sfB(q:Pw)(x:AQ)(i:Nat):Bool:=(q.s i).up&&(inB (JO (q.s i) 0).m x&&inB ((q.s i).m.take (q.s i).dn) x)
def CM0(q:Pw)(x:AQ)(n:Nat):Nat:=((List.range n).filter (sfB q x)).length
theorem CL3(q:Pw)(x:AQ)(n:Nat):CM0 q x (n+1)=CM0 q x n+if sfB q x n=true then 1 else 0:=by
 rw[CM0,List.range_succ,List.filter_append,List.length_append]
 congr 1
 by_cases h:sfB q x n=true
 ·simp[h]
 ·simp[h]
theorem CM5{q:Pw}{i j:Nat}(hi:i<3)(hj:j<3)(hij:i≠j)(h1:sfB q x i=true)(h2:sfB q x j=true):2≤CM0 q x 3:=by
 rw[CL3,CL3,CL3,show CM0 q x 0=0 from rfl];rcases(show i=0∨i=1∨i=2 by omega)with rfl|rfl|rfl<;>rcases(show j=0∨j=1∨j=2 by omega)with rfl|rfl|rfl<;>first|exact absurd rfl hij|(simp only[h1,h2,if_true];omega)
theorem CL7{p:Pw}{d:Dd}(h:NU p)(hk:d.k=1)(hE:(doP p d).1.E=0):∃l x,(doP p d).2.D=l++[x]∧2≤CM0 (doP p d).2 x 3:=by
 unfold doP at hE⊢;by_cases hn:300≤p.n
 ·rw[if_pos hn]at hE;cases hE
 rw[if_neg hn]at hE⊢;by_cases ha:RQ d≠0
 ·rw[if_pos ha]at hE;exact absurd hE ha
 rw[if_neg ha]at hE⊢;unfold jS at hE⊢;rw[if_pos hk]at hE⊢;unfold OH at hE⊢;by_cases hl:ldP (JU p).r=-1
 ·rw[if_pos hl]at hE;cases hE
 rw[if_neg hl]at hE⊢;by_cases he:wE (JU p) d≠0
 ·rw[if_pos he]at hE;exact absurd hE he
 rw[if_neg he]at hE⊢;by_cases hq:(wL (JU p) d).length<2
 ·rw[if_pos hq]at hE;cases hE
 rw[if_neg hq];refine⟨_,_,rfl,?_⟩;rcases fH p.r with⟨e,_⟩|⟨b,hb,_,hr⟩
 ·exact absurd e hl
 have w:Wr p d b:=⟨hb,hr,by omega,by have:wE (JU p) d=wE p d:=rfl;omega⟩;have key:∀k,k<3→wS p d k=true→sfB ⟨p.n+1,(IK (wSv p d) (wL p d)).1,wRo p d,wCl (JU p) d (IK (wSv p d) (wL p d)).2,p.D++[wX p d],p.H++[wX p d],p.h⟩ (wX p d) k=true:=fun k hk' hs=>by
  have ht:=CJ3 hs;have hu:=w.up h hk' ht;have e:(IK (wSv p d) (wL p d)).1 k=aQ k (wSv p d k):=by rw[AX8,if_pos ⟨hk',hs⟩]
  have e2:wSv p d k=OQ (wX p d) true (p.s k):=by rw[wSv,if_pos ht,hs]
  simp only[sfB,e,Bool.and_eq_true,CM1];refine⟨hu,?_,?_⟩
  ·simp only[JO,aQ,e2,OQ,if_true];rw[List.take_of_length_le (by simp only[List.length_append,List.length_cons,List.length_nil];omega)];simp
  ·simp only[aQ,e2,OQ];rw[List.take_length];simp
 obtain⟨c,hc,hcb,hsc⟩:=BF9 (p:=p) (d:=d) hq b;exact CM5 hb hc (Ne.symm hcb) (key b hb (WE hr).2) (key c hc hsc)
end Go.Proofs.YtodnhndkghdinaaGreatDoor
