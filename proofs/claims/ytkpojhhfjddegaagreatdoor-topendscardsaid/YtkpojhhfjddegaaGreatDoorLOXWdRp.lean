/-
  Part.
-/
import Derived.Test.YtkpojhhfjddegaaGreatDoorLOAL
set_option maxRecDepth 20000
set_option maxHeartbeats 8000000
namespace Go.Proofs.YtkpojhhfjddegaaGreatDoor
open Go.RowKit
theorem CH6(p:Pw)(d:Dd)(h:PO d.k (dX p d).1.E=false):(dX p d).1=OJ (dX p d).1.E:=by
 unfold dX at h⊢;by_cases h1:d.k=1
 .rw[if_pos h1]at h⊢;unfold P9 at h⊢
  (repeat' split)<;>simp_all[PO,OJ]
 .rw[if_neg h1]at h⊢;by_cases h2:d.k=2
  .rw[if_pos h2]at h⊢;unfold dI at h⊢
   (repeat' split)<;>simp_all[PO,yP,OJ]
   all_goals (split at h<;>simp_all)
  .rw[if_neg h2]at h⊢;by_cases h3:d.k=3
   .rw[if_pos h3]at h⊢;unfold SC at h⊢
    (repeat' split)<;>simp_all[PO,OJ]
   .rw[if_neg h3]at h⊢;by_cases h4:d.k=4
    .rw[if_pos h4]at h⊢;unfold upW at h⊢
     (repeat' split)<;>simp_all[PO,OJ]
    .rw[if_neg h4]at h⊢;unfold RN at h⊢
     (repeat' split)<;>simp_all[PO,OJ]
structure RefI(p q:Pw)(r:Rp):Prop where
 s:q.s=p.s
 l:q.r=p.r
 c:q.c=p.c
 D:q.D=p.D
 rp:r=OJ r.E
theorem BG1(p:Pw)(d:Dd)(h:PO d.k (doP p d).1.E=false):RefI p (doP p d).2 (doP p d).1:=by
 unfold doP at h⊢;by_cases hn:300<=p.n
 .rw[if_pos hn];exact⟨rfl,rfl,rfl,rfl,rfl⟩
 rw[if_neg hn]at h⊢;by_cases ha:TI d≠0
 .rw[if_pos ha];exact⟨rfl,rfl,rfl,rfl,rfl⟩
 rw[if_neg ha]at h⊢;have h1:=AJ0 (LQ p) d h;refine⟨?_,?_,?_,?_,CH6 (LQ p) d h⟩
 all_goals rw[h1];rfl
theorem do_n(p:Pw)(d:Dd)(hn:p.n<300):(doP p d).2.n=p.n+1:=by
 unfold doP;rw[if_neg (by omega)]
 split
 .rfl
 .unfold dX P9 dI SC upW RN
  repeat' split
  all_goals rfl
theorem BG2:∀ (l:List Dd) (p:Pw),p.n+l.length<=300->(ND p l).n=p.n+l.length
 |[],p,_=>by simp[ND]
 |d::l,p,h=>by
  rw[List.length_cons]at h⊢;have h1:=do_n p d (by omega);have:=BG2 l (doP p d).2 (by omega);show (ND (doP p d).2 l).n=_;rw[this,h1];omega
def dZ:Dd:=⟨0,0,0,⟨0,0,[],[],0,0⟩,0,0,0,false⟩
theorem D15(p:Pw)(hn:p.n<300):doP p dZ=(OJ 4,LQ p):=by
 unfold doP;rw[if_neg (by omega),if_pos (show TI dZ≠0 by decide),show TI dZ=4 by decide]
theorem BG3(p:Pw)(d:Dd)(hn:300<=p.n):doP p d=(OJ 6,p):=by
 unfold doP;rw[if_pos hn]
