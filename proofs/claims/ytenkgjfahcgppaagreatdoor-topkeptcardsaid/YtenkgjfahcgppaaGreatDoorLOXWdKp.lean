/-
  Part.
-/
import Derived.Test.YtenkgjfahcgppaaGreatDoorLOAA
set_option maxRecDepth 20000
set_option maxHeartbeats 8000000
namespace Go.Proofs.YtenkgjfahcgppaaGreatDoor
open Go.RowKit
variable{p:Pw}
def dCr(i:Nat)(ke:Int):Dd:=⟨3,0,i,⟨0,0,[],[],0,0⟩,0,0,ke,false⟩
def iW(i:Nat):Dd:=⟨4,0,i,⟨0,0,[],[],0,0⟩,0,0,0,false⟩
def WV:Dd:=⟨5,0,0,⟨0,0,[],[],0,0⟩,0,0,0,false⟩
theorem B51{i:Nat}{ke:Int}(hn:p.n<300)(hi:i<3)(hu:(p.s i).up=true)(hk:0<=ke):doP p (dCr i ke)=(LM 0,⟨p.n+1,GX p.s i (JJ (p.s i) ke.toNat),if p.r i=2 then fun _=>0 else GX p.r i 0,p.c,p.D,p.H,p.h⟩):=by
 have ha:NU (dCr i ke)=0:=by
  have:ZI (i:Int) 3=true:=by simp[ZI];omega
  simp[NU,dCr,this]
 unfold doP;rw[if_neg (by omega),if_neg (by omega),ZJ,if_neg (show ¬ (dCr i ke).k=1 by simp[dCr]),if_neg (show ¬ (dCr i ke).k=2 by simp[dCr]),if_pos (show (dCr i ke).k=3 from rfl)];show LP (GY p) (i:Int).toNat ke=_;rw[Int.toNat_natCast,LP,if_neg (show ¬ ((GY p).s i).up=false by rw[show (GY p).s=p.s from rfl,hu];simp),if_neg (show ¬ke<0 by omega)];rfl
theorem CJ7{i:Nat}(hn:p.n<300)(hi:i<3)(hu:(p.s i).up=false):doP p (iW i)=(LM 0,⟨p.n+1,GX p.s i (upP (p.s i)),p.r,p.c,p.D,p.H,p.h⟩):=by
 have ha:NU (iW i)=0:=by
  have:ZI (i:Int) 3=true:=by simp[ZI];omega
  simp[NU,iW,this]
 unfold doP;rw[if_neg (by omega),if_neg (by omega),ZJ,if_neg (show ¬ (iW i).k=1 by simp[iW]),if_neg (show ¬ (iW i).k=2 by simp[iW]),if_neg (show ¬ (iW i).k=3 by simp[iW]),if_pos (show (iW i).k=4 from rfl)];show upW (GY p) (i:Int).toNat=_;rw[Int.toNat_natCast,upW,if_neg (show ¬ ((GY p).s i).up=true by rw[show (GY p).s=p.s from rfl,hu];simp)];rfl
theorem B52(hn:p.n<300)(h2:2<=(F5 p.s).length)(h0:∀i,i<3->(p.s i).dn=0):doP p WV=(⟨0,DU (p.s (eB p.s)).m,[],[],nd0,(GH (eS p.s) (F5 p.s)).2⟩,⟨p.n+1,(GH (eS p.s) (F5 p.s)).1,eR p.s,U6 p.c (GH (eS p.s) (F5 p.s)).2,p.D,p.H,p.h⟩):=by
 have hb:yS p.s=false:=BR6 fun i hi=>by rw[h0 i (FI.1 hi).1];exact Nat.zero_le _
 unfold doP;rw[if_neg (by omega),if_neg (show ¬NU WV≠0 by simp[NU,WV]),ZJ,if_neg (show ¬WV.k=1 by simp[WV]),if_neg (show ¬WV.k=2 by simp[WV]),if_neg (show ¬WV.k=3 by simp[WV]),if_neg (show ¬WV.k=4 by simp[WV])];rw[N7,if_neg (show ¬ (F5 (GY p).s).length<2 from Nat.not_lt.2 h2),if_neg (show ¬yS (GY p).s=true by rw[show (GY p).s=p.s from rfl,hb];simp)];rfl
theorem B53:∀ (l:List Dd) (p:Pw),(JO p l).n<=p.n+l.length
 |[],p=>by simp[JO]
 |d::l,p=>by
  have h:=B53 l (doP p d).2;have h1:(doP p d).2.n<=p.n+1:=by
   unfold doP
   split
   .show p.n<=p.n+1;omega
   .split
    .exact Int.le_refl _
    .unfold ZJ LH YB LP upW N7
     repeat' split
     all_goals exact Int.le_refl _
  show (JO (doP p d).2 l).n<=p.n+((d::l).length:Nat);rw[List.length_cons];omega
theorem B54(hn:p.n<300)(hu:∀i,i<3->(p.s i).up=true)(h0:∀i,i<3->(p.s i).dn=0):(doP p WV).1.E=0/\(doP p WV).2.D=p.D/\∃b,b<3/\(doP p WV).2.r b=2/\∀k,k<3->((doP p WV).2.s k).up=true/\((doP p WV).2.s k).m=((doP p WV).2.s b).m/\((doP p WV).2.s k).dn=((doP p WV).2.s b).m.length:=by
 have h2:2<=(F5 p.s).length:=by
  rw[show F5 p.s=[0,1,2] by simp[F5,hu 0 (by omega),hu 1 (by omega),hu 2 (by omega)]];decide
 rw[B52 hn h2 h0];have at_:∀k,k<3->(GH (eS p.s) (F5 p.s)).1 k=ZH k (nJ (eN p.s) (p.s (eB p.s)).m (p.s k)):=fun k hk=>by
  rw[ZL _ _ _ (N8 _),if_pos (FI.2 ⟨hk,hu k hk⟩),eS,if_pos ⟨hu k hk,hk⟩]
 have eb:=FI.1 (A70 h2);refine⟨rfl,rfl,eB p.s,eb.1,?_,fun k hk=>?_⟩
 .show eR p.s (eB p.s)=2;rw[eR,if_pos rfl]
 .simp only[at_ k hk,at_ _ eb.1,ZH,nJ];exact⟨trivial,trivial,trivial⟩
