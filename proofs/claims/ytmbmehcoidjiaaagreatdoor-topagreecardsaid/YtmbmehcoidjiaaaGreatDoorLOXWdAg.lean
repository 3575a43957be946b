/-
  Part.
-/
import Derived.Test.YtmbmehcoidjiaaaGreatDoorLOAB
set_option maxRecDepth 20000
set_option maxHeartbeats 8000000
namespace Go.Proofs.YtmbmehcoidjiaaaGreatDoor
open Go.RowKit
variable{p q:Pw}
structure Agr(p:Pw):Prop where
 two:∀i k,i<3→k<3→(p.s i).up=true→(p.s k).up=true→∀n,n≤(p.s i).dn→n≤(p.s k).dn→(p.s i).m.take n=(p.s k).m.take n
 led:∀b,b<3→p.r b=2→∀k,k<3→(p.s k).up=true→(p.s k).dn≤(p.s b).m.length
theorem CN2(L:List AQ)(h:∀k,k<3→(p.s k).up=true→∀n,n≤(p.s k).dn→(p.s k).m.take n=L.take n)(hl:∀b,b<3→p.r b=2→∀k,k<3→(p.s k).up=true→(p.s k).dn≤(p.s b).m.length):Agr p:=
 ⟨fun i k hi hk ui uk n h1 h2=>(h i hi ui n h1).trans (h k hk uk n h2).symm,hl⟩
theorem CM0(h:Agr p)(hs:∀k,k<3→(q.s k).up=(p.s k).up∧(q.s k).dn=(p.s k).dn∧(q.s k).m=(p.s k).m)(hr:q.r=p.r):Agr q:=by
 refine⟨fun i k hi hk ui uk n h1 h2=>?_,fun b hb hr' k hk uk=>?_⟩
 ·rw[(hs i hi).2.2,(hs k hk).2.2];exact h.two i k hi hk ((hs i hi).1 ▸ ui) ((hs k hk).1 ▸ uk) n ((hs i hi).2.1 ▸ h1) ((hs k hk).2.1 ▸ h2)
 ·rw[(hs b hb).2.2,(hs k hk).2.1];exact h.led b hb (hr ▸ hr') k hk ((hs k hk).1 ▸ uk)
theorem CM5(h:Agr p)(i ke:Nat):Agr ⟨p.n,GY p.s i (JQ (p.s i) ke),if p.r i=2 then fun _=>0 else GY p.r i 0,p.c,p.D,p.H,p.h⟩:=by
 have up:∀k,(GY p.s i (JQ (p.s i) ke) k).up=true→k≠i:=fun k hu e=>by
  subst e;rw[BO]at hu
  cases hu
 refine⟨fun j k hj hk uj uk n h1 h2=>?_,fun b hb hr k hk uk=>?_⟩
 ·have e1:=up j uj;have e2:=up k uk;simp only[AP _ _ e1,AP _ _ e2]at*;exact h.two j k hj hk uj uk n h1 h2
 ·have e2:=up k uk;simp only[AP _ _ e2]at uk⊢;by_cases hi:p.r i=2
  ·simp only[if_pos hi]at hr;omega
  ·simp only[if_neg hi]at hr;have e1:b≠i:=fun e=>by rw[e,BO]at hr;omega
   rw[AP _ _ e1]at hr⊢;exact h.led b hb hr k hk uk
theorem CN6(hw:MX p)(h:Agr p)(i:Nat)(hu:(p.s i).up=false):Agr ⟨p.n,GY p.s i (upP (p.s i)),p.r,p.c,p.D,p.H,p.h⟩:=by
 have dn:(GY p.s i (upP (p.s i)) i).dn=0:=by rw[BO];rfl
 refine⟨fun j k hj hk uj uk n h1 h2=>?_,fun b hb hr k hk uk=>?_⟩
 ·by_cases e1:j=i
  ·subst e1;have:n=0:=by simp only at h1;omega
   subst this;simp
  ·by_cases e2:k=i
   ·subst e2;have:n=0:=by simp only at h2;omega
    subst this;simp
   ·simp only[AP _ _ e1,AP _ _ e2]at*;exact h.two j k hj hk uj uk n h1 h2
 ·have e1:b≠i:=fun e=>by
   have:=hw.rup b hb (by simp only at hr;omega);rw[e,hu]at this
   cases this
  simp only[AP _ _ e1];by_cases e2:k=i
  ·subst e2;simp only[dn];exact Nat.zero_le _
  ·simp only[AP _ _ e2]at uk⊢;exact h.led b hb hr k hk uk
theorem CM6(h2:2≤(F5 p.s).length)(n:Int)(c:Nat→Cl)(D H:List AQ)(g:Nat):Agr ⟨n,(GZ (eS p.s) (F5 p.s)).1,eR p.s,c,D,H,g⟩:=by
 have at_:∀k,k<3→((GZ (eS p.s) (F5 p.s)).1 k).up=true→((GZ (eS p.s) (F5 p.s)).1 k).m=(p.s (eB p.s)).m∧((GZ (eS p.s) (F5 p.s)).1 k).dn=(p.s (eB p.s)).m.length:=fun k hk hu=>by
  rw[fO _ _ _ (QH _)]at hu⊢;by_cases e:(p.s k).up=true
  ·have hm:k∈F5 p.s:=FH.2 ⟨hk,e⟩;simp only[if_pos hm,aA,eS,if_pos (And.intro e hk),rW,and_self]
  ·have hm:k∉F5 p.s:=fun h=>e (FH.1 h).2;rw[if_neg hm,eS,if_neg (fun h=>e h.1)]at hu;exact absurd hu e
 have eb:=FH.1 (A50 h2);refine CN2 (p.s (eB p.s)).m (fun k hk hu n hn=>?_) (fun b hb hr k hk uk=>?_)
 ·rw[(at_ k hk hu).1]
 ·have e:b=eB p.s:=by
   simp only[eR]at hr;by_cases e:b=eB p.s
   ·exact e
   ·rw[if_neg e]at hr
    split at hr<;>omega
  subst e;have ub:((GZ (eS p.s) (F5 p.s)).1 (eB p.s)).up=true:=by
   rw[fO _ _ _ (QH _),if_pos (FH.2 eb)];simp only[aA,eS,if_pos (And.intro eb.2 eb.1),rW]
  show ((GZ (eS p.s) (F5 p.s)).1 k).dn≤((GZ (eS p.s) (F5 p.s)).1 (eB p.s)).m.length;rw[(at_ k hk uk).2,(at_ _ eb.1 ub).1];exact Nat.le_refl _
theorem CL5{d:Dd}{k:Nat}:(wSv p d k).up=(p.s k).up∧(wSv p d k).dn=(p.s k).dn∧∀n,n≤(p.s k).m.length→(wSv p d k).m.take n=(p.s k).m.take n:=by
 unfold wSv
 split
 ·exact⟨rfl,rfl,fun n hn=>by simp only[OO];rw[List.take_append_of_le_length hn]⟩
 ·exact⟨rfl,rfl,fun _ _=>rfl⟩
theorem CM7(d:Dd)(hw:MX p)(hn:p.n<300)(h:Agr p):Agr (MP (J4 p) d).2:=by
 have hdn:∀k,k<3→(p.s k).dn≤(p.s k).m.length:=fun k hk=>(hw.s k hk).dn;unfold MP;by_cases hl:ldP (J4 p).r=-1
 ·rw[if_pos hl];exact⟨h.two,h.led⟩
 rw[if_neg hl];by_cases he:wE (J4 p) d≠0
 ·rw[if_pos he];exact⟨h.two,h.led⟩
 rw[if_neg he];by_cases hq:(wL (J4 p) d).length<2
 ·rw[if_pos hq];refine⟨fun i k hi hk ui uk n h1 h2=>?_,fun b hb hr=>by simp only at hr;omega⟩;have wi:=CL5 (p:=J4 p) (d:=d) (k:=i);have wk:=CL5 (p:=J4 p) (d:=d) (k:=k);simp only at ui uk h1 h2⊢;rw[wi.1]at ui;rw[wk.1]at uk;rw[wi.2.1]at h1;rw[wk.2.1]at h2;rw[wi.2.2 n (Nat.le_trans h1 (hdn i hi)),wk.2.2 n (Nat.le_trans h2 (hdn k hk))];exact h.two i k hi hk ui uk n h1 h2
 ·rw[if_neg hq];rcases U4 p.r with⟨e,_⟩|⟨b,hb,_,hr⟩
  ·exact absurd e hl
  have w:Wr p d b:=⟨hb,hr,hn,by have:wE (J4 p) d=wE p d:=rfl;omega⟩;have ub:=hw.rup b hb (by omega);have db:=hw.all b hb hr;show Agr ⟨p.n+1,(GZ (wSv p d) (wL p d)).1,wRo p d,wCl (J4 p) d (GZ (wSv p d) (wL p d)).2,p.D++[wX p d],p.H++[wX p d],p.h⟩;have at1:∀k,k<3→wS p d k=true→((GZ (wSv p d) (wL p d)).1 k).m=(p.s b).m++[wX p d]∧((GZ (wSv p d) (wL p d)).1 k).dn=(p.s b).m.length+1:=fun k hk hs=>by
   have e:=(w.same hw hk (CB0 (CJ7 hs))).1;have ht:=CJ7 hs;rw[AY3,if_pos ⟨hk,hs⟩];simp only[aA,wSv,if_pos ht,OO,e,List.length_append,List.length_cons,List.length_nil,and_self]
  have at0:∀k,k<3→wS p d k≠true→(GZ (wSv p d) (wL p d)).1 k=wSv p d k:=fun k hk hs=>by rw[AY3,if_neg (fun h=>hs h.2)]
  have sb:=(WJ (p:=p) (d:=d) hr).2;refine CN2 ((p.s b).m++[wX p d]) (fun k hk hu n hn'=>?_) (fun b' hb' hr' k hk uk=>?_)
  ·by_cases hs:wS p d k=true
   ·rw[(at1 k hk hs).1]
   ·simp only[at0 k hk hs]at hu hn'⊢;rw[CL5.1]at hu;rw[CL5.2.1]at hn';have hle:=h.led b hb hr k hk hu;rw[CL5.2.2 n (Nat.le_trans hn' (hdn k hk)),List.take_append_of_le_length (Nat.le_trans hn' hle)];exact h.two k b hk hb hu ub n hn' (by omega)
  ·have e:=hw.one b' b hb' hb (fP.1 hr') hr;subst e;simp only[(at1 b' hb sb).1,List.length_append,List.length_cons,List.length_nil];by_cases hs:wS p d k=true
   ·rw[(at1 k hk hs).2];exact Nat.le_refl _
   ·simp only[at0 k hk hs]at uk⊢;rw[CL5.1]at uk;rw[CL5.2.1];exact Nat.le_succ_of_le (h.led b' hb hr k hk uk)
theorem CN3(d:Dd)(hw:MX p)(h:Agr p):Agr (doP p d).2:=by
 unfold doP;by_cases hn:300≤p.n
 ·rw[if_pos hn];exact h
 rw[if_neg hn];by_cases ha:QK d≠0
 ·rw[if_pos ha];exact⟨h.two,h.led⟩
 rw[if_neg ha];have hc:Agr (J4 p):=⟨h.two,h.led⟩;unfold gQ;by_cases h1:d.k=1
 ·rw[if_pos h1];exact CM7 d hw (by omega) h
 rw[if_neg h1];by_cases h2:d.k=2
 ·rw[if_pos h2];unfold fG
  repeat' split
  all_goals first
   |exact hc
   |exact CM0 h (fun k _=>⟨rfl,rfl,rfl⟩) rfl
   |(refine CM0 h (fun k _=>?_) rfl
     simp only[GY,J4]
     split
     ·rename_i e
      subst e;exact⟨rfl,rfl,rfl⟩
     ·exact⟨rfl,rfl,rfl⟩)
 rw[if_neg h2];by_cases h3:d.k=3
 ·rw[if_pos h3];unfold QE;by_cases hu:((J4 p).s d.s.toNat).up=false
  ·rw[if_pos hu];exact hc
  rw[if_neg hu];by_cases hk:d.ke<0
  ·rw[if_pos hk];exact hc
  rw[if_neg hk];exact CM5 hc _ _
 rw[if_neg h3];by_cases h4:d.k=4
 ·rw[if_pos h4];unfold upW;by_cases hu:((J4 p).s d.s.toNat).up=true
  ·rw[if_pos hu];exact hc
  ·rw[if_neg hu];exact CN6 (LX hw (by omega)) hc _ (by simpa using hu)
 rw[if_neg h4];unfold P6;by_cases hq:(F5 (J4 p).s).length<2
 ·rw[if_pos hq];exact hc
 rw[if_neg hq];by_cases hb:AF3 (J4 p).s=true
 ·rw[if_pos hb];exact hc
 rw[if_neg hb];exact CM6 (p:=J4 p) (Nat.le_of_not_lt hq) _ _ _ _ _
theorem CM8(k:Nat):Agr (pw0 k):=⟨fun _ _ _ _ _ _ _ _ _=>rfl,fun _ _ hr=>by simp[pw0]at hr⟩
theorem CM1:∀ (l:List Dd) (p:Pw),MX p→Agr p→Agr (LW p l)
 |[],_,_,h=>h
 |d::l,_,hw,h=>CM1 l _ (WL d hw) (CN3 d hw h)
def dnN(q:Ps):Nat:=if q.up=true then q.dn else 0
theorem CL9(h:Agr q){i k:Nat}(hi:i<3)(hk:k<3):(svP i (q.s i)).ts.take (min (dnN (q.s i)) (dnN (q.s k)))=(svP k (q.s k)).ts.take (min (dnN (q.s i)) (dnN (q.s k))):=by
 by_cases ui:(q.s i).up=true
 ·by_cases uk:(q.s k).up=true
  ·rw[DJ ui,DJ uk];simp only[dnN,if_pos ui,if_pos uk];exact h.two i k hi hk ui uk _ (Nat.min_le_left _ _) (Nat.min_le_right _ _)
  ·simp[dnN,uk]
 ·simp[dnN,ui]
theorem CN5(hw:MX q){i:Nat}(hi:i<3):(svP i (q.s i)).dn=(dnN (q.s i):Nat)∧dnN (q.s i)≤(svP i (q.s i)).ts.length∧(svP i (q.s i)).ts.length≤300:=by
 have ok:=hw.s i hi;have hn:=hw.n1;have hl:=ok.len;by_cases ui:(q.s i).up=true
 ·rw[DJ ui];rw[dnN,if_pos ui];exact⟨rfl,ok.dn,by show (q.s i).m.length≤300;omega⟩
 ·rw[OZ (by simpa using ui)];rw[dnN,if_neg ui];exact⟨rfl,Nat.zero_le _,Nat.zero_le _⟩
end Go.Proofs.YtmbmehcoidjiaaaGreatDoor
