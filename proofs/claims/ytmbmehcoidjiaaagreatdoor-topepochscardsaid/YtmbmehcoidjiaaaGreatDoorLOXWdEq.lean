/-
  Part.
-/
import Derived.Test.YtmbmehcoidjiaaaGreatDoorLOAB
set_option maxRecDepth 20000
set_option maxHeartbeats 8000000
namespace Go.Proofs.YtmbmehcoidjiaaaGreatDoor
open Go.RowKit
theorem CE9{p:Pw}(h:MX p)(h2:2≤(F5 p.s).length)(k:Nat)(hk:k<3):(p.s k).e<eN p.s:=by
 by_cases hu:(p.s k).up=true
 ·exact BY3 (FH.2 ⟨hk,hu⟩)
 ·obtain⟨i,j,hi,hj,hij,h3,h4⟩:=h.a.BQ1 k hk;simp only[awP,if_pos hk,if_pos hi,if_pos hj]at h3 h4;have:∃c,c∈F5 p.s∧(p.s k).e≤(p.s c).e:=by
   by_cases ui:(p.s i).up=true
   ·exact⟨i,FH.2 ⟨hi,ui⟩,h3⟩
   ·refine⟨j,FH.2 ⟨hj,?_⟩,h4⟩;by_cases uj:(p.s j).up=true
    ·exact uj
    ·exfalso;obtain⟨c,hc,hcn,uc⟩:=AX9 h2 i;obtain⟨c2,hc2,hcn2,uc2⟩:=AX9 h2 c;have e1:c≠i:=fun e=>by rw[e]at uc;exact ui uc
     have e2:c≠j:=fun e=>by rw[e]at uc;exact uj uc
     have e3:c2≠i:=fun e=>by rw[e]at uc2;exact ui uc2
     have e4:c2≠j:=fun e=>by rw[e]at uc2;exact uj uc2
     omega
  obtain⟨c,hc,hle⟩:=this;exact Int.lt_of_le_of_lt hle (BY3 hc)
theorem BK5{p:Pw}(d:Dd)(h:MX p):(∀k,k<3→(p.s k).e≤((doP p d).2.s k).e)∧(d.k=5→(doP p d).1.E=0→∃b,b<3∧(doP p d).2.r b=2∧∀k,k<3→(p.s k).e<((doP p d).2.s b).e):=by
 have hw:=WL d h;unfold doP at hw⊢;by_cases hn:300≤p.n
 ·rw[if_pos hn];exact⟨fun k _=>Int.le_refl _,fun _ hE=>by cases hE⟩
 rw[if_neg hn]at hw⊢;by_cases ha:QK d≠0
 ·rw[if_pos ha];exact⟨fun k _=>Int.le_refl _,fun _ hE=>absurd hE ha⟩
 rw[if_neg ha]at hw⊢;have wse:∀k,(wSv (J4 p) d k).e=(p.s k).e:=fun k=>by
  unfold wSv
  split<;>rfl
 have come:∀ (s:Nat→Ps) (l:List Nat) (k:Nat),((GZ s l).1 k).e=(s k).e:=by
  intro s l
  induction l generalizing s with
  |nil=>intro k;rfl
  |cons i l ih=>
   intro k;show ((GZ (GY s i (aA i (s i))) l).1 k).e=_;rw[ih];by_cases e:k=i
   ·subst e;rw[BO];rfl
   ·rw[AP _ _ e]
 unfold gQ;by_cases h1:d.k=1
 ·rw[if_pos h1];refine⟨fun k _=>?_,fun h5=>by omega⟩;unfold MP
  repeat' split
  all_goals first|exact Int.le_refl _|exact Int.le_of_eq (wse k).symm|exact Int.le_of_eq (by rw[show ((GZ (wSv (J4 p) d) (wL (J4 p) d)).1 k).e=(p.s k).e from(come _ _ k).trans (wse k)])
 rw[if_neg h1];by_cases h5:¬ (d.k=2∨d.k=3∨d.k=4)
 ·rw[if_neg (by omega),if_neg (by omega),if_neg (by omega)];unfold P6;by_cases h2:(F5 (J4 p).s).length<2
  ·rw[if_pos h2];exact⟨fun k _=>Int.le_refl _,fun _ hE=>by cases hE⟩
  rw[if_neg h2];by_cases hb:AF3 (J4 p).s=true
  ·rw[if_pos hb];exact⟨fun k _=>Int.le_refl _,fun _ hE=>by cases hE⟩
  rw[if_neg hb];have h2':2≤(F5 p.s).length:=Nat.le_of_not_lt h2;have es:∀k,k<3→(p.s k).up=true→(eS p.s k).e=eN p.s:=fun k hk hu=>by rw[eS,if_pos ⟨hu,hk⟩];rfl
  have eb:=FH.1 (A50 h2');refine⟨fun k hk=>?_,fun _ _=>⟨eB p.s,eb.1,?_,fun k hk=>?_⟩⟩
  ·show (p.s k).e≤((GZ (eS p.s) (F5 p.s)).1 k).e;rw[come];by_cases hu:(p.s k).up=true
   ·rw[es k hk hu];exact Int.le_of_lt (CE9 h h2' k hk)
   ·rw[eS,if_neg (fun h=>hu h.1)];exact Int.le_refl _
  ·show eR p.s (eB p.s)=2;rw[eR,if_pos rfl]
  ·show (p.s k).e<((GZ (eS p.s) (F5 p.s)).1 (eB p.s)).e;rw[come,es _ eb.1 eb.2];exact CE9 h h2' k hk
 ·refine⟨fun k _=>?_,fun h=>by omega⟩;unfold fG QE upW
  repeat' split
  any_goals (exfalso;omega)
  all_goals first
   |exact Int.le_refl _
   |(simp only[GY,J4]
     split
     ·rename_i e
      subst e;exact Int.le_refl _
     ·exact Int.le_refl _)
end Go.Proofs.YtmbmehcoidjiaaaGreatDoor
