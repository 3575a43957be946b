/-
  Part.
-/
import Derived.Test.YtodnhndkghdinaaGreatDoorLOY
import Derived.Test.YtodnhndkghdinaaGreatDoorLOZ
set_option maxRecDepth 20000
set_option maxHeartbeats 8000000
namespace Go.Proofs.YtodnhndkghdinaaGreatDoor
open Go.RowKit
variable{i j b c k:Nat}{l m:List AQ}{x:AQ}{e N:Int}{T S:Nat→Bool}
structure Ab where
 up:Bool
 m:List AQ
 a:Nat
 e:Int
structure Aw where
 s:Nat→Ab
 ld:Option Nat
 f:Nat→Bool
 D:List AQ
 H:List AQ
def BL1(l:List AQ):Prop:=l.Pairwise fun x y=>x.z<y.z
theorem BL2(hi:i<3)(hj:j<3)(hb:b<3)(hc:c<3)(h1:i≠j)(h2:b≠c):i=b∨i=c∨j=b∨j=c:=by omega
theorem WQ(h:l≠[]):∃y∈l,y.z=DL l:=by
 rcases List.eq_nil_or_concat l with rfl|⟨l',x,rfl⟩
 ·exact absurd rfl h
 ·exact⟨x,by simp,by rw[List.concat_eq_append,PK]⟩
theorem yU(h:BL1 l)(hx:x∈l):x.z≤DL l:=by
 rcases List.eq_nil_or_concat l with rfl|⟨l',y,rfl⟩
 ·simp at hx
 ·rw[List.concat_eq_append]at h hx⊢;rw[PK];rcases List.mem_append.1 hx with hx|hx
  ·exact Int.le_of_lt ((List.pairwise_append.1 h).2.2 x hx y (by simp))
  ·simp at hx;rw[hx];exact Int.le_refl _
theorem B46(h:BL1 l){y:AQ}(hx:x∈l)(hy:y∈l.take j)(hz:x.z≤y.z):x∈l.take j:=by
 rw[←List.take_append_drop j l]at hx h;rcases List.mem_append.1 hx with hx|hx
 ·exact hx
 ·have:=(List.pairwise_append.1 h).2.2 y hy x hx;omega
theorem BP4{k:List AQ}(hl:BL1 l)(hk:BL1 k)(h:∀x∈l,x∈k):l.Sublist k:=by
 induction k generalizing l with
 |nil=>
  cases l with
  |nil=>exact .slnil
  |cons x l=>exact absurd (h x (by simp)) (by simp)
 |cons y k ih=>
  have hk':=(List.pairwise_cons.1 hk)
  cases l with
  |nil=>exact List.nil_sublist _
  |cons x l=>
   have hl':=List.pairwise_cons.1 hl;rcases List.mem_cons.1 (h x (by simp))with rfl|hxk
   ·refine(ih hl'.2 hk'.2 (fun z hz=>?_)).cons_cons x;rcases List.mem_cons.1 (h z (by simp[hz]))with rfl|hz'
    ·have:=hl'.1 z hz;omega
    ·exact hz'
   ·refine(ih hl hk'.2 (fun z hz=>?_)).cons y;rcases List.mem_cons.1 (h z hz)with rfl|hz'
    ·rcases List.mem_cons.1 hz with rfl|hzl
     ·exact hxk
     ·have h1:=hl'.1 z hzl;have h2:=hk'.1 x hxk;omega
    ·exact hz'
structure uH(w:Aw):Prop where
 asc:∀i,i<3→BL1 (w.s i).m
 le:∀i,i<3→(w.s i).a≤(w.s i).m.length
 hist:∀i,i<3→∀x∈(w.s i).m,x∈w.H
 one:∀x∈w.H,∀y∈w.H,x.z=y.z→x=y
 pos:∀x∈w.H,FT x.z=true∧0<x.z
 two:∀x∈w.H,∃i j,i<3∧j<3∧i≠j∧DK x.z≤(w.s i).e∧DK x.z≤(w.s j).e
 C26:∀k,k<3→∃i j,i<3∧j<3∧i≠j∧(w.s k).e≤(w.s i).e∧(w.s k).e≤(w.s j).e
 lead:∀b,w.ld=some b→b<3∧(w.s b).up=true∧w.f b=true∧(∀k,k<3→(w.s k).e≤(w.s b).e)∧(∀x∈w.H,DK x.z=(w.s b).e→x∈(w.s b).m)∧(∀i,i<3→w.f i=true→(w.s i).m=(w.s b).m∧(w.s i).up=true)∧∀x∈w.D,x∈(w.s b).m
 dh:∀x∈w.D,x∈w.H
 C27:BL1 w.D
 all:∀x∈w.D,∀i,i<3→∀y∈(w.s i).m,x.z≤y.z→x∈(w.s i).m
 safe:∀x∈w.D,∃i j,i<3∧j<3∧i≠j∧x∈(w.s i).m.take (w.s i).a∧x∈(w.s j).m.take (w.s j).a
def put(s:Nat→Ab)(i:Nat)(v:Ab):Nat→Ab:=fun k=>if k=i then v else s k
theorem WR(s:Nat→Ab)(i:Nat)(v:Ab):put s i v i=v:=by rw[put,if_pos rfl]
theorem MW(s:Nat→Ab)(v:Ab)(h:k≠i):put s i v k=s k:=by rw[put,if_neg h]
def G7(w:Aw)(i j:Nat):Aw:=⟨put w.s i ⟨false,(w.s i).m.take j,j,(w.s i).e⟩,if w.ld=some i then none else w.ld,fun k=>if w.ld=some i then false else if k=i then false else w.f k,w.D,w.H⟩
theorem AJ6{w:Aw}(h:uH w)(hi:i<3)(h1:(w.s i).a≤j)(h2:j≤(w.s i).m.length):uH (G7 w i j):=by
 have sm:∀k,∀x∈((G7 w i j).s k).m,x∈(w.s k).m:=by
  intro k x hx;by_cases hk:k=i
  ·subst hk;rw[G7]at hx;simp only[WR]at hx;exact List.mem_of_mem_take hx
  ·rw[G7]at hx;simp only[MW _ _ hk]at hx;exact hx
 have se:∀k,((G7 w i j).s k).e=(w.s k).e:=by
  intro k;by_cases hk:k=i
  ·subst hk;simp only[G7,WR]
  ·simp only[G7,MW _ _ hk]
 have st:∀k,∀x∈(w.s k).m.take (w.s k).a,x∈((G7 w i j).s k).m.take ((G7 w i j).s k).a:=by
  intro k x hx;by_cases hk:k=i
  ·subst hk;simp only[G7,WR];rw[List.take_take,Nat.min_self];exact(List.take_sublist_take_left h1).mem hx
  ·simp only[G7,MW _ _ hk];exact hx
 refine⟨?_,?_,fun k hk x hx=>h.hist k hk x (sm k x hx),h.one,h.pos,?_,?_,?_,h.dh,h.C27,?_,?_⟩
 ·intro k hk;by_cases e:k=i
  ·subst e;simp only[G7,WR];exact(h.asc k hk).sublist (List.take_sublist _ _)
  ·simp only[G7,MW _ _ e];exact h.asc k hk
 ·intro k hk;by_cases e:k=i
  ·subst e;simp only[G7,WR,List.length_take];omega
  ·simp only[G7,MW _ _ e];exact h.le k hk
 ·intro x hx;obtain⟨p,q,a1,a2,a3,a4,a5⟩:=h.two x hx;exact⟨p,q,a1,a2,a3,by rw[se];exact a4,by rw[se];exact a5⟩
 ·intro k hk;obtain⟨p,q,a1,a2,a3,a4,a5⟩:=h.C26 k hk;exact⟨p,q,a1,a2,a3,by rw[se,se];exact a4,by rw[se,se];exact a5⟩
 ·intro b hb;have hb':(if w.ld=some i then none else w.ld)=some b:=hb;by_cases e:w.ld=some i
  ·rw[if_pos e]at hb';cases hb'
  ·rw[if_neg e]at hb';obtain⟨a1,a2,a3,a4,a5,a6,a7⟩:=h.lead b hb';have hbi:b≠i:=by rintro rfl;exact e hb'
   refine⟨a1,by simp only[G7,MW _ _ hbi];exact a2,by simp only[G7,if_neg e,if_neg hbi];exact a3,fun k hk=>by rw[se,se];exact a4 k hk,fun x hx=>by rw[se];simp only[G7,MW _ _ hbi];exact a5 x hx,fun k hk hf=>?_,by simp only[G7,MW _ _ hbi];exact a7⟩;by_cases hki:k=i
   ·simp only[G7,if_neg e,if_pos hki]at hf;cases hf
   ·simp only[G7,if_neg e,if_neg hki]at hf;simp only[G7,MW _ _ hbi,MW _ _ hki];exact a6 k hk hf
 ·intro x hx k hk y hy hz;by_cases e:k=i
  ·subst e;simp only[G7,WR]at hy⊢;exact B46 (h.asc k hk) (h.all x hx k hk y (List.mem_of_mem_take hy) hz) hy hz
  ·simp only[G7,MW _ _ e]at hy⊢;exact h.all x hx k hk y hy hz
 ·intro x hx;obtain⟨p,q,a1,a2,a3,a4,a5⟩:=h.safe x hx;exact⟨p,q,a1,a2,a3,st p x a4,st q x a5⟩
def upA(w:Aw)(i:Nat):Aw:=⟨put w.s i ⟨true,(w.s i).m,(w.s i).a,(w.s i).e⟩,w.ld,w.f,w.D,w.H⟩
theorem C41{w:Aw}(h:uH w)(i:Nat):uH (upA w i):=by
 have sm:∀k,((upA w i).s k).m=(w.s k).m∧((upA w i).s k).a=(w.s k).a∧((upA w i).s k).e=(w.s k).e∧((w.s k).up=true→((upA w i).s k).up=true):=by
  intro k;by_cases e:k=i
  ·subst e;simp only[upA,WR];exact⟨trivial,trivial,trivial,fun _=>trivial⟩
  ·simp only[upA,MW _ _ e];exact⟨trivial,trivial,trivial,fun h=>h⟩
 refine⟨fun k hk=>by rw[(sm k).1];exact h.asc k hk,fun k hk=>by rw[(sm k).1,(sm k).2.1];exact h.le k hk,fun k hk=>by rw[(sm k).1];exact h.hist k hk,h.one,h.pos,fun x hx=>?_,fun k hk=>?_,fun b hb=>?_,h.dh,h.C27,fun x hx k hk=>by rw[(sm k).1];exact h.all x hx k hk,fun x hx=>?_⟩
 ·obtain⟨p,q,a1,a2,a3,a4,a5⟩:=h.two x hx;exact⟨p,q,a1,a2,a3,by rw[(sm p).2.2.1];exact a4,by rw[(sm q).2.2.1];exact a5⟩
 ·obtain⟨p,q,a1,a2,a3,a4,a5⟩:=h.C26 k hk;exact⟨p,q,a1,a2,a3,by rw[(sm p).2.2.1,(sm k).2.2.1];exact a4,by rw[(sm q).2.2.1,(sm k).2.2.1];exact a5⟩
 ·obtain⟨a1,a2,a3,a4,a5,a6,a7⟩:=h.lead b hb;refine⟨a1,(sm b).2.2.2 a2,a3,fun k hk=>by rw[(sm k).2.2.1,(sm b).2.2.1];exact a4 k hk,fun x hx=>by rw[(sm b).2.2.1,(sm b).1];exact a5 x hx,fun k hk hf=>?_,by rw[(sm b).1];exact a7⟩;rw[(sm k).1,(sm b).1];exact⟨(a6 k hk hf).1,(sm k).2.2.2 (a6 k hk hf).2⟩
 ·obtain⟨p,q,a1,a2,a3,a4,a5⟩:=h.safe x hx;exact⟨p,q,a1,a2,a3,by rw[(sm p).1,(sm p).2.1];exact a4,by rw[(sm q).1,(sm q).2.1];exact a5⟩
def PL(w:Aw)(b:Nat)(e:Int):Aw:=⟨fun k=>if(w.s k).up=true then⟨true,(w.s b).m,(w.s b).m.length,e⟩else w.s k,some b,fun k=>(w.s k).up,w.D,w.H⟩
theorem AJ7{w:Aw}(h:uH w)(hb:b<3)(hc:c<3)(hbc:b≠c)(ub:(w.s b).up=true)(uc:(w.s c).up=true)(hl:∀k,k<3→(w.s k).up=true→DL (w.s k).m≤DL (w.s b).m)(he:∀k,k<3→(w.s k).up=true→(w.s k).e<e):uH (PL w b e):=by
 have su:∀k,(w.s k).up=true→(PL w b e).s k=⟨true,(w.s b).m,(w.s b).m.length,e⟩:=fun k hk=>by simp only[PL,if_pos hk]
 have sd:∀k,(w.s k).up≠true→(PL w b e).s k=w.s k:=fun k hk=>by simp only[PL,if_neg hk]
 have top:∀k,k<3→(w.s k).e<e:=by
  intro k hk;obtain⟨i,j,a1,a2,a3,a4,a5⟩:=h.C26 k hk;rcases BL2 a1 a2 hb hc a3 hbc with r|r|r|r
  ·have:=he i a1 (by rw[r];exact ub);omega
  ·have:=he i a1 (by rw[r];exact uc);omega
  ·have:=he j a2 (by rw[r];exact ub);omega
  ·have:=he j a2 (by rw[r];exact uc);omega
 have ge:∀k,k<3→(w.s k).e≤((PL w b e).s k).e:=by
  intro k hk;by_cases u:(w.s k).up=true
  ·rw[su k u];have:=top k hk;show (w.s k).e≤e;omega
  ·rw[sd k u];exact Int.le_refl _
 have sub:∀x∈w.D,x∈(w.s b).m:=by
  intro x hx;have key:∀i,i<3→(w.s i).up=true→x∈(w.s i).m→x∈(w.s b).m:=by
   intro i hi ui hxi;have h1:=yU (h.asc i hi) hxi;have h2:=hl i hi ui;have h3:=(h.pos x (h.dh x hx)).2;have hne:(w.s b).m≠[]:=by
    intro h0;rw[h0,SE]at h2;omega
   obtain⟨y,hy,hyz⟩:=WQ hne;exact h.all x hx b hb y hy (by omega)
  obtain⟨i,j,a1,a2,a3,a4,a5⟩:=h.safe x hx;have b4:=List.mem_of_mem_take a4;have b5:=List.mem_of_mem_take a5;rcases BL2 a1 a2 hb hc a3 hbc with r|r|r|r
  ·exact key i a1 (by rw[r];exact ub) b4
  ·exact key i a1 (by rw[r];exact uc) b4
  ·exact key j a2 (by rw[r];exact ub) b5
  ·exact key j a2 (by rw[r];exact uc) b5
 refine⟨?_,?_,?_,h.one,h.pos,?_,?_,?_,h.dh,h.C27,?_,?_⟩
 ·intro k hk;by_cases u:(w.s k).up=true
  ·rw[su k u];exact h.asc b hb
  ·rw[sd k u];exact h.asc k hk
 ·intro k hk;by_cases u:(w.s k).up=true
  ·rw[su k u];exact Nat.le_refl _
  ·rw[sd k u];exact h.le k hk
 ·intro k hk;by_cases u:(w.s k).up=true
  ·rw[su k u];exact h.hist b hb
  ·rw[sd k u];exact h.hist k hk
 ·intro x hx;obtain⟨i,j,a1,a2,a3,a4,a5⟩:=h.two x hx;exact⟨i,j,a1,a2,a3,Int.le_trans a4 (ge i a1),Int.le_trans a5 (ge j a2)⟩
 ·intro k hk;by_cases u:(w.s k).up=true
  ·exact⟨b,c,hb,hc,hbc,by rw[su k u,su b ub];exact Int.le_refl _,by rw[su k u,su c uc];exact Int.le_refl _⟩
  ·obtain⟨i,j,a1,a2,a3,a4,a5⟩:=h.C26 k hk;exact⟨i,j,a1,a2,a3,by rw[sd k u];exact Int.le_trans a4 (ge i a1),by rw[sd k u];exact Int.le_trans a5 (ge j a2)⟩
 ·intro b' hb';have hbb:some b=some b':=hb'
  cases hbb
  refine⟨hb,by rw[su b ub],ub,fun k hk=>?_,fun x hx hz=>?_,fun k _ hf=>?_,by rw[su b ub];exact sub⟩
  ·rw[su b ub];by_cases u:(w.s k).up=true
   ·rw[su k u];exact Int.le_refl _
   ·rw[sd k u];have:=top k hk;show (w.s k).e≤e;omega
  ·rw[su b ub]at hz;obtain⟨i,_,a1,_,_,a4,_⟩:=h.two x hx;have:=top i a1;have hz':DK x.z=e:=hz;omega
  ·have u:(w.s k).up=true:=hf;rw[su k u,su b ub];exact⟨rfl,rfl⟩
 ·intro x hx k hk y hy hz;by_cases u:(w.s k).up=true
  ·rw[su k u];exact sub x hx
  ·rw[sd k u]at hy⊢;exact h.all x hx k hk y hy hz
 ·intro x hx;exact⟨b,c,hb,hc,hbc,by rw[su b ub];simp only[List.take_length];exact sub x hx,by rw[su c uc];simp only[List.take_length];exact sub x hx⟩
theorem AJ8{a b:Int}(ha:FT a=true)(hb:FT b=true)(h:DK a<DK b):a<b:=by
 rw[DK,if_pos ha,DK,if_pos hb]at h;omega
def I8(w:Aw)(T S:Nat→Bool)(x:AQ)(k:Nat):Ab:=if T k=true then⟨(w.s k).up,(w.s k).m++[x],if S k=true then(w.s k).m.length+1 else(w.s k).a,(w.s k).e⟩else w.s k
def A69(w:Aw)(b:Nat)(T S:Nat→Bool)(x:AQ):Aw:=⟨I8 w T S x,some b,T,w.D++[x],w.H++[x]⟩
def B47(w:Aw)(T S:Nat→Bool)(x:AQ):Aw:=⟨I8 w T S x,none,fun _=>false,w.D,w.H++[x]⟩
structure WrA(w:Aw)(b:Nat)(T S:Nat→Bool)(x:AQ):Prop where
 ld:w.ld=some b
 tb:T b=true
 tf:∀i,i<3→T i=true→w.f i=true
 st:∀i,S i=true→T i=true
 z:DL (w.s b).m<x.z
 g:FT x.z=true∧0<x.z
 e:DK x.z=(w.s b).e
theorem QN{w:Aw}(h:uH w)(r:WrA w b T S x):∀y∈w.H,y.z<x.z:=by
 intro y hy;obtain⟨a1,_,_,a4,a5,_,_⟩:=h.lead b r.ld;by_cases hz:DK y.z=(w.s b).e
 ·have:=yU (h.asc b a1) (a5 y hy hz);have:=r.z;omega
 ·obtain⟨i,_,c1,_,_,c4,_⟩:=h.two y hy;have:=a4 i c1;exact AJ8 (h.pos y hy).1 r.g.1 (by rw[r.e];omega)
theorem yV{w:Aw}(h:uH w)(r:WrA w b T S x)(D':List AQ)(hD:∀y∈D',y∈w.D∨y=x)(hasc:BL1 D')(hS:x∈D'→∃c,c<3∧c≠b∧S c=true∧S b=true):
  ∀ld f,(ld=none∨ld=some b∧f=T)→uH ⟨I8 w T S x,ld,f,D',w.H++[x]⟩:=by
 intro ld f hld;obtain⟨a1,a2,a3,a4,a5,a6,a7⟩:=h.lead b r.ld;have above:=QN h r;have ty:∀k,T k=true→I8 w T S x k=⟨(w.s k).up,(w.s k).m++[x],if S k=true then(w.s k).m.length+1 else(w.s k).a,(w.s k).e⟩:=fun k hk=>by rw[I8,if_pos hk]
 have tn:∀k,T k≠true→I8 w T S x k=w.s k:=fun k hk=>by rw[I8,if_neg hk]
 have te:∀k,(I8 w T S x k).e=(w.s k).e:=fun k=>by
  by_cases hk:T k=true
  ·rw[ty k hk]
  ·rw[tn k hk]
 have tm:∀k,∀y∈(I8 w T S x k).m,y∈(w.s k).m∨y=x∧T k=true:=fun k y hy=>by
  by_cases hk:T k=true
  ·rw[ty k hk]at hy;rcases List.mem_append.1 hy with hy|hy
   ·exact .inl hy
   ·exact .inr ⟨by simpa using hy,hk⟩
  ·rw[tn k hk]at hy;exact .inl hy
 have mt:∀k,∀y∈(w.s k).m,y∈(I8 w T S x k).m:=fun k y hy=>by
  by_cases hk:T k=true
  ·rw[ty k hk];exact List.mem_append.2 (.inl hy)
  ·rw[tn k hk];exact hy
 have eq:∀k,k<3→T k=true→(w.s k).m=(w.s b).m:=fun k hk ht=>(a6 k hk (r.tf k hk ht)).1;have st:∀k,k<3→∀y∈(w.s k).m.take (w.s k).a,y∈(I8 w T S x k).m.take (I8 w T S x k).a:=fun k hk y hy=>by
  by_cases ht:T k=true
  ·rw[ty k ht];simp only
   split
   ·rw[List.take_of_length_le (by simp)];exact List.mem_append.2 (.inl (List.mem_of_mem_take hy))
   ·rw[List.take_append_of_le_length (h.le k hk)];exact hy
  ·rw[tn k ht];exact hy
 have hH:∀y∈w.H++[x],y∈w.H∨y=x:=fun y hy=>by
  rcases List.mem_append.1 hy with hy|hy
  ·exact .inl hy
  ·exact .inr (by simpa using hy)
 refine⟨?_,?_,?_,?_,?_,?_,?_,?_,?_,hasc,?_,?_⟩
 ·intro k hk;show BL1 (I8 w T S x k).m;by_cases ht:T k=true
  ·rw[ty k ht];show ((w.s k).m++[x]).Pairwise _;rw[List.pairwise_append];refine⟨h.asc k hk,List.pairwise_singleton _ _,fun y hy z hz=>?_⟩;simp at hz;rw[hz];exact above y (h.hist k hk y hy)
  ·rw[tn k ht];exact h.asc k hk
 ·intro k hk;show (I8 w T S x k).a≤(I8 w T S x k).m.length;by_cases ht:T k=true
  ·rw[ty k ht];simp only[List.length_append,List.length_singleton];have:=h.le k hk
   split<;>omega
  ·rw[tn k ht];exact h.le k hk
 ·intro k hk y hy;rcases tm k y hy with hy|⟨rfl,_⟩
  ·exact List.mem_append.2 (.inl (h.hist k hk y hy))
  ·simp
 ·intro y hy z hz e;rcases hH y hy with h1|h1<;>rcases hH z hz with h2|h2
  ·exact h.one y h1 z h2 e
  ·have:=above y h1;rw[h2]at e;omega
  ·have:=above z h2;rw[h1]at e;omega
  ·rw[h1,h2]
 ·intro y hy;rcases hH y hy with hy|rfl
  ·exact h.pos y hy
  ·exact r.g
 ·intro y hy;show ∃i j,i<3∧j<3∧i≠j∧DK y.z≤(I8 w T S x i).e∧DK y.z≤(I8 w T S x j).e;rcases hH y hy with hy|rfl
  ·obtain⟨i,j,c1,c2,c3,c4,c5⟩:=h.two y hy;exact⟨i,j,c1,c2,c3,by rw[te];exact c4,by rw[te];exact c5⟩
  ·obtain⟨i,j,c1,c2,c3,c4,c5⟩:=h.C26 b a1;exact⟨i,j,c1,c2,c3,by rw[te,r.e];exact c4,by rw[te,r.e];exact c5⟩
 ·intro k hk;show ∃i j,i<3∧j<3∧i≠j∧(I8 w T S x k).e≤(I8 w T S x i).e∧(I8 w T S x k).e≤(I8 w T S x j).e;obtain⟨i,j,c1,c2,c3,c4,c5⟩:=h.C26 k hk;exact⟨i,j,c1,c2,c3,by rw[te,te];exact c4,by rw[te,te];exact c5⟩
 ·intro b' hb';have hb'':ld=some b':=hb';rcases hld with e|⟨e,rfl⟩
  ·rw[e]at hb'';cases hb''
  ·rw[e]at hb''
   cases hb''
   refine⟨a1,?_,r.tb,?_,?_,?_,?_⟩
   ·show (I8 w f S x b).up=true;rw[ty b r.tb];exact a2
   ·intro k hk;show (I8 w f S x k).e≤(I8 w f S x b).e;rw[te,te];exact a4 k hk
   ·intro y hy hz;show y∈(I8 w f S x b).m;have hz':DK y.z=(I8 w f S x b).e:=hz;rw[te]at hz';rcases hH y hy with hy|rfl
    ·exact mt b y (a5 y hy hz')
    ·rw[ty b r.tb];simp
   ·intro k hk hf;show (I8 w f S x k).m=(I8 w f S x b).m∧(I8 w f S x k).up=true;have hf':f k=true:=hf;rw[ty k hf',ty b r.tb];exact⟨by simp only;rw[eq k hk hf'],(a6 k hk (r.tf k hk hf')).2⟩
   ·intro y hy;show y∈(I8 w f S x b).m;rcases hD y hy with hy|rfl
    ·exact mt b y (a7 y hy)
    ·rw[ty b r.tb];simp
 ·intro y hy;rcases hD y hy with hy|rfl
  ·exact List.mem_append.2 (.inl (h.dh y hy))
  ·simp
 ·intro y hy k hk z hz hyz;show y∈(I8 w T S x k).m;rcases hD y hy with hyD|rfl
  ·rcases tm k z hz with hz'|⟨rfl,ht⟩
   ·exact mt k y (h.all y hyD k hk z hz' hyz)
   ·rw[ty k ht];exact List.mem_append.2 (.inl (by rw[eq k hk ht];exact a7 y hyD))
  ·rcases tm k z hz with hz'|⟨rfl,_⟩
   ·have:=above z (h.hist k hk z hz');omega
   ·exact hz
 ·intro y hy;show ∃i j,i<3∧j<3∧i≠j∧y∈(I8 w T S x i).m.take (I8 w T S x i).a∧y∈(I8 w T S x j).m.take (I8 w T S x j).a;rcases hD y hy with hyD|rfl
  ·obtain⟨i,j,c1,c2,c3,c4,c5⟩:=h.safe y hyD;exact⟨i,j,c1,c2,c3,st i c1 y c4,st j c2 y c5⟩
  ·obtain⟨c,hc,hcb,sc,sb⟩:=hS hy;have key:∀k,S k=true→y∈(I8 w T S y k).m.take (I8 w T S y k).a:=fun k hk=>by
    rw[ty k (r.st k hk)];simp only;rw[if_pos hk,List.take_of_length_le (by simp)];simp
   exact⟨b,c,a1,hc,hcb.symm,key b sb,key c sc⟩
theorem B48{w:Aw}(h:uH w)(r:WrA w b T S x)(hc:c<3)(hcb:c≠b)(sc:S c=true)(sb:S b=true):uH (A69 w b T S x):=by
 refine yV h r (w.D++[x]) (fun y hy=>?_) ?_ (fun _=>⟨c,hc,hcb,sc,sb⟩) (some b) T (.inr ⟨rfl,rfl⟩)
 ·rcases List.mem_append.1 hy with hy|hy
  ·exact .inl hy
  ·exact .inr (by simpa using hy)
 ·show (w.D++[x]).Pairwise _;rw[List.pairwise_append];refine⟨h.C27,List.pairwise_singleton _ _,fun y hy z hz=>?_⟩;simp at hz;rw[hz];exact QN h r y (h.dh y hy)
theorem B49{w:Aw}(h:uH w)(r:WrA w b T S x):uH (B47 w T S x):=
 yV h r w.D (fun y hy=>.inl hy) h.C27 (fun hx=>absurd (QN h r x (h.dh x hx)) (by omega)) none (fun _=>false) (.inl rfl)
theorem CE3{w:Aw}(h:uH w)(hb:w.ld=some b):w.D.Sublist (w.s b).m:=by
 obtain⟨a1,_,_,_,_,_,a7⟩:=h.lead b hb;exact BP4 h.C27 (h.asc b a1) a7
structure Dd where
 k:Int
 c:Int
 s:Int
 q:Rq
 lo:Int
 sl:Int
 ke:Int
 wt:Bool
def uZ(d:Dd):List Value:=[I0 d.k,I0 d.c,I0 d.s,I0 d.q.o,I0 d.q.s,S0 d.q.p,S0 d.q.d,I0 d.q.v,I0 d.q.f,I0 d.lo,I0 d.sl,I0 d.ke,.bool d.wt]
def ddV(d:Dd):Value:=.agg #[I0 d.k,I0 d.c,I0 d.s,I0 d.q.o,I0 d.q.s,S0 d.q.p,S0 d.q.d,I0 d.q.v,I0 d.q.f,I0 d.lo,I0 d.sl,I0 d.ke,.bool d.wt]
instance layD:Lay Dd:=⟨13,uZ,29,fun _=>rfl,fun x u hu=>by simp[uZ]at hu;rcases hu with rfl|rfl|rfl|rfl|rfl|rfl|rfl|rfl|rfl|rfl|rfl|rfl|rfl<;>rfl⟩
structure Ps where
 up:Bool
 e:Int
 m:List AQ
 a:Nat
 q:List UInt8
 dn:Nat
 ws:List Wa
structure Cl where
 s:Int
 z:Int
 es:List En
structure Pw where
 n:Int
 s:Nat→Ps
 r:Nat→Int
 c:Nat→Cl
 D:List AQ
 H:List AQ
 h:Nat
structure Rp where
 E:Int
 z:Int
 p:List UInt8
 d:List UInt8
 t:Nd
 ns:List Nt
def nd0:Nd:=⟨[],[],0,0,0,0,0,0,0⟩
def OZ(E:Int):Rp:=⟨E,0,[],[],nd0,[]⟩
def H6{α:Type}(f:Nat→α)(i:Nat)(v:α):Nat→α:=fun k=>if k=i then v else f k
theorem BQ{α:Type}(f:Nat→α)(i:Nat)(v:α):H6 f i v i=v:=by rw[H6,if_pos rfl]
theorem AP{α:Type}(f:Nat→α)(v:α)(h:k≠i):H6 f i v k=f k:=by rw[H6,if_neg h]
def epD(e:Int):List DF:=if e=0 then []else [UY e]
theorem A34:epD 0=[]:=rfl
theorem xQ(h:e≠0):epD e=[UY e]:=by rw[epD,if_neg h]
noncomputable def svP(i:Nat)(p:Ps):Sv:=
 if p.up=true then⟨true,epD p.e++[⟨JA,BL (p.m.take p.a),BL (p.m.drop p.a)⟩],i,p.e,p.m,p.dn,NQ p.m p.dn,p.ws⟩
 else⟨false,epD p.e++[⟨JA,BL p.m++p.q,[]⟩],i,0,[],0,MI,[]⟩
theorem DJ{p:Ps}(h:p.up=true):svP i p=⟨true,epD p.e++[⟨JA,BL (p.m.take p.a),BL (p.m.drop p.a)⟩],i,p.e,p.m,p.dn,NQ p.m p.dn,p.ws⟩:=by rw[svP,if_pos h]
theorem MB{p:Ps}(h:p.up=false):svP i p=⟨false,epD p.e++[⟨JA,BL p.m++p.q,[]⟩],i,0,[],0,MI,[]⟩:=by rw[svP,if_neg (by simp[h])]
def whole:List AQ→Nat→Nat
 |[],_=>0
 |t::r,k=>if(MP t).length≤k then 1+whole r (k-(MP t).length)else 0
def B32:List AQ→Nat→List UInt8
 |[],_=>[]
 |t::r,k=>if(MP t).length≤k then B32 r (k-(MP t).length)else(MP t).take k
theorem mD:∀ (l:List AQ) (k:Nat),whole l k≤l.length
 |[],_=>by simp[whole]
 |t::r,k=>by
  have:=mD r (k-(MP t).length);unfold whole
  split
  ·simp;omega
  ·simp
theorem rQ:∀ (l:List AQ) (k:Nat),(BL l).take k=BL (l.take (whole l k))++B32 l k
 |[],k=>by simp[BL,whole,B32]
 |t::r,k=>by
  unfold whole B32;by_cases h:(MP t).length≤k
  ·rw[if_pos h,if_pos h,Nat.add_comm,List.take_succ_cons,BL,BL,List.take_append,List.take_of_length_le h,rQ r,List.append_assoc]
  ·rw[if_neg h,if_neg h,BL,List.take_append_of_le_length (by omega)];simp[BL]
theorem fE:∀ (l:List AQ) (k:Nat),B32 l k=[]∨∃t∈l,∃j,j<(MP t).length∧B32 l k=(MP t).take j
 |[],_=>.inl rfl
 |t::r,k=>by
  unfold B32;by_cases h:(MP t).length≤k
  ·rw[if_pos h];rcases fE r (k-(MP t).length)with h1|⟨x,hx,j,hj,e⟩
   ·exact .inl h1
   ·exact .inr ⟨x,by simp[hx],j,hj,e⟩
  ·rw[if_neg h];exact .inr ⟨t,by simp,k,by omega,rfl⟩
def JO(p:Ps)(k:Nat):Ps:=⟨false,p.e,p.m.take (p.a+whole (p.m.drop p.a) k),p.a+whole (p.m.drop p.a) k,B32 (p.m.drop p.a) k,0,[]⟩
def upP(p:Ps):Ps:=⟨true,p.e,p.m,p.m.length,[],0,[]⟩
noncomputable def YD(i:Nat)(p:Ps):Sv×List Nt:=csP (svP i p) (p.m.drop p.dn) (p.m.length-p.dn)
noncomputable def aQ(i:Nat)(p:Ps):Ps:=⟨p.up,p.e,p.m,p.a,p.q,p.m.length,(YD i p).1.ws⟩
noncomputable def IK(s:Nat→Ps):List Nat→(Nat→Ps)×List Nt
 |[]=>(s,[])
 |i::l=>((IK (H6 s i (aQ i (s i))) l).1,(YD i (s i)).2++(IK (H6 s i (aQ i (s i))) l).2)
def VZ(c:Nat→Cl)(l:List Nt):Nat→Cl:=fun k=>⟨(c k).s,(c k).z,QC (c k).s l (c k).es⟩
def ldP(r:Nat→Int):Int:=if r 0=2 then 0 else if r 1=2 then 1 else if r 2=2 then 2 else -1
def FH(s:Nat→Ps):List Nat:=[0,1,2].filter fun i=>(s i).up
def ML(s:Nat→Ps):List Key:=(FH s).map fun(i:Nat)=>((i:Int),(s i).e,DL (s i).m)
def eB(s:Nat→Ps):Nat:=(FH s).getD (IG (ML s) (FH s).length) 0
def eN(s:Nat→Ps):Int:=RY (ML s)+1
def AI1(s:Nat→Ps):Bool:=(FH s).any fun i=>decide (G5 (s i).m (s (eB s)).m<(s i).dn)
def rU(e:Int)(m:List AQ)(p:Ps):Ps:=⟨true,e,m,m.length,[],p.dn,p.ws⟩
def eS(s:Nat→Ps):Nat→Ps:=fun k=>if(s k).up=true∧k<3 then rU (eN s) (s (eB s)).m (s k)else s k
def eR(s:Nat→Ps):Nat→Int:=fun k=>if k=eB s then 2 else if(s k).up=true∧k<3 then 1 else 0
noncomputable def QD(p:Pw):Rp×Pw:=
 if(FH p.s).length<2 then(OZ 14,p)else if AI1 p.s=true then(OZ 13,p)
 else(⟨0,DL (p.s (eB p.s)).m,[],[],nd0,(IK (eS p.s) (FH p.s)).2⟩,⟨p.n,(IK (eS p.s) (FH p.s)).1,eR p.s,VZ p.c (IK (eS p.s) (FH p.s)).2,p.D,p.H,p.h⟩)
noncomputable def RP(p:Pw)(i:Nat)(ke:Int):Rp×Pw:=
 if(p.s i).up=false then(OZ 14,p)else if ke<0 then(OZ 3,p)
 else(OZ 0,⟨p.n,H6 p.s i (JO (p.s i) ke.toNat),if p.r i=2 then fun _=>0 else H6 p.r i 0,p.c,p.D,p.H,p.h⟩)
def upW(p:Pw)(i:Nat):Rp×Pw:=
 if(p.s i).up=true then(OZ 8,p)else(OZ 0,⟨p.n,H6 p.s i (upP (p.s i)),p.r,p.c,p.D,p.H,p.h⟩)
def A35(n:Int)(i:Nat):Bool:=decide (n/2^i%2=1)
def ldN(r:Nat→Int):Nat:=(ldP r).toNat
def wZ(p:Pw):Int:=nxN (p.s (ldN p.r)).e (DL (p.s (ldN p.r)).m)
def wQ(p:Pw)(d:Dd):Rq:=⟨d.q.o,(p.c d.c.toNat).s,d.q.p,d.q.d,d.q.v,d.q.f⟩
noncomputable def wTr(p:Pw):Tr:=NQ (p.s (ldN p.r)).m (p.s (ldN p.r)).dn
noncomputable def wE(p:Pw)(d:Dd):Int:=ZU (wTr p) (wZ p) (wQ p d)
noncomputable def wX(p:Pw)(d:Dd):AQ:=AI0 (wTr p) (wZ p) (wQ p d)
def wT(p:Pw)(d:Dd)(i:Nat):Bool:=decide (p.r i=2)||(decide (p.r i=1)&& !A35 d.lo i)
def wS(p:Pw)(d:Dd)(i:Nat):Bool:=wT p d i&&(decide (p.r i=2)|| !A35 d.sl i)
def OQ(x:AQ)(sure:Bool)(p:Ps):Ps:=⟨p.up,p.e,p.m++[x],if sure=true then p.m.length+1 else p.a,p.q,p.dn,p.ws⟩
noncomputable def wSv(p:Pw)(d:Dd):Nat→Ps:=fun k=>if wT p d k=true then OQ (wX p d) (wS p d k) (p.s k)else p.s k
def wRo(p:Pw)(d:Dd):Nat→Int:=fun k=>if wT p d k=true then p.r k else 0
def wL(p:Pw)(d:Dd):List Nat:=[0,1,2].filter fun i=>wS p d i
def iC(t:Tr)(p:List UInt8):Option Nd:=t.ns.find? fun n=>decide (n.p=p)
noncomputable def wCl(p:Pw)(d:Dd)(l:List Nt):Nat→Cl:=H6 (VZ p.c l) d.c.toNat ⟨(VZ p.c l d.c.toNat).s,wZ p,(VZ p.c l d.c.toNat).es⟩
noncomputable def OH(p:Pw)(d:Dd):Rp×Pw:=
 if ldP p.r=-1 then(OZ 14,p)else if wE p d≠0 then(OZ (wE p d),p)
 else if(wL p d).length<2 then(⟨16,(wX p d).z,[],[],nd0,[]⟩,⟨p.n,wSv p d,fun _=>0,p.c,p.D,p.H++[wX p d],p.h⟩)
 else(⟨0,(wX p d).z,(wX p d).p,[],(iC (NQ ((p.s (ldN p.r)).m++[wX p d]) ((p.s (ldN p.r)).m.length+1)) (wX p d).p).getD nd0,(IK (wSv p d) (wL p d)).2⟩,
  ⟨p.n,(IK (wSv p d) (wL p d)).1,wRo p d,wCl p d (IK (wSv p d) (wL p d)).2,p.D++[wX p d],p.H++[wX p d],p.h⟩)
noncomputable def rTr(p:Pw)(d:Dd):Tr:=NQ (p.s d.s.toNat).m (p.s d.s.toNat).dn
noncomputable def rN(p:Pw)(d:Dd):Option Nd:=iC (rTr p d) d.q.p
def rWa(p:Pw)(d:Dd):Wa:=⟨(p.c d.c.toNat).s,1,d.q.p⟩
def tN(q:Ps)(x:Wa):Ps:=⟨q.up,q.e,q.m,q.a,q.q,q.dn,jQ q.ws x⟩
noncomputable def BE9(p:Pw)(d:Dd):Rp:=⟨if(rN p d).isSome=true then 0 else 7,(rTr p d).z,((rN p d).getD nd0).p,((rN p d).getD nd0).d,(rN p d).getD nd0,[]⟩
noncomputable def iD(p:Pw)(d:Dd):Rp×Pw:=
 if(p.s d.s.toNat).up=false then(OZ 14,p)else if(rTr p d).z<(p.c d.c.toNat).z then(OZ 15,p)
 else if d.wt=false then(BE9 p d,⟨p.n,p.s,p.r,H6 p.c d.c.toNat ⟨(p.c d.c.toNat).s,(rTr p d).z,(p.c d.c.toNat).es⟩,p.D,p.H,p.h⟩)
 else if XU (p.s d.s.toNat).ws (rWa p d)≠0 then(OZ (XU (p.s d.s.toNat).ws (rWa p d)),p)
 else(BE9 p d,⟨p.n,H6 p.s d.s.toNat (tN (p.s d.s.toNat) (rWa p d)),p.r,H6 p.c d.c.toNat ⟨(p.c d.c.toNat).s,(rTr p d).z,RX (p.c d.c.toNat).es ⟨d.q.p,((rN p d).getD nd0).d,(rN p d).isSome⟩⟩,p.D,p.H,p.h⟩)
def iE(i:Int)(n:Int):Bool:=decide (0≤i)&&decide (i<n)
def RQ(d:Dd):Int:=
 if d.k=1 then(if iE d.c 16=true then 0 else 3)else if d.k=2 then(if iE d.c 16=true∧iE d.s 3=true then 0 else 3)
 else if d.k=3∨d.k=4 then(if iE d.s 3=true then 0 else 3)else if d.k=5 then 0 else 4
noncomputable def jS(p:Pw)(d:Dd):Rp×Pw:=
 if d.k=1 then OH p d else if d.k=2 then iD p d else if d.k=3 then RP p d.s.toNat d.ke else if d.k=4 then upW p d.s.toNat else QD p
def JU(p:Pw):Pw:=⟨p.n+1,p.s,p.r,p.c,p.D,p.H,p.h⟩
noncomputable def doP(p:Pw)(d:Dd):Rp×Pw:=
 if 300≤p.n then(OZ 6,p)else if RQ d≠0 then(OZ (RQ d),JU p)else jS (JU p) d
def ps0:Ps:=⟨true,0,[],0,[],0,[]⟩
def pw0(k:Nat):Pw:=⟨0,fun _=>ps0,fun _=>0,fun i=>⟨i+1,0,[]⟩,[],[],k⟩
noncomputable def NT(p:Pw):List Dd→Pw
 |[]=>p
 |d::l=>NT (doP p d).2 l
def A43(m:List AQ):Prop:=∀i x,m[i]?=some x→UW (NQ m i) x=0
structure II(N:Int)(p:Ps):Prop where
 log:Logs p.m
 pos:∀x∈p.m,0<x.z
 len:(p.m.length:Int)≤N
 a:p.a≤p.m.length
 e0:0≤p.e
 e1:p.e≤N
 dn:p.dn≤p.m.length
 play:A43 p.m
 wl:(p.ws.length:Int)≤N
 wk:∀x∈p.ws,1≤x.s∧x.s≤16∧x.k=1∧DU x.p=true
 down:p.up=false→p.a=p.m.length∧p.dn=0∧p.ws=[]∧Scan (BL p.m++p.q) p.m p.q∧p.q.length≤487
 upq:p.up=true→p.q=[]
theorem II.more{M:Int}{p:Ps}(h:II N p)(hM:N≤M):II M p:=
 ⟨h.log,h.pos,Int.le_trans h.len hM,h.a,h.e0,Int.le_trans h.e1 hM,h.dn,h.play,Int.le_trans h.wl hM,h.wk,h.down,h.upq⟩
structure nZ(N:Int)(H:List AQ)(i:Nat)(c:Cl):Prop where
 s:c.s=i+1
 z:c.z=0∨∃x∈H,c.z=x.z
 asc:AV5 c.es
 len:(c.es.length:Int)≤N
 sh:∀x∈c.es,x.p.length≤200∧x.d.length≤256
def awP(p:Pw):Aw:=
 ⟨fun k=>if k<3 then⟨(p.s k).up,(p.s k).m,(p.s k).a,(p.s k).e⟩else⟨false,[],0,0⟩,if ldP p.r=-1 then none else some (ldN p.r),fun k=>decide (k<3)&&decide (p.r k≠0),p.D,p.H⟩
structure NU(p:Pw):Prop where
 n0:0≤p.n
 n1:p.n≤300
 s:∀i,i<3→II p.n (p.s i)
 r:∀i,i<3→p.r i=0∨p.r i=1∨p.r i=2
 one:∀i j,i<3→j<3→p.r i=2→p.r j=2→i=j
 led:ldP p.r=-1→∀i,i<3→p.r i=0
 rup:∀i,i<3→p.r i≠0→(p.s i).up=true
 all:∀b,b<3→p.r b=2→(p.s b).dn=(p.s b).m.length
 a:uH (awP p)
 c:∀i,i<16→nZ p.n p.H i (p.c i)
 cnt:∀x∈p.H,x.z%2147483648≤p.n
 few:(p.D.length:Int)≤p.n
theorem aS{r:Nat→Int}(hb:b<3)(h:r b=2)(ho:∀i j,i<3→j<3→r i=2→r j=2→i=j):ldP r=b:=by
 have e:∀i,i<3→(r i=2↔i=b):=fun i hi=>⟨fun h1=>ho i b hi hb h1 h,fun h1=>by rw[h1];exact h⟩;unfold ldP;have h0:=e 0 (by omega);have h1:=e 1 (by omega);have h2:=e 2 (by omega);rcases(show b=0∨b=1∨b=2 by omega)with rfl|rfl|rfl<;>simp_all
theorem fH(r:Nat→Int):(ldP r=-1∧∀i,i<3→r i≠2)∨∃b,b<3∧ldP r=(b:Nat)∧r b=2:=by
 unfold ldP;by_cases h0:r 0=2
 ·exact .inr ⟨0,by omega,by rw[if_pos h0];rfl,h0⟩
 ·by_cases h1:r 1=2
  ·exact .inr ⟨1,by omega,by rw[if_neg h0,if_pos h1];rfl,h1⟩
  ·by_cases h2:r 2=2
   ·exact .inr ⟨2,by omega,by rw[if_neg h0,if_neg h1,if_pos h2];rfl,h2⟩
   ·refine .inl ⟨by rw[if_neg h0,if_neg h1,if_neg h2],fun i hi=>?_⟩;rcases(show i=0∨i=1∨i=2 by omega)with rfl|rfl|rfl<;>assumption
theorem ZO{p:Pw}(h:NU p)(hb:b<3)(hr:p.r b=2):(awP p).ld=some b∧ldN p.r=b∧ldP p.r=b:=by
 have:=aS hb hr h.one;simp only[awP,ldN,this];refine⟨?_,by omega,trivial⟩;rw[if_neg (by omega)];simp
theorem A44{p:Pw}(h:ldP p.r=-1):(awP p).ld=none:=by simp only[awP,h];rfl
theorem GZ{p:Pw}(hk:k<3):(awP p).s k=⟨(p.s k).up,(p.s k).m,(p.s k).a,(p.s k).e⟩:=by simp only[awP,if_pos hk]
theorem RS{p:Pw}(hk:¬k<3):(awP p).s k=⟨false,[],0,0⟩:=by simp only[awP,if_neg hk]
theorem jU{a b:Aw}(h1:∀k,a.s k=b.s k)(h2:a.ld=b.ld)(h3:∀k,a.f k=b.f k)(h4:a.D=b.D)(h5:a.H=b.H):a=b:=by
 obtain⟨s,l,f,D,H⟩:=a;obtain⟨s',l',f',D',H'⟩:=b;simp only at*;rw[show s=s' from funext h1,show f=f' from funext h3,h2,h4,h5]
theorem fJ(m:List AQ)(h:i≤j):NQ (m.take j) i=NQ m i:=by
 unfold NQ;rw[List.take_take,Nat.min_eq_left h]
theorem A43.take(h:A43 m)(j:Nat):A43 (m.take j):=by
 intro i x hi;have hlt:=(List.getElem?_eq_some_iff.1 hi).1;simp at hlt;rw[fJ m (by omega)];rw[List.getElem?_take_of_lt (by omega)]at hi;exact h i x hi
theorem A43.snoc(h:A43 m)(hx:UW (NQ m m.length) x=0):A43 (m++[x]):=by
 intro i y hi;by_cases e:i<m.length
 ·rw[List.getElem?_append_left e]at hi;rw[aP m x (by omega)];exact h i y hi
 ·have hlt:=(List.getElem?_eq_some_iff.1 hi).1;simp at hlt;obtain rfl:i=m.length:=by omega
  simp at hi;subst hi;rw[aP m x (Nat.le_refl _)];exact hx
theorem A43.good(h:A43 m)(hi:i≤m.length):MQ (NQ m i):=by
 cases i with
 |zero=>rw[TV];exact UN
 |succ i=>
  obtain⟨x,hx⟩:∃x,m[i]?=some x:=⟨_,List.getElem?_eq_getElem (by omega)⟩;rw[rH hx];exact(WY (h i x hx)).1
theorem A43.z(h:A43 m)(hx:m[i]?=some x):(NQ m (i+1)).z=x.z:=by
 rw[rH hx];exact(WY (h i x hx)).2.1
theorem A43.z_of(h:A43 m)(hi:i≤m.length):(NQ m i).z=0∨∃x∈m,(NQ m i).z=x.z:=by
 cases i with
 |zero=>rw[TV];exact .inl rfl
 |succ i=>
  obtain⟨x,hx⟩:∃x,m[i]?=some x:=⟨_,List.getElem?_eq_getElem (by omega)⟩;exact .inr ⟨x,List.mem_of_getElem? hx,h.z hx⟩
theorem Logs.take(h:Logs m)(j:Nat):Logs (m.take j):=
 ⟨fun t ht=>h.good t (List.mem_of_mem_take ht),h.rise.sublist (List.take_sublist _ _)⟩
theorem mM(h:Logs m)(hl:m.length≤300):(BL m).length≤146100:=by
 have:=yT m h.good;omega
theorem BW8(xs:List AQ):∀ (s:Sv) (N:List Nt),(∀x∈(xs.foldl stP (s,N)).1.ws,x∈s.ws)∧(xs.foldl stP (s,N)).2.length+(xs.foldl stP (s,N)).1.ws.length≤N.length+s.ws.length∧(∀n∈(xs.foldl stP (s,N)).2,n∈N∨∃x∈s.ws,n.s=x.s∧n.p=x.p∧(x.k≠2→1≤n.k∧n.k≤3)):=by
 induction xs with
 |nil=>intro s N;exact⟨fun x h=>h,Nat.le_refl _,fun n hn=>.inl hn⟩
 |cons y xs ih=>
  intro s N;rw[List.foldl_cons];obtain⟨h1,h2,h3⟩:=ih (ZI s y) (N++KH s.ws (V9 s.tr y));have w1:∀x∈(ZI s y).ws,x∈s.ws:=by
   intro x hx;have hx:x∈TL s y:=hx;unfold TL at hx
   split at hx
   ·exact(bY _ _ _ (List.mem_filter.1 hx).1).1
   ·exact(bY _ _ _ hx).1
  have w2:(ZI s y).ws.length≤(GH s.ws (V9 s.tr y)).length:=by
   show (TL s y).length≤_;unfold TL
   split
   ·exact qR _ _
   ·exact Nat.le_refl _
  have w3:=aG (V9 s.tr y) s.ws;have w4:∀ (es:List Ev) (ws:List Wa) (n:Nt),n∈KH ws es→∃x∈ws,n.s=x.s∧n.p=x.p∧(x.k≠2→1≤n.k∧n.k≤3):=by
   intro es
   induction es with
   |nil=>intro ws n h;simp[KH]at h
   |cons e r ihe=>
    intro ws n h;rcases List.mem_append.1 (show n∈P9 ws e++KH (gV ws e) r from h)with h|h
    ·simp only[P9,List.mem_map,List.mem_filter]at h;obtain⟨x,⟨hx,ho⟩,rfl⟩:=h;refine⟨x,hx,rfl,?_,fun hk=>?_⟩
     ·simp only[tJ,Bool.and_eq_true,decide_eq_true_eq]at ho;exact ho.1.symm
     ·simp only[tJ,if_neg hk,Bool.and_eq_true,Bool.or_eq_true,decide_eq_true_eq]at ho;simp only[AN0];omega
    ·obtain⟨x,hx,h⟩:=ihe (gV ws e) n h;exact⟨x,(List.mem_filter.1 hx).1,h⟩
  refine⟨fun x hx=>w1 x (h1 x hx),?_,fun n hn=>?_⟩
  ·simp only[List.length_append]at h2;have:(xs.foldl stP (stP (s,N) y))=xs.foldl stP (ZI s y,N++KH s.ws (V9 s.tr y)):=rfl;rw[this];omega
  ·rcases h3 n hn with h|⟨x,hx,h⟩
   ·rcases List.mem_append.1 h with h|h
    ·exact .inl h
    ·exact .inr (w4 _ _ _ h)
   ·exact .inr ⟨x,w1 x hx,h⟩
theorem C95{p:Ps}(h:p.up=true):(svP i p).ws=p.ws:=by rw[DJ h]
theorem AW9{p:Ps}(h:p.up=true):(∀x∈(YD i p).1.ws,x∈p.ws)∧(YD i p).2.length+(YD i p).1.ws.length≤p.ws.length∧(∀n∈(YD i p).2,∃x∈p.ws,n.s=x.s∧n.p=x.p∧(x.k≠2→1≤n.k∧n.k≤3)):=by
 obtain⟨h1,h2,h3⟩:=BW8 ((p.m.drop p.dn).take (p.m.length-p.dn)) (svP i p) [];rw[C95 h]at h1 h2 h3;refine⟨h1,by simp only[List.length_nil,Nat.zero_add]at h2;exact h2,fun n hn=>?_⟩;rcases h3 n hn with h|h
 ·simp at h
 ·exact h
theorem BN4{p:Ps}(h:II N p)(hu:p.up=true):II N (aQ i p):=by
 obtain⟨h1,h2,_⟩:=AW9 (i:=i) hu;refine⟨h.log,h.pos,h.len,h.a,h.e0,h.e1,Nat.le_refl _,h.play,?_,fun x hx=>h.wk x (h1 x hx),fun hd=>?_,h.upq⟩
 ·have:=h.wl;show ((YD i p).1.ws.length:Int)≤N;omega
 ·have:p.up=false:=hd;rw[hu]at this
  cases this
theorem mO{p:Ps}(h:II N p)(k:Nat):II N (JO p k):=by
 have hw:=mD (p.m.drop p.a) k;have ha:=h.a;have hl:=h.len;simp at hw;have C33:=h.log.take (p.a+whole (p.m.drop p.a) k);refine⟨C33,fun x hx=>h.pos x (List.mem_of_mem_take hx),?_,?_,h.e0,h.e1,Nat.zero_le _,h.play.take _,?_,by simp[JO],fun _=>⟨?_,rfl,rfl,?_,?_⟩,by simp[JO]⟩
 ·simp[JO];omega
 ·simp[JO];omega
 ·have:=h.e0;have:=h.e1;simp[JO];omega
 ·simp[JO];omega
 ·show Scan (BL (p.m.take (p.a+whole (p.m.drop p.a) k))++B32 (p.m.drop p.a) k) _ _;rcases fE (p.m.drop p.a) k with e|⟨t,ht,j,hj,e⟩
  ·rw[JO];simp only[e];rw[List.append_nil];exact bK C33
  ·rw[JO];simp only[e];exact AJ5 C33 (h.log.good t (List.mem_of_mem_drop ht)) hj
 ·show (B32 (p.m.drop p.a) k).length≤487;rcases fE (p.m.drop p.a) k with e|⟨t,ht,j,hj,e⟩
  ·simp[e]
  ·have:=bM (h.log.good t (List.mem_of_mem_drop ht));rw[e];simp;omega
theorem C96{p:Ps}(h:II N p):II N (upP p):=by
 have:=h.e0;have:=h.e1;exact⟨h.log,h.pos,h.len,Nat.le_refl _,h.e0,h.e1,Nat.zero_le _,h.play,by simp[upP];omega,by simp[upP],by simp[upP],fun _=>rfl⟩
theorem C97{p q:Ps}(h:II N p)(hq:II N q)(e0:0≤e)(e1:e≤N)(hd:p.dn≤q.m.length):II N (rU e q.m p):=
 ⟨hq.log,hq.pos,hq.len,Nat.le_refl _,e0,e1,hd,hq.play,h.wl,h.wk,by simp[rU],fun _=>rfl⟩
theorem BW9{p:Ps}(sure:Bool)(h:II N p)(hu:p.up=true)(hg:gdE x=0)(hz:DL p.m<x.z)(h0:0<x.z)(hx:UW (NQ p.m p.m.length) x=0):II (N+1) (OQ x sure p):=by
 have hl:=h.len;have ha:=h.a;have hd:=h.dn;refine⟨⟨fun y hy=>?_,?_⟩,fun y hy=>?_,?_,?_,h.e0,by have:=h.e1;show p.e≤_;omega,?_,h.play.snoc hx,by have:=h.wl;show (p.ws.length:Int)≤_;omega,h.wk,fun e=>?_,h.upq⟩
 ·rcases List.mem_append.1 hy with hy|hy
  ·exact h.log.good y hy
  ·rw[List.mem_singleton.1 hy];exact hg
 ·refine List.pairwise_append.2 ⟨h.log.rise,List.pairwise_singleton _ _,fun a ha b hb=>?_⟩;rw[List.mem_singleton.1 hb];have:=h.log.le_last ha;omega
 ·rcases List.mem_append.1 hy with hy|hy
  ·exact h.pos y hy
  ·rw[List.mem_singleton.1 hy];exact h0
 ·simp[OQ];omega
 ·simp only[OQ,List.length_append,List.length_singleton]
  split<;>omega
 ·simp[OQ];omega
 ·have e:p.up=false:=e;rw[hu]at e
  cases e
theorem BN5{p:Ps}{x:Wa}(h:II N p)(hu:p.up=true)(hE:XU p.ws x=0)(hk:x.k=1)(hs:1≤x.s∧x.s≤16):II (N+1) (tN p x):=by
 have hg:DU x.p=true:=by
  unfold XU at hE
  split at hE
  ·rename_i hc;exact absurd hE hc
  ·rename_i hc
   have hc:nY x=0:=by omega
   unfold nY at hc
   cases hb:DU x.p with
   |true=>rfl
   |false=>simp[hk,hb]at hc
 have hw:=h.wl;have hL:jQ p.ws x=p.ws∨jQ p.ws x=p.ws++[x]:=by
  unfold jQ;rw[if_neg (by simp[hE])]
  split
  ·exact .inl rfl
  ·exact .inr rfl
 refine⟨h.log,h.pos,by have:=h.len;show (p.m.length:Int)≤_;omega,h.a,h.e0,by have:=h.e1;show p.e≤_;omega,h.dn,h.play,?_,fun y hy=>?_,fun e=>?_,h.upq⟩
 ·show ((jQ p.ws x).length:Int)≤_;rcases hL with e|e
  ·rw[e];omega
  ·rw[e,List.length_append,List.length_singleton];omega
 ·have hy:y∈jQ p.ws x:=hy;rcases hL with e|e
  ·rw[e]at hy;exact h.wk y hy
  ·rw[e]at hy;rcases List.mem_append.1 hy with hy|hy
   ·exact h.wk y hy
   ·rw[List.mem_singleton.1 hy];exact⟨hs.1,hs.2,hk,hg⟩
 ·have e:p.up=false:=e;rw[hu]at e
  cases e
theorem nZ.more{M:Int}{H G:List AQ}{c:Cl}(h:nZ N H i c)(hM:N≤M)(hH:∀x∈H,x∈G):nZ M G i c:=
 ⟨h.s,by rcases h.z with e|⟨x,hx,e⟩;exact .inl e;exact .inr ⟨x,hH x hx,e⟩,h.asc,Int.le_trans h.len hM,h.sh⟩
theorem LU{p:Pw}(h:NU p)(hn:p.n<300):NU (JU p):=by
 have h1:p.n≤p.n+1:=by omega
 exact⟨by have:=h.n0;show (0:Int)≤p.n+1;omega,by show p.n+1≤300;omega,fun i hi=>(h.s i hi).more h1,h.r,h.one,h.led,h.rup,h.all,h.a,fun i hi=>(h.c i hi).more h1 fun _ hx=>hx,fun x hx=>Int.le_trans (h.cnt x hx) h1,Int.le_trans h.few h1⟩
theorem AX3{r:Nat→Int}{v:Int}(hr:r i≠2)(hv:v≠2):ldP (H6 r i v)=ldP r:=by
 have e:∀k,(H6 r i v k=2↔r k=2):=by
  intro k;by_cases hk:k=i
  ·subst hk;rw[BQ];exact⟨fun h=>absurd h hv,fun h=>absurd h hr⟩
  ·rw[AP _ _ hk]
 unfold ldP;simp only[e]
theorem mV:ldP (fun _=>0)=-1:=by simp[ldP]
theorem AF0{p:Pw}(h:NU p)(hi:i<3)(k:Nat):NU ⟨p.n,H6 p.s i (JO (p.s i) k),if p.r i=2 then fun _=>0 else H6 p.r i 0,p.c,p.D,p.H,p.h⟩:=by
 have hw:=mD ((p.s i).m.drop (p.s i).a) k;simp at hw;have ha:=(h.s i hi).a;have hA:=AJ6 (j:=(p.s i).a+whole ((p.s i).m.drop (p.s i).a) k) h.a hi (by rw[GZ hi];simp) (by rw[GZ hi];show _≤(p.s i).m.length;omega);have hld:(awP p).ld=some i↔p.r i=2:=by
  rcases fH p.r with⟨e,hno⟩|⟨b,hb,e,hr⟩
  ·rw[A44 e];exact⟨fun h=>by simp at h,fun h=>absurd h (hno i hi)⟩
  ·rw[(ZO h hb hr).1];constructor
   ·intro e;cases e;exact hr
   ·intro e;rw[h.one b i hb hi hr e]
 refine⟨h.n0,h.n1,fun j hj=>?_,fun j hj=>?_,fun j l hj hl=>?_,fun hn j hj=>?_,fun j hj=>?_,fun b hb=>?_,?_,h.c,h.cnt,h.few⟩
 ·by_cases e:j=i
  ·subst e;simp only[BQ];exact mO (h.s j hj) k
  ·simp only[AP _ _ e];exact h.s j hj
 ·by_cases e2:p.r i=2
  ·simp[e2]
  ·simp only[if_neg e2];by_cases e:j=i
   ·subst e;simp[BQ]
   ·rw[AP _ _ e];exact h.r j hj
 ·by_cases e2:p.r i=2
  ·simp[e2]
  ·simp only[if_neg e2];by_cases e:j=i
   ·subst e;simp[BQ]
   ·by_cases e':l=i
    ·subst e';simp[BQ]
    ·rw[AP _ _ e,AP _ _ e'];exact h.one j l hj hl
 ·by_cases e2:p.r i=2
  ·simp[e2]
  ·simp only[if_neg e2]at hn⊢;rw[AX3 e2 (by decide)]at hn;by_cases e:j=i
   ·subst e;simp[BQ]
   ·rw[AP _ _ e];exact h.led hn j hj
 ·by_cases e2:p.r i=2
  ·simp[e2]
  ·simp only[if_neg e2];by_cases e:j=i
   ·subst e;simp[BQ]
   ·rw[AP _ _ e,AP _ _ e];exact h.rup j hj
 ·by_cases e2:p.r i=2
  ·simp[e2]
  ·simp only[if_neg e2];by_cases e:b=i
   ·subst e;simp[BQ]
   ·rw[AP _ _ e,AP _ _ e];exact h.all b hb
 ·rw[show awP ⟨p.n,H6 p.s i (JO (p.s i) k),if p.r i=2 then fun _=>0 else H6 p.r i 0,p.c,p.D,p.H,p.h⟩=G7 (awP p) i ((p.s i).a+whole ((p.s i).m.drop (p.s i).a) k)from ?_]
  ·exact hA
  ·refine jU (fun j=>?_) ?_ (fun j=>?_) rfl rfl
   ·by_cases hj:j<3
    ·rw[GZ hj];by_cases e:j=i
     ·subst e;simp only[G7,WR,BQ,GZ hj,JO]
     ·simp only[G7,MW _ _ e,AP _ _ e,GZ hj]
    ·rw[RS hj];simp only[G7,MW _ _ (show j≠i by omega),RS hj]
   ·by_cases e2:p.r i=2
    ·simp only[G7,if_pos (hld.2 e2)];exact A44 (by simp only[if_pos e2];exact mV)
    ·simp only[G7,if_neg (fun e=>e2 (hld.1 e))];simp only[awP,if_neg e2,AX3 e2 (show (0:Int)≠2 by decide),ldN]
   ·show (decide (j<3)&&decide ((if p.r i=2 then(fun _=>(0:Int))else H6 p.r i 0) j≠0))=(if(awP p).ld=some i then false else if j=i then false else(decide (j<3)&&decide (p.r j≠0)));by_cases e2:p.r i=2
    ·rw[if_pos e2,if_pos (hld.2 e2)];simp
    ·rw[if_neg e2,if_neg (fun e=>e2 (hld.1 e))];by_cases e:j=i
     ·subst e;rw[if_pos rfl,BQ];simp
     ·rw[if_neg e,AP _ _ e]
theorem BX5{p:Pw}(h:NU p)(hi:i<3)(hu:(p.s i).up=false):NU ⟨p.n,H6 p.s i (upP (p.s i)),p.r,p.c,p.D,p.H,p.h⟩:=by
 have hr0:p.r i=0:=by
  by_cases e:p.r i=0
  ·exact e
  ·rw[h.rup i hi e]at hu;cases hu
 have hA:=C41 h.a i;refine⟨h.n0,h.n1,fun j hj=>?_,h.r,h.one,h.led,fun j hj hj0=>?_,fun b hb hb2=>?_,?_,h.c,h.cnt,h.few⟩
 ·by_cases e:j=i
  ·subst e;simp only[BQ];exact C96 (h.s j hj)
  ·simp only[AP _ _ e];exact h.s j hj
 ·by_cases e:j=i
  ·subst e;exact absurd hr0 hj0
  ·simp only[AP _ _ e];exact h.rup j hj hj0
 ·by_cases e:b=i
  ·subst e;rw[hr0]at hb2;cases hb2
  ·simp only[AP _ _ e];exact h.all b hb hb2
 ·rw[show awP ⟨p.n,H6 p.s i (upP (p.s i)),p.r,p.c,p.D,p.H,p.h⟩=upA (awP p) i from ?_]
  ·exact hA
  ·refine jU (fun j=>?_) rfl (fun j=>rfl) rfl rfl;by_cases hj:j<3
   ·rw[GZ hj];by_cases e:j=i
    ·subst e;simp only[upA,WR,BQ,GZ hj,upP,((h.s j hj).down hu).1]
    ·simp only[upA,MW _ _ e,AP _ _ e,GZ hj]
   ·rw[RS hj];simp only[upA,MW _ _ (show j≠i by omega),RS hj]
theorem fM:∀ (l:List Nat) (s:Nat→Ps) (k:Nat),l.Nodup→(IK s l).1 k=if k∈l then aQ k (s k)else s k
 |[],s,k,_=>by simp[IK]
 |i::l,s,k,hn=>by
  obtain⟨h1,h2⟩:=List.nodup_cons.1 hn;unfold IK;rw[fM l _ k h2];by_cases e:k=i
  ·subst e;simp[h1,BQ]
  ·simp only[AP _ _ e,List.mem_cons,e,false_or]
theorem FW{s:Nat→Ps}:k∈FH s↔k<3∧(s k).up=true:=by
 simp only[FH,List.mem_filter,List.mem_cons,List.not_mem_nil,or_false];constructor
 ·rintro⟨h,hu⟩;exact⟨by omega,hu⟩
 ·rintro⟨h,hu⟩;exact⟨by omega,hu⟩
theorem QF(s:Nat→Ps):(FH s).Nodup:=(show [0,1,2].Nodup by decide).filter _
theorem mW(p:Pw)(d:Dd):(wL p d).Nodup:=(show [0,1,2].Nodup by decide).filter _
theorem ZP{p:Pw}{d:Dd}:k∈wL p d↔k<3∧wS p d k=true:=by
 simp only[wL,List.mem_filter,List.mem_cons,List.not_mem_nil,or_false];constructor
 ·rintro⟨h,hu⟩;exact⟨by omega,hu⟩
 ·rintro⟨h,hu⟩;exact⟨by omega,hu⟩
theorem A46(ks:List Key):∀n,n≤ks.length→∀j,j<n→(ks.getD j (0,0,0)).2.2≤(ks.getD (IG ks n) (0,0,0)).2.2
 |0,_,j,hj=>by omega
 |n+1,hn,j,hj=>by
  have ih:=A46 ks n (by omega);unfold IG;by_cases hb:bet (ks.getD n (0,0,0)) (ks.getD (IG ks n) (0,0,0))=true
  ·rw[if_pos hb];have hle:(ks.getD (IG ks n) (0,0,0)).2.2≤(ks.getD n (0,0,0)).2.2:=by
    simp only[bet,Bool.or_eq_true,Bool.and_eq_true,decide_eq_true_eq]at hb;omega
   by_cases e:j=n
   ·subst e;exact Int.le_refl _
   ·exact Int.le_trans (ih j (by omega)) hle
  ·rw[if_neg hb];by_cases e:j=n
   ·subst e;simp only[bet,Bool.or_eq_true,Bool.and_eq_true,decide_eq_true_eq]at hb;omega
   ·exact ih j (by omega)
theorem Y0(s:Nat→Ps):(ML s).length=(FH s).length:=by simp[ML]
theorem A47{s:Nat→Ps}(hj:j<(FH s).length):(ML s).getD j (0,0,0)=((((FH s).getD j 0:Nat):Int),(s ((FH s).getD j 0)).e,DL (s ((FH s).getD j 0)).m):=by
 simp[ML,List.getD_eq_getElem?_getD,List.getElem?_eq_getElem hj]
theorem AX4{s:Nat→Ps}(h:2≤(FH s).length):eB s∈FH s:=by
 have hl:=TW (ML s) (FH s).length;unfold eB;rw[List.getD_eq_getElem?_getD,List.getElem?_eq_getElem (show IG (ML s) (FH s).length<(FH s).length by omega)];exact List.getElem_mem _
theorem C99{s:Nat→Ps}(h:2≤(FH s).length)(hk:k∈FH s):DL (s k).m≤DL (s (eB s)).m:=by
 have hl:=TW (ML s) (FH s).length;obtain⟨j,hj,rfl⟩:=List.getElem_of_mem hk;have hm:=A46 (ML s) (FH s).length (by rw[Y0];exact Nat.le_refl _) j hj;rw[A47 hj,A47 (by omega)]at hm;have e:(FH s).getD j 0=(FH s)[j]:=by rw[List.getD_eq_getElem?_getD,List.getElem?_eq_getElem hj];rfl
 rw[e]at hm;exact hm
theorem CJ2{s:Nat→Ps}(hk:k∈FH s):(s k).e<eN s:=by
 have:=(BW4 (ks:=ML s) (k:=((k:Int),(s k).e,DL (s k).m)) (List.mem_map.2 ⟨k,hk,rfl⟩)).1;unfold eN;simp only at this;omega
theorem CA0{s:Nat→Ps}(h:2≤(FH s).length)(b:Nat):∃c,c<3∧b≠c∧(s c).up=true:=by
 have hn:=QF s
 match he:FH s,h,hn with
 |x::y::r,_,hn=>
  have hx:x∈FH s:=by rw[he];simp
  have hy:y∈FH s:=by rw[he];simp
  have hxy:x≠y:=by
   have:=(List.nodup_cons.1 hn).1;rintro rfl;exact this (by simp)
  by_cases e:b=x
  ·exact⟨y,(FW.1 hy).1,by omega,(FW.1 hy).2⟩
  ·exact⟨x,(FW.1 hx).1,e,(FW.1 hx).2⟩
theorem BF7{p:Pw}(h:NU p)(hx:x∈p.H):DK x.z≤p.n:=by
 obtain⟨i,_,hi,_,_,h1,_⟩:=h.a.two x hx;rw[GZ hi]at h1;exact Int.le_trans h1 (h.s i hi).e1
theorem AF1{p:Pw}(h:NU p)(hi:i<3):DK (DL (p.s i).m)≤p.n:=by
 by_cases e:(p.s i).m=[]
 ·rw[e,SE,QS];exact h.n0
 ·obtain⟨y,hy,hz⟩:=WQ e;rw[←hz];exact BF7 h (h.a.hist i hi y (by rw[GZ hi];exact hy))
theorem BX6{p:Pw}(h:NU p):eN p.s≤p.n+1∧1≤eN p.s:=by
 have h1:=AW4 (ks:=ML p.s) p.n h.n0 (fun k hk=>by
  obtain⟨i,hi,rfl⟩:=List.mem_map.1 hk;have hi:=(FW.1 hi).1;exact⟨(h.s i hi).e1,AF1 h hi⟩)
 have h2:=fD (ML p.s);unfold eN;omega
theorem xX{H:List AQ}{c:Nat→Cl}(h:nZ N H i (c i))(l:List Nt):nZ N H i (VZ c l i):=by
 refine⟨h.s,h.z,BE7 h.asc,?_,fun x hx=>h.sh x (List.mem_filter.1 hx).1⟩;have h1:((VZ c l i).es).length≤(c i).es.length:=List.length_filter_le _ _;have:=h.len;omega
theorem AX5{s:Nat→Ps}(h:AI1 s=false)(hk:k∈FH s):(s k).dn≤G5 (s k).m (s (eB s)).m:=by
 unfold AI1 at h;have:=List.any_eq_false.1 h k hk;simp at this;exact this
theorem jV{p:Pw}(h:NU p)(hn:p.n<300)(h2:¬ (FH p.s).length<2)(hb:AI1 p.s=false):
  NU ⟨p.n+1,(IK (eS p.s) (FH p.s)).1,eR p.s,VZ p.c (IK (eS p.s) (FH p.s)).2,p.D,p.H,p.h⟩:=by
 have hB:=AX4 (s:=p.s) (by omega);obtain⟨hb3,hbu⟩:=FW.1 hB;obtain⟨c,hc3,hbc,hcu⟩:=CA0 (s:=p.s) (by omega) (eB p.s);have hN:=BX6 h;have hn0:=h.n0;have BF8:∀k,k<3→(p.s k).up=true→(IK (eS p.s) (FH p.s)).1 k=aQ k (rU (eN p.s) (p.s (eB p.s)).m (p.s k)):=fun k hk hu=>by
  rw[fM _ _ _ (QF _),if_pos (FW.2 ⟨hk,hu⟩),eS,if_pos ⟨hu,hk⟩]
 have CA1:∀k,k<3→(p.s k).up≠true→(IK (eS p.s) (FH p.s)).1 k=p.s k:=fun k hk hu=>by
  rw[fM _ _ _ (QF _),if_neg (fun hm=>hu (FW.1 hm).2),eS,if_neg (fun hm=>hu hm.1)]
 have rb:eR p.s (eB p.s)=2:=by rw[eR,if_pos rfl]
 have rno:∀k,k≠eB p.s→eR p.s k≠2:=fun k hk=>by rw[eR,if_neg hk];split<;>decide
 have one:∀i j,i<3→j<3→eR p.s i=2→eR p.s j=2→i=j:=fun i j _ _ h1 h2=>by
  by_cases e1:i=eB p.s
  ·by_cases e2:j=eB p.s
   ·rw[e1,e2]
   ·exact absurd h2 (rno j e2)
  ·exact absurd h1 (rno i e1)
 have hld:=aS hb3 rb one;have hA:=AJ7 (e:=eN p.s) h.a hb3 hc3 hbc (by rw[GZ hb3];exact hbu) (by rw[GZ hc3];exact hcu) (fun k hk hu=>by
  rw[GZ hk]at hu;rw[GZ hk,GZ hb3];exact C99 (by omega) (FW.2 ⟨hk,hu⟩)) (fun k hk hu=>by
  rw[GZ hk]at hu⊢;exact CJ2 (FW.2 ⟨hk,hu⟩))
 have ok:∀k,k<3→(p.s k).up=true→II (p.n+1) (rU (eN p.s) (p.s (eB p.s)).m (p.s k)):=fun k hk hu=>
  C97 ((h.s k hk).more (by omega)) ((h.s _ hb3).more (by omega)) (by omega) hN.1 (Nat.le_trans (AX5 hb (FW.2 ⟨hk,hu⟩)) (TN _ _).2)
 refine⟨by show (0:Int)≤p.n+1;omega,by show p.n+1≤300;omega,fun k hk=>?_,fun k hk=>?_,one,fun e=>?_,fun k hk hk0=>?_,fun b hb hb2=>?_,?_,fun i hi=>xX ((h.c i hi).more (by show p.n≤p.n+1;omega) fun _ hx=>hx) _,fun x hx=>by have:=h.cnt x hx;show _≤p.n+1;omega,by have:=h.few;show (p.D.length:Int)≤p.n+1;omega⟩
 ·by_cases hu:(p.s k).up=true
  ·simp only[BF8 k hk hu];exact BN4 (ok k hk hu) rfl
  ·simp only[CA1 k hk hu];exact(h.s k hk).more (by omega)
 ·show eR p.s k=0∨eR p.s k=1∨eR p.s k=2;unfold eR
  split
  ·omega
  ·split<;>omega
 ·exfalso;have e:ldP (eR p.s)=-1:=e;rw[hld]at e;omega
 ·by_cases hu:(p.s k).up=true
  ·simp only[BF8 k hk hu];rfl
  ·exfalso;have hk0:eR p.s k≠0:=hk0;unfold eR at hk0
   split at hk0
   ·rename_i e;rw[e]at hu;exact hu hbu
   ·rw[if_neg (fun hm=>hu hm.1)]at hk0;exact hk0 rfl
 ·have e:b=eB p.s:=one b _ hb hb3 hb2 rb;subst e;simp only[BF8 _ hb3 hbu];rfl
 ·rw[show awP ⟨p.n+1,(IK (eS p.s) (FH p.s)).1,eR p.s,VZ p.c (IK (eS p.s) (FH p.s)).2,p.D,p.H,p.h⟩=PL (awP p) (eB p.s) (eN p.s)from ?_]
  ·exact hA
  ·refine jU (fun k=>?_) ?_ (fun k=>?_) rfl rfl
   ·by_cases hk:k<3
    ·rw[GZ hk];by_cases hu:(p.s k).up=true
     ·simp only[BF8 k hk hu,PL,GZ hk,hu,if_true,GZ hb3,aQ,rU]
     ·simp only[CA1 k hk hu,PL,GZ hk,hu,if_false,Bool.false_eq_true]
    ·rw[RS hk];simp only[PL,RS hk,Bool.false_eq_true,if_false]
   ·simp only[awP,hld,PL,ldN];rw[if_neg (by omega)];simp
   ·by_cases hk:k<3
    ·simp only[awP,PL,hk,decide_true,Bool.true_and,if_true]
     cases hu:(p.s k).up with
     |true=>
      have:eR p.s k≠0:=by unfold eR;split;decide;rw[if_pos ⟨hu,hk⟩];decide
      simp[this]
     |false=>
      have e:k≠eB p.s:=by rintro rfl;rw[hbu]at hu;cases hu
      have:eR p.s k=0:=by unfold eR;rw[if_neg e,if_neg (by simp[hu])]
      simp[this]
    ·simp only[awP,PL,hk,decide_false,Bool.false_and,if_false]
end Go.Proofs.YtodnhndkghdinaaGreatDoor
