/-
  Part.
-/
import Derived.Test.YtefephchbjfdfaaGreatDoorLMS
import Derived.Test.YtefephchbjfdfaaGreatDoorLMT
set_option maxRecDepth 20000
set_option maxHeartbeats 8000000
namespace Go.Proofs.YtefephchbjfdfaaGreatDoor
open Go.RowKit
open _root_.Nat renaming le_refl->AA,zero_le->AZ
open _root_.List renaming getElem?_eq_getElem->AO,length_append->AP,getElem?_eq_some_iff->AV,take_of_length_le->BO,mem_cons->BR,mem_append->D8,pairwise_append->DN,take_length->DX,mem_filter->EK,mem_map->F5,pairwise_cons->FM
open _root_.Bool renaming and_eq_true->DC
open _root_.Option renaming some->G8
variable{i j b c k:Nat}{l m H:List GV}{x:GV}{e N:Int}{T S:Nat->Bool}
structure Ab where
 up:Bool
 m:List GV
 a:Nat
 e:Int
structure Aw where
 s:Nat->Ab
 ld:Option Nat
 f:Nat->Bool
 D:List GV
 H:List GV
def BW3(l:List GV):Prop:=l.Pairwise fun x y=>x.z<y.z
theorem BW4(hi:i<3)(hj:j<3)(hb:b<3)(hc:c<3)(h1:i≠j)(h2:b≠c):i=b\/i=c\/j=b\/j=c:=by omega
theorem aI(h:l≠[]):∃y∈l,y.z=J7 l:=by
 rcases List.eq_nil_or_concat l with rfl|⟨l',x,rfl⟩
 .exact absurd rfl h
 .exact⟨x,by simp,by rw[List.concat_eq_append,UE]⟩
theorem A73(h:BW3 l)(hx:x∈l):x.z<=J7 l:=by
 rcases List.eq_nil_or_concat l with rfl|⟨l',y,rfl⟩
 .simp at hx
 .rw[List.concat_eq_append]at h hx⊢;rw[UE];rcases D8.1 hx with hx|hx
  .exact Int.le_of_lt ((DN.1 h).2.2 x hx y (by simp))
  .simp at hx;rw[hx];exact Int.le_refl _
theorem BF3(h:BW3 l){y:GV}(hx:x∈l)(hy:y∈l.take j)(hz:x.z<=y.z):x∈l.take j:=by
 rw[<-List.take_append_drop j l]at hx h;rcases D8.1 hx with hx|hx
 .exact hx
 .have:=(DN.1 h).2.2 y hy x hx;omega
theorem CT6{k:List GV}(hl:BW3 l)(hk:BW3 k)(h:∀x∈l,x∈k):l.Sublist k:=by
 induction k generalizing l with
 |nil=>
  cases l with
  |nil=>exact .slnil
  |cons x l=>exact absurd (h x (by simp)) (by simp)
 |cons y k ih=>
  have hk':=(FM.1 hk)
  cases l with
  |nil=>exact List.nil_sublist _
  |cons x l=>
   have hl':=FM.1 hl;rcases BR.1 (h x (by simp))with rfl|hxk
   .refine(ih hl'.2 hk'.2 (fun z hz=>?_)).cons_cons x;rcases BR.1 (h z (by simp[hz]))with rfl|hz'
    .have:=hl'.1 z hz;omega
    .exact hz'
   .refine(ih hl hk'.2 (fun z hz=>?_)).cons y;rcases BR.1 (h z hz)with rfl|hz'
    .rcases BR.1 hz with rfl|hzl
     .exact hxk
     .have h1:=hl'.1 z hzl;have h2:=hk'.1 x hxk;omega
    .exact hz'
structure A74(w:Aw):Prop where
 asc:∀i,i<3->BW3 (w.s i).m
 le:∀i,i<3->(w.s i).a<=(w.s i).m.length
 hist:∀i,i<3->∀x∈(w.s i).m,x∈w.H
 one:∀x∈w.H,∀y∈w.H,x.z=y.z->x=y
 pos:∀x∈w.H,KP x.z=true/\0<x.z
 two:∀x∈w.H,∃i j,i<3/\j<3/\i≠j/\J6 x.z<=(w.s i).e/\J6 x.z<=(w.s j).e
 CF1:∀k,k<3->∃i j,i<3/\j<3/\i≠j/\(w.s k).e<=(w.s i).e/\(w.s k).e<=(w.s j).e
 lead:∀b,w.ld=G8 b->b<3/\(w.s b).up=true/\w.f b=true/\(∀k,k<3->(w.s k).e<=(w.s b).e)/\(∀x∈w.H,J6 x.z=(w.s b).e->x∈(w.s b).m)/\(∀i,i<3->w.f i=true->(w.s i).m=(w.s b).m/\(w.s i).up=true)/\∀x∈w.D,x∈(w.s b).m
 dh:∀x∈w.D,x∈w.H
 CG5:BW3 w.D
 all:∀x∈w.D,∀i,i<3->∀y∈(w.s i).m,x.z<=y.z->x∈(w.s i).m
 safe:∀x∈w.D,∃i j,i<3/\j<3/\i≠j/\x∈(w.s i).m.take (w.s i).a/\x∈(w.s j).m.take (w.s j).a
def put(s:Nat->Ab)(i:Nat)(v:Ab):Nat->Ab:=fun k=>if k=i then v else s k
theorem aJ(s:Nat->Ab)(i:Nat)(v:Ab):put s i v i=v:=by rw[put,if_pos rfl]
theorem RQ(s:Nat->Ab)(v:Ab)(h:k≠i):put s i v k=s k:=by rw[put,if_neg h]
def LC(w:Aw)(i j:Nat):Aw:=⟨put w.s i ⟨false,(w.s i).m.take j,j,(w.s i).e⟩,if w.ld=G8 i then none else w.ld,fun k=>if w.ld=G8 i then false else if k=i then false else w.f k,w.D,w.H⟩
theorem AT8{w:Aw}(h:A74 w)(hi:i<3)(h1:(w.s i).a<=j)(h2:j<=(w.s i).m.length):A74 (LC w i j):=by
 have sm:∀k,∀x∈((LC w i j).s k).m,x∈(w.s k).m:=by
  intro k x hx;by_cases hk:k=i
  .subst hk;rw[LC]at hx;simp only[aJ]at hx;exact List.mem_of_mem_take hx
  .rw[LC]at hx;simp only[RQ _ _ hk]at hx;exact hx
 have se:∀k,((LC w i j).s k).e=(w.s k).e:=by
  intro k;by_cases hk:k=i
  .subst hk;simp only[LC,aJ]
  .simp only[LC,RQ _ _ hk]
 have st:∀k,∀x∈(w.s k).m.take (w.s k).a,x∈((LC w i j).s k).m.take ((LC w i j).s k).a:=by
  intro k x hx;by_cases hk:k=i
  .subst hk;simp only[LC,aJ];rw[List.take_take,Nat.min_self];exact(List.take_sublist_take_left h1).mem hx
  .simp only[LC,RQ _ _ hk];exact hx
 refine⟨?_,?_,fun k hk x hx=>h.hist k hk x (sm k x hx),h.one,h.pos,?_,?_,?_,h.dh,h.CG5,?_,?_⟩
 .intro k hk;by_cases e:k=i
  .subst e;simp only[LC,aJ];exact(h.asc k hk).sublist (List.take_sublist _ _)
  .simp only[LC,RQ _ _ e];exact h.asc k hk
 .intro k hk;by_cases e:k=i
  .subst e;simp only[LC,aJ,List.length_take];omega
  .simp only[LC,RQ _ _ e];exact h.le k hk
 .intro x hx;obtain⟨p,q,a1,a2,a3,a4,a5⟩:=h.two x hx;exact⟨p,q,a1,a2,a3,by rw[se];exact a4,by rw[se];exact a5⟩
 .intro k hk;obtain⟨p,q,a1,a2,a3,a4,a5⟩:=h.CF1 k hk;exact⟨p,q,a1,a2,a3,by rw[se,se];exact a4,by rw[se,se];exact a5⟩
 .intro b hb;have hb':(if w.ld=G8 i then none else w.ld)=G8 b:=hb;by_cases e:w.ld=G8 i
  .rw[if_pos e]at hb';cases hb'
  .rw[if_neg e]at hb';obtain⟨a1,a2,a3,a4,a5,a6,a7⟩:=h.lead b hb';have hbi:b≠i:=by rintro rfl;exact e hb'
   refine⟨a1,by simp only[LC,RQ _ _ hbi];exact a2,by simp only[LC,if_neg e,if_neg hbi];exact a3,fun k hk=>by rw[se,se];exact a4 k hk,fun x hx=>by rw[se];simp only[LC,RQ _ _ hbi];exact a5 x hx,fun k hk hf=>?_,by simp only[LC,RQ _ _ hbi];exact a7⟩;by_cases hki:k=i
   .simp only[LC,if_neg e,if_pos hki]at hf;cases hf
   .simp only[LC,if_neg e,if_neg hki]at hf;simp only[LC,RQ _ _ hbi,RQ _ _ hki];exact a6 k hk hf
 .intro x hx k hk y hy hz;by_cases e:k=i
  .subst e;simp only[LC,aJ]at hy⊢;exact BF3 (h.asc k hk) (h.all x hx k hk y (List.mem_of_mem_take hy) hz) hy hz
  .simp only[LC,RQ _ _ e]at hy⊢;exact h.all x hx k hk y hy hz
 .intro x hx;obtain⟨p,q,a1,a2,a3,a4,a5⟩:=h.safe x hx;exact⟨p,q,a1,a2,a3,st p x a4,st q x a5⟩
def upA(w:Aw)(i:Nat):Aw:=⟨put w.s i ⟨true,(w.s i).m,(w.s i).a,(w.s i).e⟩,w.ld,w.f,w.D,w.H⟩
theorem CG6{w:Aw}(h:A74 w)(i:Nat):A74 (upA w i):=by
 have sm:∀k,((upA w i).s k).m=(w.s k).m/\((upA w i).s k).a=(w.s k).a/\((upA w i).s k).e=(w.s k).e/\((w.s k).up=true->((upA w i).s k).up=true):=by
  intro k;by_cases e:k=i
  .subst e;simp only[upA,aJ];exact⟨trivial,trivial,trivial,fun _=>trivial⟩
  .simp only[upA,RQ _ _ e];exact⟨trivial,trivial,trivial,fun h=>h⟩
 refine⟨fun k hk=>by rw[(sm k).1];exact h.asc k hk,fun k hk=>by rw[(sm k).1,(sm k).2.1];exact h.le k hk,fun k hk=>by rw[(sm k).1];exact h.hist k hk,h.one,h.pos,fun x hx=>?_,fun k hk=>?_,fun b hb=>?_,h.dh,h.CG5,fun x hx k hk=>by rw[(sm k).1];exact h.all x hx k hk,fun x hx=>?_⟩
 .obtain⟨p,q,a1,a2,a3,a4,a5⟩:=h.two x hx;exact⟨p,q,a1,a2,a3,by rw[(sm p).2.2.1];exact a4,by rw[(sm q).2.2.1];exact a5⟩
 .obtain⟨p,q,a1,a2,a3,a4,a5⟩:=h.CF1 k hk;exact⟨p,q,a1,a2,a3,by rw[(sm p).2.2.1,(sm k).2.2.1];exact a4,by rw[(sm q).2.2.1,(sm k).2.2.1];exact a5⟩
 .obtain⟨a1,a2,a3,a4,a5,a6,a7⟩:=h.lead b hb;refine⟨a1,(sm b).2.2.2 a2,a3,fun k hk=>by rw[(sm k).2.2.1,(sm b).2.2.1];exact a4 k hk,fun x hx=>by rw[(sm b).2.2.1,(sm b).1];exact a5 x hx,fun k hk hf=>?_,by rw[(sm b).1];exact a7⟩;rw[(sm k).1,(sm b).1];exact⟨(a6 k hk hf).1,(sm k).2.2.2 (a6 k hk hf).2⟩
 .obtain⟨p,q,a1,a2,a3,a4,a5⟩:=h.safe x hx;exact⟨p,q,a1,a2,a3,by rw[(sm p).1,(sm p).2.1];exact a4,by rw[(sm q).1,(sm q).2.1];exact a5⟩
def UF(w:Aw)(b:Nat)(e:Int):Aw:=⟨fun k=>if(w.s k).up=true then⟨true,(w.s b).m,(w.s b).m.length,e⟩else w.s k,G8 b,fun k=>(w.s k).up,w.D,w.H⟩
theorem AT9{w:Aw}(h:A74 w)(hb:b<3)(hc:c<3)(hbc:b≠c)(ub:(w.s b).up=true)(uc:(w.s c).up=true)(hl:∀k,k<3->(w.s k).up=true->J7 (w.s k).m<=J7 (w.s b).m)(he:∀k,k<3->(w.s k).up=true->(w.s k).e<e):A74 (UF w b e):=by
 have su:∀k,(w.s k).up=true->(UF w b e).s k=⟨true,(w.s b).m,(w.s b).m.length,e⟩:=fun k hk=>by simp only[UF,if_pos hk]
 have sd:∀k,(w.s k).up≠true->(UF w b e).s k=w.s k:=fun k hk=>by simp only[UF,if_neg hk]
 have top:∀k,k<3->(w.s k).e<e:=by
  intro k hk;obtain⟨i,j,a1,a2,a3,a4,a5⟩:=h.CF1 k hk;rcases BW4 a1 a2 hb hc a3 hbc with r|r|r|r
  .have:=he i a1 (by rw[r];exact ub);omega
  .have:=he i a1 (by rw[r];exact uc);omega
  .have:=he j a2 (by rw[r];exact ub);omega
  .have:=he j a2 (by rw[r];exact uc);omega
 have ge:∀k,k<3->(w.s k).e<=((UF w b e).s k).e:=by
  intro k hk;by_cases u:(w.s k).up=true
  .rw[su k u];have:=top k hk;show (w.s k).e<=e;omega
  .rw[sd k u];exact Int.le_refl _
 have sub:∀x∈w.D,x∈(w.s b).m:=by
  intro x hx;have key:∀i,i<3->(w.s i).up=true->x∈(w.s i).m->x∈(w.s b).m:=by
   intro i hi ui hxi;have h1:=A73 (h.asc i hi) hxi;have h2:=hl i hi ui;have h3:=(h.pos x (h.dh x hx)).2;have hne:(w.s b).m≠[]:=by
    intro h0;rw[h0,WS]at h2;omega
   obtain⟨y,hy,hyz⟩:=aI hne;exact h.all x hx b hb y hy (by omega)
  obtain⟨i,j,a1,a2,a3,a4,a5⟩:=h.safe x hx;have b4:=List.mem_of_mem_take a4;have b5:=List.mem_of_mem_take a5;rcases BW4 a1 a2 hb hc a3 hbc with r|r|r|r
  .exact key i a1 (by rw[r];exact ub) b4
  .exact key i a1 (by rw[r];exact uc) b4
  .exact key j a2 (by rw[r];exact ub) b5
  .exact key j a2 (by rw[r];exact uc) b5
 refine⟨?_,?_,?_,h.one,h.pos,?_,?_,?_,h.dh,h.CG5,?_,?_⟩
 .intro k hk;by_cases u:(w.s k).up=true
  .rw[su k u];exact h.asc b hb
  .rw[sd k u];exact h.asc k hk
 .intro k hk;by_cases u:(w.s k).up=true
  .rw[su k u];exact AA _
  .rw[sd k u];exact h.le k hk
 .intro k hk;by_cases u:(w.s k).up=true
  .rw[su k u];exact h.hist b hb
  .rw[sd k u];exact h.hist k hk
 .intro x hx;obtain⟨i,j,a1,a2,a3,a4,a5⟩:=h.two x hx;exact⟨i,j,a1,a2,a3,Int.le_trans a4 (ge i a1),Int.le_trans a5 (ge j a2)⟩
 .intro k hk;by_cases u:(w.s k).up=true
  .exact⟨b,c,hb,hc,hbc,by rw[su k u,su b ub];exact Int.le_refl _,by rw[su k u,su c uc];exact Int.le_refl _⟩
  .obtain⟨i,j,a1,a2,a3,a4,a5⟩:=h.CF1 k hk;exact⟨i,j,a1,a2,a3,by rw[sd k u];exact Int.le_trans a4 (ge i a1),by rw[sd k u];exact Int.le_trans a5 (ge j a2)⟩
 .intro b' hb';have hbb:G8 b=G8 b':=hb'
  cases hbb
  refine⟨hb,by rw[su b ub],ub,fun k hk=>?_,fun x hx hz=>?_,fun k _ hf=>?_,by rw[su b ub];exact sub⟩
  .rw[su b ub];by_cases u:(w.s k).up=true
   .rw[su k u];exact Int.le_refl _
   .rw[sd k u];have:=top k hk;show (w.s k).e<=e;omega
  .rw[su b ub]at hz;obtain⟨i,_,a1,_,_,a4,_⟩:=h.two x hx;have:=top i a1;have hz':J6 x.z=e:=hz;omega
  .have u:(w.s k).up=true:=hf;rw[su k u,su b ub];exact⟨rfl,rfl⟩
 .intro x hx k hk y hy hz;by_cases u:(w.s k).up=true
  .rw[su k u];exact sub x hx
  .rw[sd k u]at hy⊢;exact h.all x hx k hk y hy hz
 .intro x hx;exact⟨b,c,hb,hc,hbc,by rw[su b ub];simp only[DX];exact sub x hx,by rw[su c uc];simp only[DX];exact sub x hx⟩
theorem AU0{a b:Int}(ha:KP a=true)(hb:KP b=true)(h:J6 a<J6 b):a<b:=by
 rw[J6,if_pos ha,J6,if_pos hb]at h;omega
def MG(w:Aw)(T S:Nat->Bool)(x:GV)(k:Nat):Ab:=if T k=true then⟨(w.s k).up,(w.s k).m++[x],if S k=true then(w.s k).m.length+1 else(w.s k).a,(w.s k).e⟩else w.s k
def AG5(w:Aw)(b:Nat)(T S:Nat->Bool)(x:GV):Aw:=⟨MG w T S x,G8 b,T,w.D++[x],w.H++[x]⟩
def BF4(w:Aw)(T S:Nat->Bool)(x:GV):Aw:=⟨MG w T S x,none,fun _=>false,w.D,w.H++[x]⟩
structure WrA(w:Aw)(b:Nat)(T S:Nat->Bool)(x:GV):Prop where
 ld:w.ld=G8 b
 tb:T b=true
 tf:∀i,i<3->T i=true->w.f i=true
 st:∀i,S i=true->T i=true
 z:J7 (w.s b).m<x.z
 g:KP x.z=true/\0<x.z
 e:J6 x.z=(w.s b).e
theorem VG{w:Aw}(h:A74 w)(r:WrA w b T S x):∀y∈w.H,y.z<x.z:=by
 intro y hy;obtain⟨a1,_,_,a4,a5,_,_⟩:=h.lead b r.ld;by_cases hz:J6 y.z=(w.s b).e
 .have:=A73 (h.asc b a1) (a5 y hy hz);have:=r.z;omega
 .obtain⟨i,_,c1,_,_,c4,_⟩:=h.two y hy;have:=a4 i c1;exact AU0 (h.pos y hy).1 r.g.1 (by rw[r.e];omega)
theorem A75{w:Aw}(h:A74 w)(r:WrA w b T S x)(D':List GV)(hD:∀y∈D',y∈w.D\/y=x)(hasc:BW3 D')(hS:x∈D'->∃c,c<3/\c≠b/\S c=true/\S b=true):
  ∀ld f,(ld=none\/ld=G8 b/\f=T)->A74 ⟨MG w T S x,ld,f,D',w.H++[x]⟩:=by
 intro ld f hld;obtain⟨a1,a2,a3,a4,a5,a6,a7⟩:=h.lead b r.ld;have above:=VG h r;have ty:∀k,T k=true->MG w T S x k=⟨(w.s k).up,(w.s k).m++[x],if S k=true then(w.s k).m.length+1 else(w.s k).a,(w.s k).e⟩:=fun k hk=>by rw[MG,if_pos hk]
 have tn:∀k,T k≠true->MG w T S x k=w.s k:=fun k hk=>by rw[MG,if_neg hk]
 have te:∀k,(MG w T S x k).e=(w.s k).e:=fun k=>by
  by_cases hk:T k=true
  .rw[ty k hk]
  .rw[tn k hk]
 have tm:∀k,∀y∈(MG w T S x k).m,y∈(w.s k).m\/y=x/\T k=true:=fun k y hy=>by
  by_cases hk:T k=true
  .rw[ty k hk]at hy;rcases D8.1 hy with hy|hy
   .exact .inl hy
   .exact .inr ⟨by simpa using hy,hk⟩
  .rw[tn k hk]at hy;exact .inl hy
 have mt:∀k,∀y∈(w.s k).m,y∈(MG w T S x k).m:=fun k y hy=>by
  by_cases hk:T k=true
  .rw[ty k hk];exact D8.2 (.inl hy)
  .rw[tn k hk];exact hy
 have eq:∀k,k<3->T k=true->(w.s k).m=(w.s b).m:=fun k hk ht=>(a6 k hk (r.tf k hk ht)).1;have st:∀k,k<3->∀y∈(w.s k).m.take (w.s k).a,y∈(MG w T S x k).m.take (MG w T S x k).a:=fun k hk y hy=>by
  by_cases ht:T k=true
  .rw[ty k ht];simp only
   split
   .rw[BO (by simp)];exact D8.2 (.inl (List.mem_of_mem_take hy))
   .rw[List.take_append_of_le_length (h.le k hk)];exact hy
  .rw[tn k ht];exact hy
 have hH:∀y∈w.H++[x],y∈w.H\/y=x:=fun y hy=>by
  rcases D8.1 hy with hy|hy
  .exact .inl hy
  .exact .inr (by simpa using hy)
 refine⟨?_,?_,?_,?_,?_,?_,?_,?_,?_,hasc,?_,?_⟩
 .intro k hk;show BW3 (MG w T S x k).m;by_cases ht:T k=true
  .rw[ty k ht];show ((w.s k).m++[x]).Pairwise _;rw[DN];refine⟨h.asc k hk,List.pairwise_singleton _ _,fun y hy z hz=>?_⟩;simp at hz;rw[hz];exact above y (h.hist k hk y hy)
  .rw[tn k ht];exact h.asc k hk
 .intro k hk;show (MG w T S x k).a<=(MG w T S x k).m.length;by_cases ht:T k=true
  .rw[ty k ht];simp only[AP,List.length_singleton];have:=h.le k hk
   split<;>omega
  .rw[tn k ht];exact h.le k hk
 .intro k hk y hy;rcases tm k y hy with hy|⟨rfl,_⟩
  .exact D8.2 (.inl (h.hist k hk y hy))
  .simp
 .intro y hy z hz e;rcases hH y hy with h1|h1<;>rcases hH z hz with h2|h2
  .exact h.one y h1 z h2 e
  .have:=above y h1;rw[h2]at e;omega
  .have:=above z h2;rw[h1]at e;omega
  .rw[h1,h2]
 .intro y hy;rcases hH y hy with hy|rfl
  .exact h.pos y hy
  .exact r.g
 .intro y hy;show ∃i j,i<3/\j<3/\i≠j/\J6 y.z<=(MG w T S x i).e/\J6 y.z<=(MG w T S x j).e;rcases hH y hy with hy|rfl
  .obtain⟨i,j,c1,c2,c3,c4,c5⟩:=h.two y hy;exact⟨i,j,c1,c2,c3,by rw[te];exact c4,by rw[te];exact c5⟩
  .obtain⟨i,j,c1,c2,c3,c4,c5⟩:=h.CF1 b a1;exact⟨i,j,c1,c2,c3,by rw[te,r.e];exact c4,by rw[te,r.e];exact c5⟩
 .intro k hk;show ∃i j,i<3/\j<3/\i≠j/\(MG w T S x k).e<=(MG w T S x i).e/\(MG w T S x k).e<=(MG w T S x j).e;obtain⟨i,j,c1,c2,c3,c4,c5⟩:=h.CF1 k hk;exact⟨i,j,c1,c2,c3,by rw[te,te];exact c4,by rw[te,te];exact c5⟩
 .intro b' hb';have hb'':ld=G8 b':=hb';rcases hld with e|⟨e,rfl⟩
  .rw[e]at hb'';cases hb''
  .rw[e]at hb''
   cases hb''
   refine⟨a1,?_,r.tb,?_,?_,?_,?_⟩
   .show (MG w f S x b).up=true;rw[ty b r.tb];exact a2
   .intro k hk;show (MG w f S x k).e<=(MG w f S x b).e;rw[te,te];exact a4 k hk
   .intro y hy hz;show y∈(MG w f S x b).m;have hz':J6 y.z=(MG w f S x b).e:=hz;rw[te]at hz';rcases hH y hy with hy|rfl
    .exact mt b y (a5 y hy hz')
    .rw[ty b r.tb];simp
   .intro k hk hf;show (MG w f S x k).m=(MG w f S x b).m/\(MG w f S x k).up=true;have hf':f k=true:=hf;rw[ty k hf',ty b r.tb];exact⟨by simp only;rw[eq k hk hf'],(a6 k hk (r.tf k hk hf')).2⟩
   .intro y hy;show y∈(MG w f S x b).m;rcases hD y hy with hy|rfl
    .exact mt b y (a7 y hy)
    .rw[ty b r.tb];simp
 .intro y hy;rcases hD y hy with hy|rfl
  .exact D8.2 (.inl (h.dh y hy))
  .simp
 .intro y hy k hk z hz hyz;show y∈(MG w T S x k).m;rcases hD y hy with hyD|rfl
  .rcases tm k z hz with hz'|⟨rfl,ht⟩
   .exact mt k y (h.all y hyD k hk z hz' hyz)
   .rw[ty k ht];exact D8.2 (.inl (by rw[eq k hk ht];exact a7 y hyD))
  .rcases tm k z hz with hz'|⟨rfl,_⟩
   .have:=above z (h.hist k hk z hz');omega
   .exact hz
 .intro y hy;show ∃i j,i<3/\j<3/\i≠j/\y∈(MG w T S x i).m.take (MG w T S x i).a/\y∈(MG w T S x j).m.take (MG w T S x j).a;rcases hD y hy with hyD|rfl
  .obtain⟨i,j,c1,c2,c3,c4,c5⟩:=h.safe y hyD;exact⟨i,j,c1,c2,c3,st i c1 y c4,st j c2 y c5⟩
  .obtain⟨c,hc,hcb,sc,sb⟩:=hS hy;have key:∀k,S k=true->y∈(MG w T S y k).m.take (MG w T S y k).a:=fun k hk=>by
    rw[ty k (r.st k hk)];simp only;rw[if_pos hk,BO (by simp)];simp
   exact⟨b,c,a1,hc,hcb.symm,key b sb,key c sc⟩
theorem BF5{w:Aw}(h:A74 w)(r:WrA w b T S x)(hc:c<3)(hcb:c≠b)(sc:S c=true)(sb:S b=true):A74 (AG5 w b T S x):=by
 refine A75 h r (w.D++[x]) (fun y hy=>?_) ?_ (fun _=>⟨c,hc,hcb,sc,sb⟩) (G8 b) T (.inr ⟨rfl,rfl⟩)
 .rcases D8.1 hy with hy|hy
  .exact .inl hy
  .exact .inr (by simpa using hy)
 .show (w.D++[x]).Pairwise _;rw[DN];refine⟨h.CG5,List.pairwise_singleton _ _,fun y hy z hz=>?_⟩;simp at hz;rw[hz];exact VG h r y (h.dh y hy)
theorem BF6{w:Aw}(h:A74 w)(r:WrA w b T S x):A74 (BF4 w T S x):=
 A75 h r w.D (fun y hy=>.inl hy) h.CG5 (fun hx=>absurd (VG h r x (h.dh x hx)) (by omega)) none (fun _=>false) (.inl rfl)
structure Dd where
 k:Int
 c:Int
 s:Int
 q:Rq
 lo:Int
 sl:Int
 ke:Int
 wt:Bool
def zZ(d:Dd):List Value:=[I0 d.k,I0 d.c,I0 d.s,I0 d.q.o,I0 d.q.s,S0 d.q.p,S0 d.q.d,I0 d.q.v,I0 d.q.f,I0 d.lo,I0 d.sl,I0 d.ke,.bool d.wt]
def ddV(d:Dd):Value:=.agg #[I0 d.k,I0 d.c,I0 d.s,I0 d.q.o,I0 d.q.s,S0 d.q.p,S0 d.q.d,I0 d.q.v,I0 d.q.f,I0 d.lo,I0 d.sl,I0 d.ke,.bool d.wt]
instance layD:Lay Dd:=⟨13,zZ,30,fun _=>rfl,fun x u hu=>by simp[zZ]at hu;rcases hu with rfl|rfl|rfl|rfl|rfl|rfl|rfl|rfl|rfl|rfl|rfl|rfl|rfl<;>rfl⟩
structure Ps where
 up:Bool
 e:Int
 m:List GV
 a:Nat
 q:List UInt8
 dn:Nat
 ws:List Wa
structure Cl where
 s:Int
 z:Int
 es:List En
structure Pw where
 n:Int
 s:Nat->Ps
 r:Nat->Int
 c:Nat->Cl
 D:List GV
 H:List GV
 h:Nat->Prop
structure Rp where
 E:Int
 z:Int
 p:List UInt8
 d:List UInt8
 t:Nd
 ns:List Nt
def nd0:Nd:=⟨[],[],0,0,0,0,0,0,0⟩
def U4(E:Int):Rp:=⟨E,0,[],[],nd0,[]⟩
def LZ{α:Type}(f:Nat->α)(i:Nat)(v:α):Nat->α:=fun k=>if k=i then v else f k
theorem IU{α:Type}(f:Nat->α)(i:Nat)(v:α):LZ f i v i=v:=by rw[LZ,if_pos rfl]
theorem GN{α:Type}(f:Nat->α)(v:α)(h:k≠i):LZ f i v k=f k:=by rw[LZ,if_neg h]
def epD(e:Int):List DF:=if e=0 then []else [YS e]
theorem AD3:epD 0=[]:=rfl
theorem A45(h:e≠0):epD e=[YS e]:=by rw[epD,if_neg h]
noncomputable def svP(i:Nat)(p:Ps):Sv:=
 if p.up=true then⟨true,epD p.e++[⟨OE,IJ (p.m.take p.a),IJ (p.m.drop p.a)⟩],i,p.e,p.m,p.dn,SK p.m p.dn,p.ws⟩
 else⟨false,epD p.e++[⟨OE,IJ p.m++p.q,[]⟩],i,0,[],0,QW,[]⟩
theorem J5{p:Ps}(h:p.up=true):svP i p=⟨true,epD p.e++[⟨OE,IJ (p.m.take p.a),IJ (p.m.drop p.a)⟩],i,p.e,p.m,p.dn,SK p.m p.dn,p.ws⟩:=by rw[svP,if_pos h]
theorem SN{p:Ps}(h:p.up=false):svP i p=⟨false,epD p.e++[⟨OE,IJ p.m++p.q,[]⟩],i,0,[],0,QW,[]⟩:=by rw[svP,if_neg (by simp[h])]
def whole:List GV->Nat->Nat
 |[],_=>0
 |t::r,k=>if(RI t).length<=k then 1+whole r (k-(RI t).length)else 0
def BE1:List GV->Nat->List UInt8
 |[],_=>[]
 |t::r,k=>if(RI t).length<=k then BE1 r (k-(RI t).length)else(RI t).take k
theorem rV:∀ (l:List GV) (k:Nat),whole l k<=l.length
 |[],_=>by simp[whole]
 |t::r,k=>by
  have:=rV r (k-(RI t).length);unfold whole
  split
  .simp;omega
  .simp
theorem xZ:∀ (l:List GV) (k:Nat),(IJ l).take k=IJ (l.take (whole l k))++BE1 l k
 |[],k=>by simp[IJ,whole,BE1]
 |t::r,k=>by
  unfold whole BE1;by_cases h:(RI t).length<=k
  .rw[if_pos h,if_pos h,Nat.add_comm,List.take_succ_cons,IJ,IJ,List.take_append,BO h,xZ r,List.append_assoc]
  .rw[if_neg h,if_neg h,IJ,List.take_append_of_le_length (by omega)];simp[IJ]
theorem kZ:∀ (l:List GV) (k:Nat),BE1 l k=[]\/∃t∈l,∃j,j<(RI t).length/\BE1 l k=(RI t).take j
 |[],_=>.inl rfl
 |t::r,k=>by
  unfold BE1;by_cases h:(RI t).length<=k
  .rw[if_pos h];rcases kZ r (k-(RI t).length)with h1|⟨x,hx,j,hj,e⟩
   .exact .inl h1
   .exact .inr ⟨x,by simp[hx],j,hj,e⟩
  .rw[if_neg h];exact .inr ⟨t,by simp,k,by omega,rfl⟩
def OO(p:Ps)(k:Nat):Ps:=⟨false,p.e,p.m.take (p.a+whole (p.m.drop p.a) k),p.a+whole (p.m.drop p.a) k,BE1 (p.m.drop p.a) k,0,[]⟩
def upP(p:Ps):Ps:=⟨true,p.e,p.m,p.m.length,[],0,[]⟩
noncomputable def dK(i:Nat)(p:Ps):Sv×List Nt:=csP (svP i p) (p.m.drop p.dn) (p.m.length-p.dn)
noncomputable def iL(i:Nat)(p:Ps):Ps:=⟨p.up,p.e,p.m,p.a,p.q,p.m.length,(dK i p).1.ws⟩
noncomputable def MR(s:Nat->Ps):List Nat->(Nat->Ps)×List Nt
 |[]=>(s,[])
 |i::l=>((MR (LZ s i (iL i (s i))) l).1,(dK i (s i)).2++(MR (LZ s i (iL i (s i))) l).2)
def ZR(c:Nat->Cl)(l:List Nt):Nat->Cl:=fun k=>⟨(c k).s,(c k).z,UW (c k).s l (c k).es⟩
def ldP(r:Nat->Int):Int:=if r 0=2 then 0 else if r 1=2 then 1 else if r 2=2 then 2 else -1
def KD(s:Nat->Ps):List Nat:=[0,1,2].filter fun i=>(s i).up
def QZ(s:Nat->Ps):List Key:=(KD s).map fun(i:Nat)=>((i:Int),(s i).e,J7 (s i).m)
def eB(s:Nat->Ps):Nat:=(KD s).getD (MN (QZ s) (KD s).length) 0
def eN(s:Nat->Ps):Int:=WJ (QZ s)+1
def A46(s:Nat->Ps):Bool:=(KD s).any fun i=>decide (L6 (s i).m (s (eB s)).m<(s i).dn)
def yA(e:Int)(m:List GV)(p:Ps):Ps:=⟨true,e,m,m.length,[],p.dn,p.ws⟩
def eS(s:Nat->Ps):Nat->Ps:=fun k=>if(s k).up=true/\k<3 then yA (eN s) (s (eB s)).m (s k)else s k
def eR(s:Nat->Ps):Nat->Int:=fun k=>if k=eB s then 2 else if(s k).up=true/\k<3 then 1 else 0
noncomputable def RD(p:Pw):Rp×Pw:=
 if(KD p.s).length<2 then(U4 14,p)else if A46 p.s=true then(U4 13,p)
 else(⟨0,J7 (p.s (eB p.s)).m,[],[],nd0,(MR (eS p.s) (KD p.s)).2⟩,⟨p.n,(MR (eS p.s) (KD p.s)).1,eR p.s,ZR p.c (MR (eS p.s) (KD p.s)).2,p.D,p.H,p.h⟩)
noncomputable def RS(p:Pw)(i:Nat)(ke:Int):Rp×Pw:=
 if(p.s i).up=false then(U4 14,p)else if ke<0 then(U4 3,p)
 else(U4 0,⟨p.n,LZ p.s i (OO (p.s i) ke.toNat),if p.r i=2 then fun _=>0 else LZ p.r i 0,p.c,p.D,p.H,p.h⟩)
def upW(p:Pw)(i:Nat):Rp×Pw:=
 if(p.s i).up=true then(U4 8,p)else(U4 0,⟨p.n,LZ p.s i (upP (p.s i)),p.r,p.c,p.D,p.H,p.h⟩)
def AD4(n:Int)(i:Nat):Bool:=decide (n/2^i%2=1)
def ldN(r:Nat->Int):Nat:=(ldP r).toNat
def wZ(p:Pw):Int:=nxN (p.s (ldN p.r)).e (J7 (p.s (ldN p.r)).m)
def wQ(p:Pw)(d:Dd):Rq:=⟨d.q.o,(p.c d.c.toNat).s,d.q.p,d.q.d,d.q.v,d.q.f⟩
noncomputable def wTr(p:Pw):Tr:=SK (p.s (ldN p.r)).m (p.s (ldN p.r)).dn
noncomputable def wE(p:Pw)(d:Dd):Int:=gU (wTr p) (wZ p) (wQ p d)
noncomputable def wX(p:Pw)(d:Dd):GV:=AS3 (wTr p) (wZ p) (wQ p d)
def wT(p:Pw)(d:Dd)(i:Nat):Bool:=decide (p.r i=2)||(decide (p.r i=1)&& !AD4 d.lo i)
def wS(p:Pw)(d:Dd)(i:Nat):Bool:=wT p d i&&(decide (p.r i=2)|| !AD4 d.sl i)
def TP(x:GV)(sure:Bool)(p:Ps):Ps:=⟨p.up,p.e,p.m++[x],if sure=true then p.m.length+1 else p.a,p.q,p.dn,p.ws⟩
noncomputable def wSv(p:Pw)(d:Dd):Nat->Ps:=fun k=>if wT p d k=true then TP (wX p d) (wS p d k) (p.s k)else p.s k
def wRo(p:Pw)(d:Dd):Nat->Int:=fun k=>if wT p d k=true then p.r k else 0
def wL(p:Pw)(d:Dd):List Nat:=[0,1,2].filter fun i=>wS p d i
def mW(t:Tr)(p:List UInt8):Option Nd:=t.ns.find? fun n=>decide (n.p=p)
noncomputable def wCl(p:Pw)(d:Dd)(l:List Nt):Nat->Cl:=LZ (ZR p.c l) d.c.toNat ⟨(ZR p.c l d.c.toNat).s,wZ p,(ZR p.c l d.c.toNat).es⟩
noncomputable def PY(p:Pw)(d:Dd):Rp×Pw:=
 if ldP p.r=-1 then(U4 14,p)else if wE p d≠0 then(U4 (wE p d),p)
 else if(wL p d).length<2 then(⟨16,(wX p d).z,[],[],nd0,[]⟩,⟨p.n,wSv p d,fun _=>0,p.c,p.D,p.H++[wX p d],p.h⟩)
 else(⟨0,(wX p d).z,(wX p d).p,[],(mW (SK ((p.s (ldN p.r)).m++[wX p d]) ((p.s (ldN p.r)).m.length+1)) (wX p d).p).getD nd0,(MR (wSv p d) (wL p d)).2⟩,
  ⟨p.n,(MR (wSv p d) (wL p d)).1,wRo p d,wCl p d (MR (wSv p d) (wL p d)).2,p.D++[wX p d],p.H++[wX p d],p.h⟩)
noncomputable def rTr(p:Pw)(d:Dd):Tr:=SK (p.s d.s.toNat).m (p.s d.s.toNat).dn
noncomputable def rN(p:Pw)(d:Dd):Option Nd:=mW (rTr p d) d.q.p
def rWa(p:Pw)(d:Dd):Wa:=⟨(p.c d.c.toNat).s,1,d.q.p⟩
def yX(q:Ps)(x:Wa):Ps:=⟨q.up,q.e,q.m,q.a,q.q,q.dn,oU q.ws x⟩
noncomputable def BP6(p:Pw)(d:Dd):Rp:=⟨if(rN p d).isSome=true then 0 else 7,(rTr p d).z,((rN p d).getD nd0).p,((rN p d).getD nd0).d,(rN p d).getD nd0,[]⟩
noncomputable def bZ(p:Pw)(d:Dd):Rp×Pw:=
 if(p.s d.s.toNat).up=false then(U4 14,p)else if(rTr p d).z<(p.c d.c.toNat).z then(U4 15,p)
 else if d.wt=false then(BP6 p d,⟨p.n,p.s,p.r,LZ p.c d.c.toNat ⟨(p.c d.c.toNat).s,(rTr p d).z,(p.c d.c.toNat).es⟩,p.D,p.H,p.h⟩)
 else if ZB (p.s d.s.toNat).ws (rWa p d)≠0 then(U4 (ZB (p.s d.s.toNat).ws (rWa p d)),p)
 else(BP6 p d,⟨p.n,LZ p.s d.s.toNat (yX (p.s d.s.toNat) (rWa p d)),p.r,LZ p.c d.c.toNat ⟨(p.c d.c.toNat).s,(rTr p d).z,WI (p.c d.c.toNat).es ⟨d.q.p,((rN p d).getD nd0).d,(rN p d).isSome⟩⟩,p.D,p.H,p.h⟩)
def l7(i:Int)(n:Int):Bool:=decide (0<=i)&&decide (i<n)
def VR(d:Dd):Int:=
 if d.k=1 then(if l7 d.c 16=true then 0 else 3)else if d.k=2 then(if l7 d.c 16=true/\l7 d.s 3=true then 0 else 3)
 else if d.k=3\/d.k=4 then(if l7 d.s 3=true then 0 else 3)else if d.k=5 then 0 else 4
noncomputable def iM(p:Pw)(d:Dd):Rp×Pw:=
 if d.k=1 then PY p d else if d.k=2 then bZ p d else if d.k=3 then RS p d.s.toNat d.ke else if d.k=4 then upW p d.s.toNat else RD p
def OQ(p:Pw):Pw:=⟨p.n+1,p.s,p.r,p.c,p.D,p.H,p.h⟩
noncomputable def doP(p:Pw)(d:Dd):Rp×Pw:=
 if 300<=p.n then(U4 6,p)else if VR d≠0 then(U4 (VR d),OQ p)else iM (OQ p) d
def ps0:Ps:=⟨true,0,[],0,[],0,[]⟩
def pw0(k:Nat):Pw:=⟨0,fun _=>ps0,fun _=>0,fun i=>⟨i+1,0,[]⟩,[],[],(· <=k)⟩
noncomputable def TQ(p:Pw):List Dd->Pw
 |[]=>p
 |d::l=>TQ (doP p d).2 l
def AE1(m:List GV):Prop:=∀i x,m[i]?=G8 x->YR (SK m i) x=0
structure MP(N:Int)(p:Ps):Prop where
 log:Logs p.m
 pos:∀x∈p.m,0<x.z
 len:(p.m.length:Int)<=N
 a:p.a<=p.m.length
 e0:0<=p.e
 e1:p.e<=N
 dn:p.dn<=p.m.length
 play:AE1 p.m
 wl:(p.ws.length:Int)<=N
 wk:∀x∈p.ws,1<=x.s/\x.s<=16/\x.k=1/\J8 x.p=true
 down:p.up=false->p.a=p.m.length/\p.dn=0/\p.ws=[]/\Scan (IJ p.m++p.q) p.m p.q/\p.q.length<=487
 upq:p.up=true->p.q=[]
theorem MP.more{M:Int}{p:Ps}(h:MP N p)(hM:N<=M):MP M p:=
 ⟨h.log,h.pos,Int.le_trans h.len hM,h.a,h.e0,Int.le_trans h.e1 hM,h.dn,h.play,Int.le_trans h.wl hM,h.wk,h.down,h.upq⟩
structure uG(N:Int)(H:List GV)(i:Nat)(c:Cl):Prop where
 s:c.s=i+1
 z:c.z=0\/∃x∈H,c.z=x.z
 asc:B60 c.es
 len:(c.es.length:Int)<=N
 sh:∀x∈c.es,x.p.length<=200/\x.d.length<=256
def awP(p:Pw):Aw:=
 ⟨fun k=>if k<3 then⟨(p.s k).up,(p.s k).m,(p.s k).a,(p.s k).e⟩else⟨false,[],0,0⟩,if ldP p.r=-1 then none else G8 (ldN p.r),fun k=>decide (k<3)&&decide (p.r k≠0),p.D,p.H⟩
structure QI(p:Pw):Prop where
 n0:0<=p.n
 n1:p.n<=300
 s:∀i,i<3->MP p.n (p.s i)
 r:∀i,i<3->p.r i=0\/p.r i=1\/p.r i=2
 one:∀i j,i<3->j<3->p.r i=2->p.r j=2->i=j
 led:ldP p.r=-1->∀i,i<3->p.r i=0
 rup:∀i,i<3->p.r i≠0->(p.s i).up=true
 all:∀b,b<3->p.r b=2->(p.s b).dn=(p.s b).m.length
 a:A74 (awP p)
 c:∀i,i<16->uG p.n p.H i (p.c i)
 cnt:∀x∈p.H,x.z%2147483648<=p.n
 few:(p.D.length:Int)<=p.n
theorem iO{r:Nat->Int}(hb:b<3)(h:r b=2)(ho:∀i j,i<3->j<3->r i=2->r j=2->i=j):ldP r=b:=by
 have e:∀i,i<3->(r i=2↔i=b):=fun i hi=>⟨fun h1=>ho i b hi hb h1 h,fun h1=>by rw[h1];exact h⟩;unfold ldP;have h0:=e 0 (by omega);have h1:=e 1 (by omega);have h2:=e 2 (by omega);rcases(show b=0\/b=1\/b=2 by omega)with rfl|rfl|rfl<;>simp_all
theorem lG(r:Nat->Int):(ldP r=-1/\∀i,i<3->r i≠2)\/∃b,b<3/\ldP r=(b:Nat)/\r b=2:=by
 unfold ldP;by_cases h0:r 0=2
 .exact .inr ⟨0,by omega,by rw[if_pos h0];rfl,h0⟩
 .by_cases h1:r 1=2
  .exact .inr ⟨1,by omega,by rw[if_neg h0,if_pos h1];rfl,h1⟩
  .by_cases h2:r 2=2
   .exact .inr ⟨2,by omega,by rw[if_neg h0,if_neg h1,if_pos h2];rfl,h2⟩
   .refine .inl ⟨by rw[if_neg h0,if_neg h1,if_neg h2],fun i hi=>?_⟩;rcases(show i=0\/i=1\/i=2 by omega)with rfl|rfl|rfl<;>assumption
theorem gG{p:Pw}(h:QI p)(hb:b<3)(hr:p.r b=2):(awP p).ld=G8 b/\ldN p.r=b/\ldP p.r=b:=by
 have:=iO hb hr h.one;simp only[awP,ldN,this];refine⟨?_,by omega,trivial⟩;rw[if_neg (by omega)];simp
theorem AE2{p:Pw}(h:ldP p.r=-1):(awP p).ld=none:=by simp only[awP,h];rfl
theorem LY{p:Pw}(hk:k<3):(awP p).s k=⟨(p.s k).up,(p.s k).m,(p.s k).a,(p.s k).e⟩:=by simp only[awP,if_pos hk]
theorem WE{p:Pw}(hk:¬k<3):(awP p).s k=⟨false,[],0,0⟩:=by simp only[awP,if_neg hk]
theorem pF{a b:Aw}(h1:∀k,a.s k=b.s k)(h2:a.ld=b.ld)(h3:∀k,a.f k=b.f k)(h4:a.D=b.D)(h5:a.H=b.H):a=b:=by
 obtain⟨s,l,f,D,H⟩:=a;obtain⟨s',l',f',D',H'⟩:=b;simp only at*;rw[show s=s' from funext h1,show f=f' from funext h3,h2,h4,h5]
theorem lH(m:List GV)(h:i<=j):SK (m.take j) i=SK m i:=by
 unfold SK;rw[List.take_take,Nat.min_eq_left h]
theorem AE1.take(h:AE1 m)(j:Nat):AE1 (m.take j):=by
 intro i x hi;have hlt:=(AV.1 hi).1;simp at hlt;rw[lH m (by omega)];rw[List.getElem?_take_of_lt (by omega)]at hi;exact h i x hi
theorem AE1.snoc(h:AE1 m)(hx:YR (SK m m.length) x=0):AE1 (m++[x]):=by
 intro i y hi;by_cases e:i<m.length
 .rw[List.getElem?_append_left e]at hi;rw[iK m x (by omega)];exact h i y hi
 .have hlt:=(AV.1 hi).1;simp at hlt;obtain rfl:i=m.length:=by omega
  simp at hi;subst hi;rw[iK m x (AA _)];exact hx
theorem AE1.good(h:AE1 m)(hi:i<=m.length):RX (SK m i):=by
 cases i with
 |zero=>rw[XQ];exact bP
 |succ i=>
  obtain⟨x,hx⟩:∃x,m[i]?=G8 x:=⟨_,AO (by omega)⟩;rw[xR hx];exact(aT (h i x hx)).1
theorem AE1.z(h:AE1 m)(hx:m[i]?=G8 x):(SK m (i+1)).z=x.z:=by
 rw[xR hx];exact(aT (h i x hx)).2.1
theorem AE1.z_of(h:AE1 m)(hi:i<=m.length):(SK m i).z=0\/∃x∈m,(SK m i).z=x.z:=by
 cases i with
 |zero=>rw[XQ];exact .inl rfl
 |succ i=>
  obtain⟨x,hx⟩:∃x,m[i]?=G8 x:=⟨_,AO (by omega)⟩;exact .inr ⟨x,List.mem_of_getElem? hx,h.z hx⟩
theorem Logs.take(h:Logs m)(j:Nat):Logs (m.take j):=
 ⟨fun t ht=>h.good t (List.mem_of_mem_take ht),h.rise.sublist (List.take_sublist _ _)⟩
theorem sD(h:Logs m)(hl:m.length<=300):(IJ m).length<=146100:=by
 have:=A72 m h.good;omega
theorem C80(xs:List GV):∀ (s:Sv) (N:List Nt),(∀x∈(xs.foldl stP (s,N)).1.ws,x∈s.ws)/\(xs.foldl stP (s,N)).2.length+(xs.foldl stP (s,N)).1.ws.length<=N.length+s.ws.length/\(∀n∈(xs.foldl stP (s,N)).2,n∈N\/∃x∈s.ws,n.s=x.s/\n.p=x.p/\(x.k≠2->1<=n.k/\n.k<=3)):=by
 induction xs with
 |nil=>intro s N;exact⟨fun x h=>h,AA _,fun n hn=>.inl hn⟩
 |cons y xs ih=>
  intro s N;rw[List.foldl_cons];obtain⟨h1,h2,h3⟩:=ih (fQ s y) (N++PI s.ws (YW s.tr y));have w1:∀x∈(fQ s y).ws,x∈s.ws:=by
   intro x hx;have hx:x∈XJ s y:=hx;unfold XJ at hx
   split at hx
   .exact(jK _ _ _ (EK.1 hx).1).1
   .exact(jK _ _ _ hx).1
  have w2:(fQ s y).ws.length<=(LG s.ws (YW s.tr y)).length:=by
   show (XJ s y).length<=_;unfold XJ
   split
   .exact xB _ _
   .exact AA _
  have w3:=iE (YW s.tr y) s.ws;have w4:∀ (es:List Ev) (ws:List Wa) (n:Nt),n∈PI ws es->∃x∈ws,n.s=x.s/\n.p=x.p/\(x.k≠2->1<=n.k/\n.k<=3):=by
   intro es
   induction es with
   |nil=>intro ws n h;simp[PI]at h
   |cons e r ihe=>
    intro ws n h;rcases D8.1 (show n∈U7 ws e++PI (mJ ws e) r from h)with h|h
    .simp only[U7,F5,EK]at h;obtain⟨x,⟨hx,ho⟩,rfl⟩:=h;refine⟨x,hx,rfl,?_,fun hk=>?_⟩
     .simp only[yU,DC,decide_eq_true_eq]at ho;exact ho.1.symm
     .simp only[yU,if_neg hk,DC,Bool.or_eq_true,decide_eq_true_eq]at ho;simp only[AX6];omega
    .obtain⟨x,hx,h⟩:=ihe (mJ ws e) n h;exact⟨x,(EK.1 hx).1,h⟩
  refine⟨fun x hx=>w1 x (h1 x hx),?_,fun n hn=>?_⟩
  .simp only[AP]at h2;have:(xs.foldl stP (stP (s,N) y))=xs.foldl stP (fQ s y,N++PI s.ws (YW s.tr y)):=rfl;rw[this];omega
  .rcases h3 n hn with h|⟨x,hx,h⟩
   .rcases D8.1 h with h|h
    .exact .inl h
    .exact .inr (w4 _ _ _ h)
   .exact .inr ⟨x,w1 x hx,h⟩
theorem CM5{p:Ps}(h:p.up=true):(svP i p).ws=p.ws:=by rw[J5 h]
theorem B71{p:Ps}(h:p.up=true):(∀x∈(dK i p).1.ws,x∈p.ws)/\(dK i p).2.length+(dK i p).1.ws.length<=p.ws.length/\(∀n∈(dK i p).2,∃x∈p.ws,n.s=x.s/\n.p=x.p/\(x.k≠2->1<=n.k/\n.k<=3)):=by
 obtain⟨h1,h2,h3⟩:=C80 ((p.m.drop p.dn).take (p.m.length-p.dn)) (svP i p) [];rw[CM5 h]at h1 h2 h3;refine⟨h1,by simp only[List.length_nil,Nat.zero_add]at h2;exact h2,fun n hn=>?_⟩;rcases h3 n hn with h|h
 .simp at h
 .exact h
theorem BY5{p:Ps}(h:MP N p)(hu:p.up=true):MP N (iL i p):=by
 obtain⟨h1,h2,_⟩:=B71 (i:=i) hu;refine⟨h.log,h.pos,h.len,h.a,h.e0,h.e1,AA _,h.play,?_,fun x hx=>h.wk x (h1 x hx),fun hd=>?_,h.upq⟩
 .have:=h.wl;show ((dK i p).1.ws.length:Int)<=N;omega
 .have:p.up=false:=hd;rw[hu]at this
  cases this
theorem sF{p:Ps}(h:MP N p)(k:Nat):MP N (OO p k):=by
 have hw:=rV (p.m.drop p.a) k;have ha:=h.a;have hl:=h.len;simp at hw;have CF7:=h.log.take (p.a+whole (p.m.drop p.a) k);refine⟨CF7,fun x hx=>h.pos x (List.mem_of_mem_take hx),?_,?_,h.e0,h.e1,AZ _,h.play.take _,?_,by simp[OO],fun _=>⟨?_,rfl,rfl,?_,?_⟩,by simp[OO]⟩
 .simp[OO];omega
 .simp[OO];omega
 .have:=h.e0;have:=h.e1;simp[OO];omega
 .simp[OO];omega
 .show Scan (IJ (p.m.take (p.a+whole (p.m.drop p.a) k))++BE1 (p.m.drop p.a) k) _ _;rcases kZ (p.m.drop p.a) k with e|⟨t,ht,j,hj,e⟩
  .rw[OO];simp only[e];rw[List.append_nil];exact uO CF7
  .rw[OO];simp only[e];exact AT7 CF7 (h.log.good t (List.mem_of_mem_drop ht)) hj
 .show (BE1 (p.m.drop p.a) k).length<=487;rcases kZ (p.m.drop p.a) k with e|⟨t,ht,j,hj,e⟩
  .simp[e]
  .have:=jE (h.log.good t (List.mem_of_mem_drop ht));rw[e];simp;omega
theorem CM6{p:Ps}(h:MP N p):MP N (upP p):=by
 have:=h.e0;have:=h.e1;exact⟨h.log,h.pos,h.len,AA _,h.e0,h.e1,AZ _,h.play,by simp[upP];omega,by simp[upP],by simp[upP],fun _=>rfl⟩
theorem CM7{p q:Ps}(h:MP N p)(hq:MP N q)(e0:0<=e)(e1:e<=N)(hd:p.dn<=q.m.length):MP N (yA e q.m p):=
 ⟨hq.log,hq.pos,hq.len,AA _,e0,e1,hd,hq.play,h.wl,h.wk,by simp[yA],fun _=>rfl⟩
theorem C81{p:Ps}(sure:Bool)(h:MP N p)(hu:p.up=true)(hg:gdE x=0)(hz:J7 p.m<x.z)(h0:0<x.z)(hx:YR (SK p.m p.m.length) x=0):MP (N+1) (TP x sure p):=by
 have hl:=h.len;have ha:=h.a;have hd:=h.dn;refine⟨⟨fun y hy=>?_,?_⟩,fun y hy=>?_,?_,?_,h.e0,by have:=h.e1;show p.e<=_;omega,?_,h.play.snoc hx,by have:=h.wl;show (p.ws.length:Int)<=_;omega,h.wk,fun e=>?_,h.upq⟩
 .rcases D8.1 hy with hy|hy
  .exact h.log.good y hy
  .rw[List.mem_singleton.1 hy];exact hg
 .refine DN.2 ⟨h.log.rise,List.pairwise_singleton _ _,fun a ha b hb=>?_⟩;rw[List.mem_singleton.1 hb];have:=h.log.le_last ha;omega
 .rcases D8.1 hy with hy|hy
  .exact h.pos y hy
  .rw[List.mem_singleton.1 hy];exact h0
 .simp[TP];omega
 .simp only[TP,AP,List.length_singleton]
  split<;>omega
 .simp[TP];omega
 .have e:p.up=false:=e;rw[hu]at e
  cases e
theorem BY6{p:Ps}{x:Wa}(h:MP N p)(hu:p.up=true)(hE:ZB p.ws x=0)(hk:x.k=1)(hs:1<=x.s/\x.s<=16):MP (N+1) (yX p x):=by
 have hg:J8 x.p=true:=by
  unfold ZB at hE
  split at hE
  .rename_i hc;exact absurd hE hc
  .rename_i hc
   have hc:uF x=0:=by omega
   unfold uF at hc
   cases hb:J8 x.p with
   |true=>rfl
   |false=>simp[hk,hb]at hc
 have hw:=h.wl;have hL:oU p.ws x=p.ws\/oU p.ws x=p.ws++[x]:=by
  unfold oU;rw[if_neg (by simp[hE])]
  split
  .exact .inl rfl
  .exact .inr rfl
 refine⟨h.log,h.pos,by have:=h.len;show (p.m.length:Int)<=_;omega,h.a,h.e0,by have:=h.e1;show p.e<=_;omega,h.dn,h.play,?_,fun y hy=>?_,fun e=>?_,h.upq⟩
 .show ((oU p.ws x).length:Int)<=_;rcases hL with e|e
  .rw[e];omega
  .rw[e,AP,List.length_singleton];omega
 .have hy:y∈oU p.ws x:=hy;rcases hL with e|e
  .rw[e]at hy;exact h.wk y hy
  .rw[e]at hy;rcases D8.1 hy with hy|hy
   .exact h.wk y hy
   .rw[List.mem_singleton.1 hy];exact⟨hs.1,hs.2,hk,hg⟩
 .have e:p.up=false:=e;rw[hu]at e
  cases e
theorem uG.more{M:Int}{G:List GV}{c:Cl}(h:uG N H i c)(hM:N<=M)(hH:∀x∈H,x∈G):uG M G i c:=
 ⟨h.s,by rcases h.z with e|⟨x,hx,e⟩;exact .inl e;exact .inr ⟨x,hH x hx,e⟩,h.asc,Int.le_trans h.len hM,h.sh⟩
theorem QJ{p:Pw}(h:QI p)(hn:p.n<300):QI (OQ p):=by
 have h1:p.n<=p.n+1:=by omega
 exact⟨by have:=h.n0;show (0:Int)<=p.n+1;omega,by show p.n+1<=300;omega,fun i hi=>(h.s i hi).more h1,h.r,h.one,h.led,h.rup,h.all,h.a,fun i hi=>(h.c i hi).more h1 fun _ hx=>hx,fun x hx=>Int.le_trans (h.cnt x hx) h1,Int.le_trans h.few h1⟩
theorem B75{r:Nat->Int}{v:Int}(hr:r i≠2)(hv:v≠2):ldP (LZ r i v)=ldP r:=by
 have e:∀k,(LZ r i v k=2↔r k=2):=by
  intro k;by_cases hk:k=i
  .subst hk;rw[IU];exact⟨fun h=>absurd h hv,fun h=>absurd h hr⟩
  .rw[GN _ _ hk]
 unfold ldP;simp only[e]
theorem sJ:ldP (fun _=>0)=-1:=by simp[ldP]
theorem AO9{p:Pw}(h:QI p)(hi:i<3)(k:Nat):QI ⟨p.n,LZ p.s i (OO (p.s i) k),if p.r i=2 then fun _=>0 else LZ p.r i 0,p.c,p.D,p.H,p.h⟩:=by
 have hw:=rV ((p.s i).m.drop (p.s i).a) k;simp at hw;have ha:=(h.s i hi).a;have hA:=AT8 (j:=(p.s i).a+whole ((p.s i).m.drop (p.s i).a) k) h.a hi (by rw[LY hi];simp) (by rw[LY hi];show _<=(p.s i).m.length;omega);have hld:(awP p).ld=G8 i↔p.r i=2:=by
  rcases lG p.r with⟨e,hno⟩|⟨b,hb,e,hr⟩
  .rw[AE2 e];exact⟨fun h=>by simp at h,fun h=>absurd h (hno i hi)⟩
  .rw[(gG h hb hr).1];constructor
   .intro e;cases e;exact hr
   .intro e;rw[h.one b i hb hi hr e]
 refine⟨h.n0,h.n1,fun j hj=>?_,fun j hj=>?_,fun j l hj hl=>?_,fun hn j hj=>?_,fun j hj=>?_,fun b hb=>?_,?_,h.c,h.cnt,h.few⟩
 .by_cases e:j=i
  .subst e;simp only[IU];exact sF (h.s j hj) k
  .simp only[GN _ _ e];exact h.s j hj
 .by_cases e2:p.r i=2
  .simp[e2]
  .simp only[if_neg e2];by_cases e:j=i
   .subst e;simp[IU]
   .rw[GN _ _ e];exact h.r j hj
 .by_cases e2:p.r i=2
  .simp[e2]
  .simp only[if_neg e2];by_cases e:j=i
   .subst e;simp[IU]
   .by_cases e':l=i
    .subst e';simp[IU]
    .rw[GN _ _ e,GN _ _ e'];exact h.one j l hj hl
 .by_cases e2:p.r i=2
  .simp[e2]
  .simp only[if_neg e2]at hn⊢;rw[B75 e2 (by decide)]at hn;by_cases e:j=i
   .subst e;simp[IU]
   .rw[GN _ _ e];exact h.led hn j hj
 .by_cases e2:p.r i=2
  .simp[e2]
  .simp only[if_neg e2];by_cases e:j=i
   .subst e;simp[IU]
   .rw[GN _ _ e,GN _ _ e];exact h.rup j hj
 .by_cases e2:p.r i=2
  .simp[e2]
  .simp only[if_neg e2];by_cases e:b=i
   .subst e;simp[IU]
   .rw[GN _ _ e,GN _ _ e];exact h.all b hb
 .rw[show awP ⟨p.n,LZ p.s i (OO (p.s i) k),if p.r i=2 then fun _=>0 else LZ p.r i 0,p.c,p.D,p.H,p.h⟩=LC (awP p) i ((p.s i).a+whole ((p.s i).m.drop (p.s i).a) k)from ?_]
  .exact hA
  .refine pF (fun j=>?_) ?_ (fun j=>?_) rfl rfl
   .by_cases hj:j<3
    .rw[LY hj];by_cases e:j=i
     .subst e;simp only[LC,aJ,IU,LY hj,OO]
     .simp only[LC,RQ _ _ e,GN _ _ e,LY hj]
    .rw[WE hj];simp only[LC,RQ _ _ (show j≠i by omega),WE hj]
   .by_cases e2:p.r i=2
    .simp only[LC,if_pos (hld.2 e2)];exact AE2 (by simp only[if_pos e2];exact sJ)
    .simp only[LC,if_neg (fun e=>e2 (hld.1 e))];simp only[awP,if_neg e2,B75 e2 (show (0:Int)≠2 by decide),ldN]
   .show (decide (j<3)&&decide ((if p.r i=2 then(fun _=>(0:Int))else LZ p.r i 0) j≠0))=(if(awP p).ld=G8 i then false else if j=i then false else(decide (j<3)&&decide (p.r j≠0)));by_cases e2:p.r i=2
    .rw[if_pos e2,if_pos (hld.2 e2)];simp
    .rw[if_neg e2,if_neg (fun e=>e2 (hld.1 e))];by_cases e:j=i
     .subst e;rw[if_pos rfl,IU];simp
     .rw[if_neg e,GN _ _ e]
theorem C85{p:Pw}(h:QI p)(hi:i<3)(hu:(p.s i).up=false):QI ⟨p.n,LZ p.s i (upP (p.s i)),p.r,p.c,p.D,p.H,p.h⟩:=by
 have hr0:p.r i=0:=by
  by_cases e:p.r i=0
  .exact e
  .rw[h.rup i hi e]at hu;cases hu
 have hA:=CG6 h.a i;refine⟨h.n0,h.n1,fun j hj=>?_,h.r,h.one,h.led,fun j hj hj0=>?_,fun b hb hb2=>?_,?_,h.c,h.cnt,h.few⟩
 .by_cases e:j=i
  .subst e;simp only[IU];exact CM6 (h.s j hj)
  .simp only[GN _ _ e];exact h.s j hj
 .by_cases e:j=i
  .subst e;exact absurd hr0 hj0
  .simp only[GN _ _ e];exact h.rup j hj hj0
 .by_cases e:b=i
  .subst e;rw[hr0]at hb2;cases hb2
  .simp only[GN _ _ e];exact h.all b hb hb2
 .rw[show awP ⟨p.n,LZ p.s i (upP (p.s i)),p.r,p.c,p.D,p.H,p.h⟩=upA (awP p) i from ?_]
  .exact hA
  .refine pF (fun j=>?_) rfl (fun j=>rfl) rfl rfl;by_cases hj:j<3
   .rw[LY hj];by_cases e:j=i
    .subst e;simp only[upA,aJ,IU,LY hj,upP,((h.s j hj).down hu).1]
    .simp only[upA,RQ _ _ e,GN _ _ e,LY hj]
   .rw[WE hj];simp only[upA,RQ _ _ (show j≠i by omega),WE hj]
theorem lJ:∀ (l:List Nat) (s:Nat->Ps) (k:Nat),l.Nodup->(MR s l).1 k=if k∈l then iL k (s k)else s k
 |[],s,k,_=>by simp[MR]
 |i::l,s,k,hn=>by
  obtain⟨h1,h2⟩:=List.nodup_cons.1 hn;unfold MR;rw[lJ l _ k h2];by_cases e:k=i
  .subst e;simp[h1,IU]
  .simp only[GN _ _ e,BR,e,false_or]
theorem KU{s:Nat->Ps}:k∈KD s↔k<3/\(s k).up=true:=by
 simp only[KD,EK,BR,List.not_mem_nil,or_false];constructor
 .rintro⟨h,hu⟩;exact⟨by omega,hu⟩
 .rintro⟨h,hu⟩;exact⟨by omega,hu⟩
theorem V6(s:Nat->Ps):(KD s).Nodup:=(show [0,1,2].Nodup by decide).filter _
theorem sK(p:Pw)(d:Dd):(wL p d).Nodup:=(show [0,1,2].Nodup by decide).filter _
theorem gI{p:Pw}{d:Dd}:k∈wL p d↔k<3/\wS p d k=true:=by
 simp only[wL,EK,BR,List.not_mem_nil,or_false];constructor
 .rintro⟨h,hu⟩;exact⟨by omega,hu⟩
 .rintro⟨h,hu⟩;exact⟨by omega,hu⟩
theorem AE3(ks:List Key):∀n,n<=ks.length->∀j,j<n->(ks.getD j (0,0,0)).2.2<=(ks.getD (MN ks n) (0,0,0)).2.2
 |0,_,j,hj=>by omega
 |n+1,hn,j,hj=>by
  have ih:=AE3 ks n (by omega);unfold MN;by_cases hb:bet (ks.getD n (0,0,0)) (ks.getD (MN ks n) (0,0,0))=true
  .rw[if_pos hb];have hle:(ks.getD (MN ks n) (0,0,0)).2.2<=(ks.getD n (0,0,0)).2.2:=by
    simp only[bet,Bool.or_eq_true,DC,decide_eq_true_eq]at hb;omega
   by_cases e:j=n
   .subst e;exact Int.le_refl _
   .exact Int.le_trans (ih j (by omega)) hle
  .rw[if_neg hb];by_cases e:j=n
   .subst e;simp only[bet,Bool.or_eq_true,DC,decide_eq_true_eq]at hb;omega
   .exact ih j (by omega)
theorem cZ(s:Nat->Ps):(QZ s).length=(KD s).length:=by simp[QZ]
theorem AE4{s:Nat->Ps}(hj:j<(KD s).length):(QZ s).getD j (0,0,0)=((((KD s).getD j 0:Nat):Int),(s ((KD s).getD j 0)).e,J7 (s ((KD s).getD j 0)).m):=by
 simp[QZ,List.getD_eq_getElem?_getD,AO hj]
theorem B76{s:Nat->Ps}(h:2<=(KD s).length):eB s∈KD s:=by
 have hl:=XU (QZ s) (KD s).length;unfold eB;rw[List.getD_eq_getElem?_getD,AO (show MN (QZ s) (KD s).length<(KD s).length by omega)];exact List.getElem_mem _
theorem CM8{s:Nat->Ps}(h:2<=(KD s).length)(hk:k∈KD s):J7 (s k).m<=J7 (s (eB s)).m:=by
 have hl:=XU (QZ s) (KD s).length;obtain⟨j,hj,rfl⟩:=List.getElem_of_mem hk;have hm:=AE3 (QZ s) (KD s).length (by rw[cZ];exact AA _) j hj;rw[AE4 hj,AE4 (by omega)]at hm;have e:(KD s).getD j 0=(KD s)[j]:=by rw[List.getD_eq_getElem?_getD,AO hj];rfl
 rw[e]at hm;exact hm
theorem CW3{s:Nat->Ps}(hk:k∈KD s):(s k).e<eN s:=by
 have:=(C77 (ks:=QZ s) (k:=((k:Int),(s k).e,J7 (s k).m)) (F5.2 ⟨k,hk,rfl⟩)).1;unfold eN;simp only at this;omega
theorem CM9{s:Nat->Ps}(h:2<=(KD s).length)(b:Nat):∃c,c<3/\b≠c/\(s c).up=true:=by
 have hn:=V6 s
 match he:KD s,h,hn with
 |x::y::r,_,hn=>
  have hx:x∈KD s:=by rw[he];simp
  have hy:y∈KD s:=by rw[he];simp
  have hxy:x≠y:=by
   have:=(List.nodup_cons.1 hn).1;rintro rfl;exact this (by simp)
  by_cases e:b=x
  .exact⟨y,(KU.1 hy).1,by omega,(KU.1 hy).2⟩
  .exact⟨x,(KU.1 hx).1,e,(KU.1 hx).2⟩
theorem BQ5{p:Pw}(h:QI p)(hx:x∈p.H):J6 x.z<=p.n:=by
 obtain⟨i,_,hi,_,_,h1,_⟩:=h.a.two x hx;rw[LY hi]at h1;exact Int.le_trans h1 (h.s i hi).e1
theorem AP0{p:Pw}(h:QI p)(hi:i<3):J6 (J7 (p.s i).m)<=p.n:=by
 by_cases e:(p.s i).m=[]
 .rw[e,WS,VJ];exact h.n0
 .obtain⟨y,hy,hz⟩:=aI e;rw[<-hz];exact BQ5 h (h.a.hist i hi y (by rw[LY hi];exact hy))
theorem C86{p:Pw}(h:QI p):eN p.s<=p.n+1/\1<=eN p.s:=by
 have h1:=B65 (ks:=QZ p.s) p.n h.n0 (fun k hk=>by
  obtain⟨i,hi,rfl⟩:=F5.1 hk;have hi:=(KU.1 hi).1;exact⟨(h.s i hi).e1,AP0 h hi⟩)
 have h2:=kY (QZ p.s);unfold eN;omega
theorem A50{c:Nat->Cl}(h:uG N H i (c i))(l:List Nt):uG N H i (ZR c l i):=by
 refine⟨h.s,h.z,BP4 h.asc,?_,fun x hx=>h.sh x (EK.1 hx).1⟩;have h1:((ZR c l i).es).length<=(c i).es.length:=List.length_filter_le _ _;have:=h.len;omega
theorem B77{s:Nat->Ps}(h:A46 s=false)(hk:k∈KD s):(s k).dn<=L6 (s k).m (s (eB s)).m:=by
 unfold A46 at h;have:=List.any_eq_false.1 h k hk;simp at this;exact this
theorem pG{p:Pw}(h:QI p)(hn:p.n<300)(h2:¬ (KD p.s).length<2)(hb:A46 p.s=false):
  QI ⟨p.n+1,(MR (eS p.s) (KD p.s)).1,eR p.s,ZR p.c (MR (eS p.s) (KD p.s)).2,p.D,p.H,p.h⟩:=by
 have hB:=B76 (s:=p.s) (by omega);obtain⟨hb3,hbu⟩:=KU.1 hB;obtain⟨c,hc3,hbc,hcu⟩:=CM9 (s:=p.s) (by omega) (eB p.s);have hN:=C86 h;have hn0:=h.n0;have BQ6:∀k,k<3->(p.s k).up=true->(MR (eS p.s) (KD p.s)).1 k=iL k (yA (eN p.s) (p.s (eB p.s)).m (p.s k)):=fun k hk hu=>by
  rw[lJ _ _ _ (V6 _),if_pos (KU.2 ⟨hk,hu⟩),eS,if_pos ⟨hu,hk⟩]
 have CN0:∀k,k<3->(p.s k).up≠true->(MR (eS p.s) (KD p.s)).1 k=p.s k:=fun k hk hu=>by
  rw[lJ _ _ _ (V6 _),if_neg (fun hm=>hu (KU.1 hm).2),eS,if_neg (fun hm=>hu hm.1)]
 have rb:eR p.s (eB p.s)=2:=by rw[eR,if_pos rfl]
 have rno:∀k,k≠eB p.s->eR p.s k≠2:=fun k hk=>by rw[eR,if_neg hk];split<;>decide
 have one:∀i j,i<3->j<3->eR p.s i=2->eR p.s j=2->i=j:=fun i j _ _ h1 h2=>by
  by_cases e1:i=eB p.s
  .by_cases e2:j=eB p.s
   .rw[e1,e2]
   .exact absurd h2 (rno j e2)
  .exact absurd h1 (rno i e1)
 have hld:=iO hb3 rb one;have hA:=AT9 (e:=eN p.s) h.a hb3 hc3 hbc (by rw[LY hb3];exact hbu) (by rw[LY hc3];exact hcu) (fun k hk hu=>by
  rw[LY hk]at hu;rw[LY hk,LY hb3];exact CM8 (by omega) (KU.2 ⟨hk,hu⟩)) (fun k hk hu=>by
  rw[LY hk]at hu⊢;exact CW3 (KU.2 ⟨hk,hu⟩))
 have ok:∀k,k<3->(p.s k).up=true->MP (p.n+1) (yA (eN p.s) (p.s (eB p.s)).m (p.s k)):=fun k hk hu=>
  CM7 ((h.s k hk).more (by omega)) ((h.s _ hb3).more (by omega)) (by omega) hN.1 (Nat.le_trans (B77 hb (KU.2 ⟨hk,hu⟩)) (XK _ _).2)
 refine⟨by show (0:Int)<=p.n+1;omega,by show p.n+1<=300;omega,fun k hk=>?_,fun k hk=>?_,one,fun e=>?_,fun k hk hk0=>?_,fun b hb hb2=>?_,?_,fun i hi=>A50 ((h.c i hi).more (by show p.n<=p.n+1;omega) fun _ hx=>hx) _,fun x hx=>by have:=h.cnt x hx;show _<=p.n+1;omega,by have:=h.few;show (p.D.length:Int)<=p.n+1;omega⟩
 .by_cases hu:(p.s k).up=true
  .simp only[BQ6 k hk hu];exact BY5 (ok k hk hu) rfl
  .simp only[CN0 k hk hu];exact(h.s k hk).more (by omega)
 .show eR p.s k=0\/eR p.s k=1\/eR p.s k=2;unfold eR
  split
  .omega
  .split<;>omega
 .exfalso;have e:ldP (eR p.s)=-1:=e;rw[hld]at e;omega
 .by_cases hu:(p.s k).up=true
  .simp only[BQ6 k hk hu];rfl
  .exfalso;have hk0:eR p.s k≠0:=hk0;unfold eR at hk0
   split at hk0
   .rename_i e;rw[e]at hu;exact hu hbu
   .rw[if_neg (fun hm=>hu hm.1)]at hk0;exact hk0 rfl
 .have e:b=eB p.s:=one b _ hb hb3 hb2 rb;subst e;simp only[BQ6 _ hb3 hbu];rfl
 .rw[show awP ⟨p.n+1,(MR (eS p.s) (KD p.s)).1,eR p.s,ZR p.c (MR (eS p.s) (KD p.s)).2,p.D,p.H,p.h⟩=UF (awP p) (eB p.s) (eN p.s)from ?_]
  .exact hA
  .refine pF (fun k=>?_) ?_ (fun k=>?_) rfl rfl
   .by_cases hk:k<3
    .rw[LY hk];by_cases hu:(p.s k).up=true
     .simp only[BQ6 k hk hu,UF,LY hk,hu,if_true,LY hb3,iL,yA]
     .simp only[CN0 k hk hu,UF,LY hk,hu,if_false,Bool.false_eq_true]
    .rw[WE hk];simp only[UF,WE hk,Bool.false_eq_true,if_false]
   .simp only[awP,hld,UF,ldN];rw[if_neg (by omega)];simp
   .by_cases hk:k<3
    .simp only[awP,UF,hk,decide_true,Bool.true_and,if_true]
     cases hu:(p.s k).up with
     |true=>
      have:eR p.s k≠0:=by unfold eR;split;decide;rw[if_pos ⟨hu,hk⟩];decide
      simp[this]
     |false=>
      have e:k≠eB p.s:=by rintro rfl;rw[hbu]at hu;cases hu
      have:eR p.s k=0:=by unfold eR;rw[if_neg e,if_neg (by simp[hu])]
      simp[this]
    .simp only[awP,UF,hk,decide_false,Bool.false_and,if_false]
theorem B78{p:Pw}(h:QI p)(hn:p.n<300)(hb:b<3)(hr:p.r b=2):
  nxE (p.s b).e (J7 (p.s b).m)=0/\KP (nxN (p.s b).e (J7 (p.s b).m))=true/\0<nxN (p.s b).e (J7 (p.s b).m)/\J7 (p.s b).m<nxN (p.s b).e (J7 (p.s b).m)/\J6 (nxN (p.s b).e (J7 (p.s b).m))=(p.s b).e/\nxN (p.s b).e (J7 (p.s b).m)%2147483648<=p.n+1:=by
 obtain⟨_,_,_,a4,_,_,_⟩:=h.a.lead b (gG h hb hr).1;have e0:=(h.s b hb).e0;have e1:=(h.s b hb).e1;have n0:=h.n0;obtain⟨hg,hc,he⟩:KP (J7 (p.s b).m)=true/\J7 (p.s b).m%2147483648<=p.n/\J6 (J7 (p.s b).m)<=(p.s b).e:=by
  by_cases e:(p.s b).m=[]
  .rw[e,WS];exact⟨by decide,by omega,by rw[VJ];exact e0⟩
  .obtain⟨y,hy,hz⟩:=aI e;have hH:=h.a.hist b hb y (by rw[LY hb];exact hy);obtain⟨i,_,hi,_,_,c4,_⟩:=h.a.two y hH;have:=a4 i hi;rw[LY hi,LY hb]at this;rw[LY hi]at c4;rw[<-hz];exact⟨(h.a.pos y hH).1,h.cnt y hH,Int.le_trans c4 this⟩
 generalize J7 (p.s b).m=l at*;generalize (p.s b).e=e at*;have hl:=MC.1 hg;rw[MF hg]at he;by_cases c:e<=J6 l
 .have h1:=qA hg (show zIn (l%2147483648+1)=true from QA.2 ⟨by omega,by omega⟩);rw[MF hg]at c;have hN:nxN e l=l+1/\nxE e l=0:=by
   rw[nxN,nxE,if_pos (by rw[MF hg];exact c),if_pos (by rw[MF hg];exact c)];exact h1
  rw[hN.1,hN.2];have hg':KP (l+1)=true:=MC.2 ⟨by omega,by omega⟩;rw[MF hg'];refine⟨rfl,hg',by omega,by omega,by omega,by omega⟩
 .have hi:zIn e=true:=QA.2 ⟨by omega,by omega⟩;have hm:=UD hi (show zIn 0=true by decide);have hmg:KP (e*2147483648)=true:=MC.2 ⟨by omega,by omega⟩;have h1:=qA (z:=e*2147483648) hmg (QA.2 ⟨by omega,by omega⟩);have hN:nxN e l=e*2147483648+1/\nxE e l=0:=by
   rw[nxN,nxE,if_neg c,if_neg c,if_pos hm.2,if_pos hm.2,hm.1,Int.add_zero];exact h1
  rw[hN.1,hN.2];rw[MF hg]at c;have hg':KP (e*2147483648+1)=true:=MC.2 ⟨by omega,by omega⟩;rw[MF hg'];refine⟨rfl,hg',by omega,by omega,by omega,by omega⟩
structure Wr(p:Pw)(d:Dd)(b:Nat):Prop where
 lt:b<3
 two:p.r b=2
 n:p.n<300
 e:wE p d=0
section
variable {p:Pw} {d:Dd} {b:Nat}
theorem Wr.ld(w:Wr p d b)(h:QI p):ldN p.r=b:=(gG h w.lt w.two).2.1
theorem Wr.tr(w:Wr p d b)(h:QI p):wTr p=SK (p.s b).m (p.s b).m.length:=by rw[wTr,w.ld h,h.all b w.lt w.two]
theorem Wr.fit(w:Wr p d b)(h:QI p):FitP (SK (p.s b).m (p.s b).m.length) (wZ p) (wQ p d) (wX p d):=by
 have:=AI6 w.e;rw[w.tr h]at this;have e:wX p d=AS3 (SK (p.s b).m (p.s b).m.length) (wZ p) (wQ p d):=by rw[wX,w.tr h]
 rw[e];exact this
theorem Wr.z(w:Wr p d b)(h:QI p):(wX p d).z=nxN (p.s b).e (J7 (p.s b).m):=by rw[(w.fit h).z,wZ,w.ld h]
theorem Wr.zs(w:Wr p d b)(h:QI p):KP (wX p d).z=true/\0<(wX p d).z/\J7 (p.s b).m<(wX p d).z/\J6 (wX p d).z=(p.s b).e/\(wX p d).z%2147483648<=p.n+1:=by
 rw[w.z h];exact(B78 h w.n w.lt w.two).2
theorem CN1(h:wT p d i=true):p.r i≠0:=by
 simp only[wT,Bool.or_eq_true,DC,decide_eq_true_eq]at h;omega
theorem CW4(h:wS p d i=true):wT p d i=true:=by
 simp only[wS,DC]at h;exact h.1
theorem ZY(h:p.r i=2):wT p d i=true/\wS p d i=true:=by simp[wS,wT,h]
theorem Wr.same(w:Wr p d b)(h:QI p)(hi:i<3)(hr:p.r i≠0):(p.s i).m=(p.s b).m/\(p.s i).up=true:=by
 obtain⟨_,_,_,_,_,a6,_⟩:=h.a.lead b (gG h w.lt w.two).1;have:=a6 i hi (by simp[awP,hi,hr]);rw[LY hi,LY w.lt]at this;exact this
theorem Wr.wr(w:Wr p d b)(h:QI p):WrA (awP p) b (fun k=>decide (k<3)&&wT p d k) (fun k=>decide (k<3)&&wS p d k) (wX p d):=by
 obtain⟨z1,z2,z3,z4,_⟩:=w.zs h;refine⟨(gG h w.lt w.two).1,by simp[w.lt,(ZY (p:=p) (d:=d) w.two).1],fun i hi ht=>?_,fun i hs=>?_,by rw[LY w.lt];exact z3,⟨z1,z2⟩,by rw[LY w.lt];exact z4⟩
 .simp only[DC]at ht;simp[awP,hi,CN1 ht.2]
 .simp only[DC]at hs⊢;exact⟨hs.1,CW4 hs.2⟩
theorem Wr.ok(w:Wr p d b)(h:QI p)(hk:k<3):MP (p.n+1) (wSv p d k):=by
 unfold wSv;by_cases ht:wT p d k=true
 .rw[if_pos ht];obtain⟨e,hu⟩:=w.same h hk (CN1 ht);obtain⟨z1,z2,z3,_,_⟩:=w.zs h;exact C81 _ (h.s k hk) hu (w.fit h).gd (by rw[e];exact z3) z2 (by rw[e];exact(w.fit h).app)
 .rw[if_neg ht];exact(h.s k hk).more (by omega)
theorem Wr.up(w:Wr p d b)(h:QI p)(hk:k<3)(ht:wT p d k=true):(wSv p d k).up=true:=by
 rw[wSv,if_pos ht];exact(w.same h hk (CN1 ht)).2
theorem yC(w:Wr p d b)(h:QI p):∀x∈p.H++[wX p d],x.z%2147483648<=p.n+1:=fun x hx=>by
 rcases D8.1 hx with hx|hx
 .have:=h.cnt x hx;omega
 .rw[List.mem_singleton.1 hx];exact(w.zs h).2.2.2.2
theorem CN2{s:Nat->Ps}(hs:∀k,k<3->(s k).up=(wSv p d k).up/\(s k).m=(wSv p d k).m/\(s k).a=(wSv p d k).a/\(s k).e=(wSv p d k).e)(k:Nat)(hk:k<3):
  (⟨(s k).up,(s k).m,(s k).a,(s k).e⟩:Ab)=MG (awP p) (fun k=>decide (k<3)&&wT p d k) (fun k=>decide (k<3)&&wS p d k) (wX p d) k:=by
 obtain⟨e1,e2,e3,e4⟩:=hs k hk;rw[e1,e2,e3,e4];simp only[MG,LY hk,hk,decide_true,Bool.true_and,wSv];by_cases ht:wT p d k=true
 .simp only[ht,if_true,TP]
 .simp only[ht,Bool.false_eq_true,if_false]
theorem B79(w:Wr p d b)(h:QI p):QI ⟨p.n+1,wSv p d,fun _=>0,p.c,p.D,p.H++[wX p d],p.h⟩:=by
 have hn:=w.n;have n0:=h.n0;have hA:=BF6 h.a (w.wr h);refine⟨by show (0:Int)<=p.n+1;omega,by show p.n+1<=300;omega,fun k hk=>w.ok h hk,fun _ _=>.inl rfl,fun _ _ _ _ e=>(by cases e),fun _ _ _=>rfl,fun _ _ e=>absurd rfl e,fun _ _ e=>(by cases e),?_,fun i hi=>(h.c i hi).more (by show p.n<=p.n+1;omega) (fun x hx=>by simp[hx]),yC w h,by have:=h.few;show (p.D.length:Int)<=p.n+1;omega⟩;rw[show awP ⟨p.n+1,wSv p d,fun _=>0,p.c,p.D,p.H++[wX p d],p.h⟩=BF4 (awP p) (fun k=>decide (k<3)&&wT p d k) (fun k=>decide (k<3)&&wS p d k) (wX p d)from ?_]
 .exact hA
 .refine pF (fun k=>?_) (AE2 sJ) (fun k=>by simp[awP,BF4]) rfl rfl;by_cases hk:k<3
  .rw[LY hk];exact CN2 (fun _ _=>⟨rfl,rfl,rfl,rfl⟩) k hk
  .rw[WE hk];simp[BF4,MG,hk,WE hk]
theorem lK:wRo p d k=2↔p.r k=2:=by
 unfold wRo
 split
 .exact Iff.rfl
 .rename_i h
  refine⟨fun e=>(by cases e),fun e=>absurd (ZY (d:=d) e).1 h⟩
theorem B80:(MR (wSv p d) (wL p d)).1 k=if k<3/\wS p d k=true then iL k (wSv p d k)else wSv p d k:=by
 rw[lJ _ _ _ (sK _ _)];simp only[gI]
theorem BQ7(h:¬ (wL p d).length<2)(b:Nat):∃c,c<3/\c≠b/\wS p d c=true:=by
 have hn:=sK p d
 match he:wL p d,h,hn with
 |[],h,_=>exact absurd (by simp) h
 |[x],h,_=>exact absurd (by simp) h
 |x::y::r,_,hn=>
  have hx:x∈wL p d:=by rw[he];simp
  have hy:y∈wL p d:=by rw[he];simp
  have hxy:x≠y:=by
   have:=(List.nodup_cons.1 hn).1;rintro rfl;exact this (by simp)
  by_cases e:b=x
  .exact⟨y,(gI.1 hy).1,by omega,(gI.1 hy).2⟩
  .exact⟨x,(gI.1 hx).1,fun h=>e h.symm,(gI.1 hx).2⟩
theorem yD(w:Wr p d b)(h:QI p)(hq:¬ (wL p d).length<2):QI ⟨p.n+1,(MR (wSv p d) (wL p d)).1,wRo p d,wCl p d (MR (wSv p d) (wL p d)).2,p.D++[wX p d],p.H++[wX p d],p.h⟩:=by
 have hn:=w.n;have n0:=h.n0;obtain⟨c,hc3,hcb,hcs⟩:=BQ7 hq b;have hA:=BF5 h.a (w.wr h) hc3 hcb (by simp[hc3,hcs]) (by simp[w.lt,(ZY (p:=p) (d:=d) w.two).2]);have hlb:=w.lt;have one:∀i j,i<3->j<3->wRo p d i=2->wRo p d j=2->i=j:=fun i j hi hj e1 e2=>h.one i j hi hj (lK.1 e1) (lK.1 e2);have hld:=iO hlb (lK.2 w.two) one;have hcom:∀k,(MR (wSv p d) (wL p d)).1 k=if k<3/\wS p d k=true then iL k (wSv p d k)else wSv p d k:=fun k=>B80;have fld:∀k,((MR (wSv p d) (wL p d)).1 k).up=(wSv p d k).up/\((MR (wSv p d) (wL p d)).1 k).m=(wSv p d k).m/\((MR (wSv p d) (wL p d)).1 k).a=(wSv p d k).a/\((MR (wSv p d) (wL p d)).1 k).e=(wSv p d k).e:=fun k=>by
  rw[hcom]
  split<;>exact⟨rfl,rfl,rfl,rfl⟩
 refine⟨by show (0:Int)<=p.n+1;omega,by show p.n+1<=300;omega,fun k hk=>?_,fun k hk=>?_,one,fun e=>?_,fun k hk hk0=>?_,fun k hk hk2=>?_,?_,fun i hi=>?_,yC w h,by have:=h.few;simp;omega⟩
 .show MP (p.n+1) ((MR (wSv p d) (wL p d)).1 k);rw[hcom]
  split
  .rename_i hc
   exact BY5 (w.ok h hk) (w.up h hk (CW4 hc.2))
  .exact w.ok h hk
 .show wRo p d k=0\/wRo p d k=1\/wRo p d k=2;unfold wRo
  split
  .exact h.r k hk
  .exact .inl rfl
 .exfalso;have e:ldP (wRo p d)=-1:=e;rw[hld]at e;omega
 .show ((MR (wSv p d) (wL p d)).1 k).up=true;rw[(fld k).1];have hk0:wRo p d k≠0:=hk0;unfold wRo at hk0
  split at hk0
  .rename_i ht;exact w.up h hk ht
  .exact absurd rfl hk0
 .have hk2:wRo p d k=2:=hk2;have hr:=lK.1 hk2;show ((MR (wSv p d) (wL p d)).1 k).dn=((MR (wSv p d) (wL p d)).1 k).m.length;rw[hcom,if_pos ⟨hk,(ZY hr).2⟩];rfl
 .rw[show awP ⟨p.n+1,(MR (wSv p d) (wL p d)).1,wRo p d,wCl p d (MR (wSv p d) (wL p d)).2,p.D++[wX p d],p.H++[wX p d],p.h⟩=AG5 (awP p) b (fun k=>decide (k<3)&&wT p d k) (fun k=>decide (k<3)&&wS p d k) (wX p d)from ?_]
  .exact hA
  .refine pF (fun k=>?_) ?_ (fun k=>?_) rfl rfl
   .by_cases hk:k<3
    .rw[LY hk];exact CN2 (fun k _=>fld k) k hk
    .rw[WE hk];simp[AG5,MG,hk,WE hk]
   .simp only[awP,hld,AG5,ldN];rw[if_neg (by omega)];simp
   .by_cases hk:k<3
    .simp only[awP,AG5,hk,decide_true,Bool.true_and];by_cases ht:wT p d k=true
     .have e:wRo p d k=p.r k:=by rw[wRo,if_pos ht]
      rw[ht];exact decide_eq_true (show wRo p d k≠0 by rw[e];exact CN1 ht)
     .have e:wRo p d k=0:=by rw[wRo,if_neg ht]
      rw[Bool.not_eq_true]at ht;rw[ht];exact decide_eq_false (show ¬wRo p d k≠0 from fun hn=>hn e)
    .simp[awP,AG5,hk]
 .show uG (p.n+1) (p.H++[wX p d]) i (wCl p d (MR (wSv p d) (wL p d)).2 i);have h1:=A50 ((h.c i hi).more (show p.n<=p.n+1 by omega) (fun x hx=>(by simp[hx]:x∈p.H++[wX p d]))) (MR (wSv p d) (wL p d)).2;unfold wCl;by_cases e:i=d.c.toNat
  .subst e;rw[IU];exact⟨h1.s,.inr ⟨wX p d,by simp,by rw[w.z h];simp only[wZ,w.ld h]⟩,h1.asc,h1.len,h1.sh⟩
  .rw[GN _ _ e];exact h1
end
theorem AP1{t:Tr}{p:List UInt8}{n:Nd}(h:mW t p=G8 n):n∈t.ns/\n.p=p:=⟨List.mem_of_find?_eq_some h,by have:=List.find?_some h;simpa using this⟩
theorem C87{c:Cl}{z:Int}(h:uG N H i c)(hz:z=0\/∃x∈H,z=x.z):uG (N+1) H i ⟨c.s,z,c.es⟩:=
 ⟨h.s,hz,h.asc,by have:=h.len;show (c.es.length:Int)<=_;omega,h.sh⟩
theorem C88{c:Cl}{z:Int}{x:En}(h:uG N H i c)(hz:z=0\/∃x∈H,z=x.z)(h1:x.p.length<=200)(h2:x.d.length<=256):uG (N+1) H i ⟨c.s,z,WI c.es x⟩:=by
 refine⟨h.s,hz,BP1 h.asc x,?_,fun e he=>?_⟩
 .have:=BP2 c.es h.asc x;have:=h.len;show ((WI c.es x).length:Int)<=_;omega
 .rcases BP3 he with he|rfl
  .exact h.sh e he
  .unfold J3
   split
   .exact⟨h1,h2⟩
   .exact⟨h1,by simp⟩
theorem B81{ws:List Wa}{x:Wa}(hE:ZB ws x=0)(hk:x.k=1):J8 x.p=true:=by
 unfold ZB at hE
 split at hE
 .rename_i hc;exact absurd hE hc
 .rename_i hc
  have hc:uF x=0:=by omega
  unfold uF at hc
  cases hb:J8 x.p with
  |true=>rfl
  |false=>simp[hk,hb]at hc
theorem B82{p:Pw}{d:Dd}(h:QI p)(hn:p.n<300)(hc:0<=d.c/\d.c<16)(hs:0<=d.s/\d.s<3):QI (bZ (OQ p) d).2:=by
 have n0:=h.n0;have hC:d.c.toNat<16:=by omega
 have hS:d.s.toNat<3:=by omega
 unfold bZ
 split
 .exact QJ h hn
 .rename_i hu
  have hu:(p.s d.s.toNat).up=true:=by simpa [OQ]using hu
  split
  .exact QJ h hn
  .have hz:(rTr p d).z=0\/∃x∈p.H,(rTr p d).z=x.z:=by
    rcases(h.s _ hS).play.z_of (h.s _ hS).dn with e|⟨x,hx,e⟩
    .exact .inl e
    .exact .inr ⟨x,h.a.hist _ hS x (by rw[LY hS];exact hx),e⟩
   have cl:∀v,uG (p.n+1) p.H d.c.toNat v->∀i,i<16->uG (p.n+1) p.H i (LZ p.c d.c.toNat v i):=fun v hv i hi=>by
    by_cases e:i=d.c.toNat
    .subst e;rw[IU];exact hv
    .rw[GN _ _ e];exact(h.c i hi).more (by omega) fun _ hx=>hx
   have h1:=QJ h hn
   split
   .exact⟨h1.n0,h1.n1,h1.s,h1.r,h1.one,h1.led,h1.rup,h1.all,h1.a,cl _ (C87 (h.c _ hC) hz),h1.cnt,h1.few⟩
   .split
    .exact h1
    .rename_i hE
     have hE:ZB (p.s d.s.toNat).ws (rWa p d)=0:=by
      have:¬ZB (p.s d.s.toNat).ws (rWa p d)≠0:=hE;omega
     have hse:=(h.c _ hC).s;have hgd:=B81 hE rfl;have hdat:((rN p d).getD nd0).d.length<=256:=by
      cases hr:rN p d with
      |none=>simp[nd0]
      |some n=>
       have hg:=((h.s _ hS).play.good (h.s _ hS).dn).nod.ok n (AP1 hr).1;simpa using hg.data
     refine⟨h1.n0,h1.n1,fun i hi=>?_,h1.r,h1.one,h1.led,fun i hi hr=>?_,fun i hi hr=>?_,?_,cl _ (C88 (h.c _ hC) hz (MV hgd) hdat),h1.cnt,h1.few⟩
     .show MP (p.n+1) (LZ p.s d.s.toNat (yX (p.s d.s.toNat) (rWa p d)) i);by_cases e:i=d.s.toNat
      .subst e;rw[IU];exact BY6 (h.s _ hS) hu hE rfl (by show 1<=(p.c d.c.toNat).s/\(p.c d.c.toNat).s<=16;omega)
      .rw[GN _ _ e];exact h1.s i hi
     .show (LZ p.s d.s.toNat (yX (p.s d.s.toNat) (rWa p d)) i).up=true;by_cases e:i=d.s.toNat
      .subst e;rw[IU];exact hu
      .rw[GN _ _ e];exact h1.rup i hi hr
     .show (LZ p.s d.s.toNat (yX (p.s d.s.toNat) (rWa p d)) i).dn=(LZ p.s d.s.toNat (yX (p.s d.s.toNat) (rWa p d)) i).m.length;by_cases e:i=d.s.toNat
      .subst e;rw[IU];exact h1.all _ hi hr
      .rw[GN _ _ e];exact h1.all i hi hr
     .rw[show awP _=awP p from ?_]
      .exact h.a
      .refine pF (fun k=>?_) rfl (fun k=>rfl) rfl rfl;by_cases hk:k<3
       .rw[LY hk,LY hk];show (⟨(LZ p.s d.s.toNat (yX (p.s d.s.toNat) (rWa p d)) k).up,(LZ p.s d.s.toNat (yX (p.s d.s.toNat) (rWa p d)) k).m,(LZ p.s d.s.toNat (yX (p.s d.s.toNat) (rWa p d)) k).a,(LZ p.s d.s.toNat (yX (p.s d.s.toNat) (rWa p d)) k).e⟩:Ab)=_;by_cases e:k=d.s.toNat
        .subst e;rw[IU];rfl
        .rw[GN _ _ e]
       .rw[WE hk,WE hk]
theorem CW5{d:Dd}(hk:d.k=1)(h:VR d=0):0<=d.c/\d.c<16:=by
 rw[VR,if_pos hk]at h
 split at h
 .rename_i hc;simpa [l7]using hc
 .cases h
theorem CN3{d:Dd}(hk:d.k=2)(h:VR d=0):(0<=d.c/\d.c<16)/\0<=d.s/\d.s<3:=by
 rw[VR,if_neg (by omega),if_pos hk]at h
 split at h
 .rename_i hc;simpa [l7]using hc
 .cases h
theorem AE5{d:Dd}(hk:d.k=3\/d.k=4)(h:VR d=0):0<=d.s/\d.s<3:=by
 rw[VR,if_neg (by omega),if_neg (by omega),if_pos hk]at h
 split at h
 .rename_i hc;simpa [l7]using hc
 .cases h
theorem AP2{p:Pw}{d:Dd}(h:QI p)(hn:p.n<300):QI (PY (OQ p) d).2:=by
 unfold PY
 split
 .exact QJ h hn
 .rename_i hl
  split
  .exact QJ h hn
  .rename_i hE
   rcases lG p.r with⟨e,_⟩|⟨b,hb,_,hr⟩
   .exact absurd e hl
   .have w:Wr p d b:=⟨hb,hr,hn,by have:¬wE p d≠0:=hE;omega⟩
    split
    .exact B79 w h
    .rename_i hq
     exact yD w h hq
theorem lM{p:Pw}(d:Dd)(h:QI p):QI (doP p d).2:=by
 unfold doP
 split
 .exact h
 .rename_i hn
  have hn:p.n<300:=by omega
  split
  .exact QJ h hn
  .rename_i hE
   have hE:VR d=0:=by omega
   unfold iM
   split
   .exact AP2 h hn
   .split
    .rename_i hk
     obtain⟨h1,h2⟩:=CN3 hk hE;exact B82 h hn h1 h2
    .split
     .rename_i hk
      have h2:=AE5 (.inl hk) hE;unfold RS
      split
      .exact QJ h hn
      .split
       .exact QJ h hn
       .exact AO9 (QJ h hn) (i:=d.s.toNat) (by omega) _
     .split
      .rename_i hk
       have h2:=AE5 (.inr hk) hE;unfold upW
       split
       .exact QJ h hn
       .rename_i hu
        exact C85 (QJ h hn) (i:=d.s.toNat) (by omega) (by simpa using hu)
      .unfold RD
       split
       .exact QJ h hn
       .split
        .exact QJ h hn
        .rename_i h2 hb
         exact pG h hn h2 (by simpa [OQ]using hb)
theorem YO(k:Nat):QI (pw0 k):=by
 refine⟨by simp[pw0],by simp[pw0],fun i _=>⟨Logs.nil,by simp[pw0,ps0],by simp[pw0,ps0],by simp[pw0,ps0],by simp[pw0,ps0],by simp[pw0,ps0],by simp[pw0,ps0],by simp[AE1,pw0,ps0],by simp[pw0,ps0],by simp[pw0,ps0],by simp[pw0,ps0],by simp[pw0,ps0]⟩,fun _ _=>.inl rfl,fun _ _ _ _ e=>(by cases e),fun _ _ _=>rfl,fun _ _ e=>absurd rfl e,fun _ _ e=>(by cases e),?_,fun i hi=>⟨rfl,.inl rfl,List.Pairwise.nil,by simp[pw0],by simp[pw0]⟩,by simp[pw0],by simp[pw0]⟩;refine⟨fun k hk=>?_,fun k hk=>?_,fun k hk x hx=>?_,fun x hx=>absurd hx (by simp[awP,pw0]),fun x hx=>absurd hx (by simp[awP,pw0]),fun x hx=>absurd hx (by simp[awP,pw0]),fun k hk=>⟨0,1,by omega,by omega,by omega,?_,?_⟩,fun b hb=>?_,fun x hx=>absurd hx (by simp[awP,pw0]),List.Pairwise.nil,fun x hx=>absurd hx (by simp[awP,pw0]),fun x hx=>absurd hx (by simp[awP,pw0])⟩
 .rw[LY hk];exact List.Pairwise.nil
 .rw[LY hk];exact AA _
 .rw[LY hk]at hx;exact absurd hx (by simp[pw0,ps0])
 .rw[LY hk,LY (by omega)];exact Int.le_refl _
 .rw[LY hk,LY (by omega)];exact Int.le_refl _
 .rw[AE2 (show ldP (pw0 k).r=-1 from sJ)]at hb;cases hb
theorem lN:∀ (l:List Dd) (p:Pw),QI p->QI (TQ p l)
 |[],_,h=>h
 |d::l,_,h=>lN l _ (lM d h)
def dEl:Dd:=⟨5,0,0,⟨0,0,[],[],0,0⟩,0,0,0,false⟩
def dOp:Dd:=⟨1,0,0,⟨1,0,[],[],0,0⟩,0,0,0,false⟩
def ps1:Ps:=⟨true,1,[],0,[],0,[]⟩
theorem tK(i:Nat):iL i ps1=ps1/\(dK i ps1).2=[]:=by
 have h:dK i ps1=(svP i ps1,[]):=rM _ _;refine⟨?_,by rw[h]⟩;rw[iL,h,J5 rfl];rfl
theorem BC9(f:Nat->Ps)(h:∀i,i<3->f i=ps1):(∀i,i<3->(MR f [0,1,2]).1 i=ps1)/\(MR f [0,1,2]).2=[]:=by
 have e:∀ (g:Nat->Ps) i,(∀j,j<3->g j=ps1)->∀j,j<3->LZ g i (iL i ps1) j=ps1:=fun g i hg j hj=>by
  by_cases e:j=i
  .rw[e,IU];exact(tK i).1
  .rw[GN _ _ e];exact hg j hj
 simp only[MR];have h1:=e f 0 h;have h2:=e _ 1 h1;have h3:=e _ 2 h2;rw[h 0 (by omega),h1 1 (by omega),h2 2 (by omega),(tK 0).2,(tK 1).2,(tK 2).2];exact⟨h3,rfl⟩
theorem BU6(k:Nat):∃f c,doP (pw0 k) dEl=(⟨0,0,[],[],nd0,[]⟩,⟨1,f,eR (pw0 k).s,c,[],[],(· <=k)⟩)/\(∀i,i<3->f i=ps1)/\(∀i,(c i).s=i+1):=by
 obtain⟨h1,h2⟩:=BC9 (eS (pw0 k).s) (fun i hi=>by rcases(show i=0\/i=1\/i=2 by omega)with rfl|rfl|rfl<;>rfl);have hU:KD (pw0 k).s=[0,1,2]:=rfl;refine⟨(MR (eS (pw0 k).s) [0,1,2]).1,ZR (pw0 k).c (MR (eS (pw0 k).s) [0,1,2]).2,?_,h1,fun i=>rfl⟩;rw[doP,if_neg (by simp[pw0]),if_neg (by simp[VR,dEl])];show RD (OQ (pw0 k))=_;rw[RD,if_neg (show ¬ (KD (OQ (pw0 k)).s).length<2 by rw[show KD (OQ (pw0 k)).s=[0,1,2]from rfl];decide),if_neg (show ¬A46 (OQ (pw0 k)).s=true by rw[show A46 (OQ (pw0 k)).s=false from rfl];simp)];show (_,_)=(_,_);rw[show (OQ (pw0 k)).s=(pw0 k).s from rfl,hU,h2];rfl
theorem BU7{f:Nat->Ps}{c:Nat->Cl}(hf:∀i,i<3->f i=ps1)(hc:∀i,(c i).s=i+1):∃t ns p',doP ⟨1,f,eR (pw0 k).s,c,[],[],(· <=k)⟩ dOp=(⟨0,2147483649,[],[],t,ns⟩,p')/\p'.D.length=1:=by
 generalize hp:(⟨1,f,eR (pw0 k).s,c,[],[],(· <=k)⟩:Pw)=p;have hs:p.s=f:=by rw[<-hp]
 have hr:p.r=eR (pw0 k).s:=by rw[<-hp]
 have hl:ldP p.r=2:=by rw[hr];rfl
 have hn:ldN p.r=2:=by rw[ldN,hl];rfl
 have hz:wZ p=2147483649:=by rw[wZ,hn,hs,hf 2 (by omega)];decide
 have ht:wTr p=QW:=by rw[wTr,hn,hs,hf 2 (by omega)];exact XQ _
 have hq:wQ p dOp=⟨1,1,[],[],0,0⟩:=by rw[wQ,<-hp];simp[dOp,hc]
 have hgd:gdE ⟨2147483649,1,1,[],[],0,0⟩=0:=by decide
 have ha:YR QW ⟨2147483649,1,1,[],[],0,0⟩=0:=by
  have hA:WL QW ⟨2147483649,1,1,[],[],0,0⟩=0:=by
   rw[WL,if_neg (by rw[SV.2 bP];simp),if_neg (by rw[hgd];simp)];decide
  rw[AB1 hA];exact dY rfl (OW.2 bP.cap)
 obtain⟨e1,e2⟩:=AX3 (t:=QW) (z:=2147483649) (r:=⟨1,1,[],[],0,0⟩) (.inl rfl);have hE:wE p dOp=0:=by
  rw[wE,ht,hz,hq,zV (nT.2 ⟨bP,by decide,by decide,by decide⟩) e1,e2];exact ha
 have hX:wX p dOp=⟨2147483649,1,1,[],[],0,0⟩:=by
  have h:=hE;rw[wE,ht,hz,hq]at h;rw[wX,ht,hz,hq,zX h,e2]
 have hL:wL p dOp=[0,1,2]:=by
  simp only[wL,wS,wT,hr];rfl
 have hd:doP p dOp=PY (OQ p) dOp:=by
  rw[doP,if_neg (by rw[<-hp];simp),if_neg (by simp[VR,dOp,l7])];rfl
 rw[hd,PY,if_neg (show ¬ldP (OQ p).r=-1 by show ¬ldP p.r=-1;rw[hl];decide),if_neg (show ¬wE (OQ p) dOp≠0 by show ¬wE p dOp≠0;rw[hE];simp),if_neg (show ¬ (wL (OQ p) dOp).length<2 by show ¬ (wL p dOp).length<2;rw[hL];decide),show wX (OQ p) dOp=wX p dOp from rfl,hX];refine⟨_,_,_,rfl,?_⟩;show (p.D++[_]).length=1;rw[<-hp];rfl
