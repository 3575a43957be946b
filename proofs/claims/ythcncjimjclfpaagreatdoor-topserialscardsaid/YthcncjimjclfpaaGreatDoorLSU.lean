/-
  Part.
-/
import Derived.Test.YthcncjimjclfpaaGreatDoorLSS
import Derived.Test.YthcncjimjclfpaaGreatDoorLST
set_option maxRecDepth 20000
set_option maxHeartbeats 8000000
namespace Go.Proofs.YthcncjimjclfpaaGreatDoor
open Go.RowKit
open _root_.Nat renaming le_refl->A8,zero_le->AY
open _root_.List renaming getElem?_eq_getElem->AL,length_append->AO,getElem?_eq_some_iff->AU,take_of_length_le->BL,mem_cons->BO,mem_append->BU,pairwise_append->DJ,take_length->DU,mem_filter->EH,mem_map->EU,pairwise_cons->FH
open _root_.Bool renaming and_eq_true->BZ
open _root_.Option renaming some->FZ
variable{i j b c k:Nat}{l m H:List GI}{x:GI}{e N:Int}{T S:Nat->Bool}
structure Ab where
 up:Bool
 m:List GI
 a:Nat
 e:Int
structure Aw where
 s:Nat->Ab
 ld:Option Nat
 f:Nat->Bool
 D:List GI
 H:List GI
def BX1(l:List GI):Prop:=l.Pairwise fun x y=>x.z<y.z
theorem BX2(hi:i<3)(hj:j<3)(hb:b<3)(hc:c<3)(h1:i≠j)(h2:b≠c):i=b\/i=c\/j=b\/j=c:=by omega
theorem aK(h:l≠[]):∃y∈l,y.z=J4 l:=by
 rcases List.eq_nil_or_concat l with rfl|⟨l',x,rfl⟩
 .exact absurd rfl h
 .exact⟨x,by simp,by rw[List.concat_eq_append,SA]⟩
theorem A87(h:BX1 l)(hx:x∈l):x.z<=J4 l:=by
 rcases List.eq_nil_or_concat l with rfl|⟨l',y,rfl⟩
 .simp at hx
 .rw[List.concat_eq_append]at h hx⊢;rw[SA];rcases BU.1 hx with hx|hx
  .exact Int.le_of_lt ((DJ.1 h).2.2 x hx y (by simp))
  .simp at hx;rw[hx];exact Int.le_refl _
theorem BG4(h:BX1 l){y:GI}(hx:x∈l)(hy:y∈l.take j)(hz:x.z<=y.z):x∈l.take j:=by
 rw[<-List.take_append_drop j l]at hx h;rcases BU.1 hx with hx|hx
 .exact hx
 .have:=(DJ.1 h).2.2 y hy x hx;omega
theorem CT7{k:List GI}(hl:BX1 l)(hk:BX1 k)(h:∀x∈l,x∈k):l.Sublist k:=by
 induction k generalizing l with
 |nil=>
  cases l with
  |nil=>exact .slnil
  |cons x l=>exact absurd (h x (by simp)) (by simp)
 |cons y k ih=>
  have hk':=(FH.1 hk)
  cases l with
  |nil=>exact List.nil_sublist _
  |cons x l=>
   have hl':=FH.1 hl;rcases BO.1 (h x (by simp))with rfl|hxk
   .refine(ih hl'.2 hk'.2 (fun z hz=>?_)).cons_cons x;rcases BO.1 (h z (by simp[hz]))with rfl|hz'
    .have:=hl'.1 z hz;omega
    .exact hz'
   .refine(ih hl hk'.2 (fun z hz=>?_)).cons y;rcases BO.1 (h z hz)with rfl|hz'
    .rcases BO.1 hz with rfl|hzl
     .exact hxk
     .have h1:=hl'.1 z hzl;have h2:=hk'.1 x hxk;omega
    .exact hz'
structure A88(w:Aw):Prop where
 asc:∀i,i<3->BX1 (w.s i).m
 le:∀i,i<3->(w.s i).a<=(w.s i).m.length
 hist:∀i,i<3->∀x∈(w.s i).m,x∈w.H
 one:∀x∈w.H,∀y∈w.H,x.z=y.z->x=y
 pos:∀x∈w.H,KD x.z=true/\0<x.z
 two:∀x∈w.H,∃i j,i<3/\j<3/\i≠j/\J3 x.z<=(w.s i).e/\J3 x.z<=(w.s j).e
 CF3:∀k,k<3->∃i j,i<3/\j<3/\i≠j/\(w.s k).e<=(w.s i).e/\(w.s k).e<=(w.s j).e
 lead:∀b,w.ld=FZ b->b<3/\(w.s b).up=true/\w.f b=true/\(∀k,k<3->(w.s k).e<=(w.s b).e)/\(∀x∈w.H,J3 x.z=(w.s b).e->x∈(w.s b).m)/\(∀i,i<3->w.f i=true->(w.s i).m=(w.s b).m/\(w.s i).up=true)/\∀x∈w.D,x∈(w.s b).m
 dh:∀x∈w.D,x∈w.H
 CH1:BX1 w.D
 all:∀x∈w.D,∀i,i<3->∀y∈(w.s i).m,x.z<=y.z->x∈(w.s i).m
 safe:∀x∈w.D,∃i j,i<3/\j<3/\i≠j/\x∈(w.s i).m.take (w.s i).a/\x∈(w.s j).m.take (w.s j).a
def put(s:Nat->Ab)(i:Nat)(v:Ab):Nat->Ab:=fun k=>if k=i then v else s k
theorem aO(s:Nat->Ab)(i:Nat)(v:Ab):put s i v i=v:=by rw[put,if_pos rfl]
theorem RJ(s:Nat->Ab)(v:Ab)(h:k≠i):put s i v k=s k:=by rw[put,if_neg h]
def L9(w:Aw)(i j:Nat):Aw:=⟨put w.s i ⟨false,(w.s i).m.take j,j,(w.s i).e⟩,if w.ld=FZ i then none else w.ld,fun k=>if w.ld=FZ i then false else if k=i then false else w.f k,w.D,w.H⟩
theorem AU5{w:Aw}(h:A88 w)(hi:i<3)(h1:(w.s i).a<=j)(h2:j<=(w.s i).m.length):A88 (L9 w i j):=by
 have sm:∀k,∀x∈((L9 w i j).s k).m,x∈(w.s k).m:=by
  intro k x hx;by_cases hk:k=i
  .subst hk;rw[L9]at hx;simp only[aO]at hx;exact List.mem_of_mem_take hx
  .rw[L9]at hx;simp only[RJ _ _ hk]at hx;exact hx
 have se:∀k,((L9 w i j).s k).e=(w.s k).e:=by
  intro k;by_cases hk:k=i
  .subst hk;simp only[L9,aO]
  .simp only[L9,RJ _ _ hk]
 have st:∀k,∀x∈(w.s k).m.take (w.s k).a,x∈((L9 w i j).s k).m.take ((L9 w i j).s k).a:=by
  intro k x hx;by_cases hk:k=i
  .subst hk;simp only[L9,aO];rw[List.take_take,Nat.min_self];exact(List.take_sublist_take_left h1).mem hx
  .simp only[L9,RJ _ _ hk];exact hx
 refine⟨?_,?_,fun k hk x hx=>h.hist k hk x (sm k x hx),h.one,h.pos,?_,?_,?_,h.dh,h.CH1,?_,?_⟩
 .intro k hk;by_cases e:k=i
  .subst e;simp only[L9,aO];exact(h.asc k hk).sublist (List.take_sublist _ _)
  .simp only[L9,RJ _ _ e];exact h.asc k hk
 .intro k hk;by_cases e:k=i
  .subst e;simp only[L9,aO,List.length_take];omega
  .simp only[L9,RJ _ _ e];exact h.le k hk
 .intro x hx;obtain⟨p,q,a1,a2,a3,a4,a5⟩:=h.two x hx;exact⟨p,q,a1,a2,a3,by rw[se];exact a4,by rw[se];exact a5⟩
 .intro k hk;obtain⟨p,q,a1,a2,a3,a4,a5⟩:=h.CF3 k hk;exact⟨p,q,a1,a2,a3,by rw[se,se];exact a4,by rw[se,se];exact a5⟩
 .intro b hb;have hb':(if w.ld=FZ i then none else w.ld)=FZ b:=hb;by_cases e:w.ld=FZ i
  .rw[if_pos e]at hb';cases hb'
  .rw[if_neg e]at hb';obtain⟨a1,a2,a3,a4,a5,a6,a7⟩:=h.lead b hb';have hbi:b≠i:=by rintro rfl;exact e hb'
   refine⟨a1,by simp only[L9,RJ _ _ hbi];exact a2,by simp only[L9,if_neg e,if_neg hbi];exact a3,fun k hk=>by rw[se,se];exact a4 k hk,fun x hx=>by rw[se];simp only[L9,RJ _ _ hbi];exact a5 x hx,fun k hk hf=>?_,by simp only[L9,RJ _ _ hbi];exact a7⟩;by_cases hki:k=i
   .simp only[L9,if_neg e,if_pos hki]at hf;cases hf
   .simp only[L9,if_neg e,if_neg hki]at hf;simp only[L9,RJ _ _ hbi,RJ _ _ hki];exact a6 k hk hf
 .intro x hx k hk y hy hz;by_cases e:k=i
  .subst e;simp only[L9,aO]at hy⊢;exact BG4 (h.asc k hk) (h.all x hx k hk y (List.mem_of_mem_take hy) hz) hy hz
  .simp only[L9,RJ _ _ e]at hy⊢;exact h.all x hx k hk y hy hz
 .intro x hx;obtain⟨p,q,a1,a2,a3,a4,a5⟩:=h.safe x hx;exact⟨p,q,a1,a2,a3,st p x a4,st q x a5⟩
def upA(w:Aw)(i:Nat):Aw:=⟨put w.s i ⟨true,(w.s i).m,(w.s i).a,(w.s i).e⟩,w.ld,w.f,w.D,w.H⟩
theorem CH2{w:Aw}(h:A88 w)(i:Nat):A88 (upA w i):=by
 have sm:∀k,((upA w i).s k).m=(w.s k).m/\((upA w i).s k).a=(w.s k).a/\((upA w i).s k).e=(w.s k).e/\((w.s k).up=true->((upA w i).s k).up=true):=by
  intro k;by_cases e:k=i
  .subst e;simp only[upA,aO];exact⟨trivial,trivial,trivial,fun _=>trivial⟩
  .simp only[upA,RJ _ _ e];exact⟨trivial,trivial,trivial,fun h=>h⟩
 refine⟨fun k hk=>by rw[(sm k).1];exact h.asc k hk,fun k hk=>by rw[(sm k).1,(sm k).2.1];exact h.le k hk,fun k hk=>by rw[(sm k).1];exact h.hist k hk,h.one,h.pos,fun x hx=>?_,fun k hk=>?_,fun b hb=>?_,h.dh,h.CH1,fun x hx k hk=>by rw[(sm k).1];exact h.all x hx k hk,fun x hx=>?_⟩
 .obtain⟨p,q,a1,a2,a3,a4,a5⟩:=h.two x hx;exact⟨p,q,a1,a2,a3,by rw[(sm p).2.2.1];exact a4,by rw[(sm q).2.2.1];exact a5⟩
 .obtain⟨p,q,a1,a2,a3,a4,a5⟩:=h.CF3 k hk;exact⟨p,q,a1,a2,a3,by rw[(sm p).2.2.1,(sm k).2.2.1];exact a4,by rw[(sm q).2.2.1,(sm k).2.2.1];exact a5⟩
 .obtain⟨a1,a2,a3,a4,a5,a6,a7⟩:=h.lead b hb;refine⟨a1,(sm b).2.2.2 a2,a3,fun k hk=>by rw[(sm k).2.2.1,(sm b).2.2.1];exact a4 k hk,fun x hx=>by rw[(sm b).2.2.1,(sm b).1];exact a5 x hx,fun k hk hf=>?_,by rw[(sm b).1];exact a7⟩;rw[(sm k).1,(sm b).1];exact⟨(a6 k hk hf).1,(sm k).2.2.2 (a6 k hk hf).2⟩
 .obtain⟨p,q,a1,a2,a3,a4,a5⟩:=h.safe x hx;exact⟨p,q,a1,a2,a3,by rw[(sm p).1,(sm p).2.1];exact a4,by rw[(sm q).1,(sm q).2.1];exact a5⟩
def U5(w:Aw)(b:Nat)(e:Int):Aw:=⟨fun k=>if(w.s k).up=true then⟨true,(w.s b).m,(w.s b).m.length,e⟩else w.s k,FZ b,fun k=>(w.s k).up,w.D,w.H⟩
theorem AU6{w:Aw}(h:A88 w)(hb:b<3)(hc:c<3)(hbc:b≠c)(ub:(w.s b).up=true)(uc:(w.s c).up=true)(hl:∀k,k<3->(w.s k).up=true->J4 (w.s k).m<=J4 (w.s b).m)(he:∀k,k<3->(w.s k).up=true->(w.s k).e<e):A88 (U5 w b e):=by
 have su:∀k,(w.s k).up=true->(U5 w b e).s k=⟨true,(w.s b).m,(w.s b).m.length,e⟩:=fun k hk=>by simp only[U5,if_pos hk]
 have sd:∀k,(w.s k).up≠true->(U5 w b e).s k=w.s k:=fun k hk=>by simp only[U5,if_neg hk]
 have top:∀k,k<3->(w.s k).e<e:=by
  intro k hk;obtain⟨i,j,a1,a2,a3,a4,a5⟩:=h.CF3 k hk;rcases BX2 a1 a2 hb hc a3 hbc with r|r|r|r
  .have:=he i a1 (by rw[r];exact ub);omega
  .have:=he i a1 (by rw[r];exact uc);omega
  .have:=he j a2 (by rw[r];exact ub);omega
  .have:=he j a2 (by rw[r];exact uc);omega
 have ge:∀k,k<3->(w.s k).e<=((U5 w b e).s k).e:=by
  intro k hk;by_cases u:(w.s k).up=true
  .rw[su k u];have:=top k hk;show (w.s k).e<=e;omega
  .rw[sd k u];exact Int.le_refl _
 have sub:∀x∈w.D,x∈(w.s b).m:=by
  intro x hx;have key:∀i,i<3->(w.s i).up=true->x∈(w.s i).m->x∈(w.s b).m:=by
   intro i hi ui hxi;have h1:=A87 (h.asc i hi) hxi;have h2:=hl i hi ui;have h3:=(h.pos x (h.dh x hx)).2;have hne:(w.s b).m≠[]:=by
    intro h0;rw[h0,WR]at h2;omega
   obtain⟨y,hy,hyz⟩:=aK hne;exact h.all x hx b hb y hy (by omega)
  obtain⟨i,j,a1,a2,a3,a4,a5⟩:=h.safe x hx;have b4:=List.mem_of_mem_take a4;have b5:=List.mem_of_mem_take a5;rcases BX2 a1 a2 hb hc a3 hbc with r|r|r|r
  .exact key i a1 (by rw[r];exact ub) b4
  .exact key i a1 (by rw[r];exact uc) b4
  .exact key j a2 (by rw[r];exact ub) b5
  .exact key j a2 (by rw[r];exact uc) b5
 refine⟨?_,?_,?_,h.one,h.pos,?_,?_,?_,h.dh,h.CH1,?_,?_⟩
 .intro k hk;by_cases u:(w.s k).up=true
  .rw[su k u];exact h.asc b hb
  .rw[sd k u];exact h.asc k hk
 .intro k hk;by_cases u:(w.s k).up=true
  .rw[su k u];exact A8 _
  .rw[sd k u];exact h.le k hk
 .intro k hk;by_cases u:(w.s k).up=true
  .rw[su k u];exact h.hist b hb
  .rw[sd k u];exact h.hist k hk
 .intro x hx;obtain⟨i,j,a1,a2,a3,a4,a5⟩:=h.two x hx;exact⟨i,j,a1,a2,a3,Int.le_trans a4 (ge i a1),Int.le_trans a5 (ge j a2)⟩
 .intro k hk;by_cases u:(w.s k).up=true
  .exact⟨b,c,hb,hc,hbc,by rw[su k u,su b ub];exact Int.le_refl _,by rw[su k u,su c uc];exact Int.le_refl _⟩
  .obtain⟨i,j,a1,a2,a3,a4,a5⟩:=h.CF3 k hk;exact⟨i,j,a1,a2,a3,by rw[sd k u];exact Int.le_trans a4 (ge i a1),by rw[sd k u];exact Int.le_trans a5 (ge j a2)⟩
 .intro b' hb';have hbb:FZ b=FZ b':=hb'
  cases hbb
  refine⟨hb,by rw[su b ub],ub,fun k hk=>?_,fun x hx hz=>?_,fun k _ hf=>?_,by rw[su b ub];exact sub⟩
  .rw[su b ub];by_cases u:(w.s k).up=true
   .rw[su k u];exact Int.le_refl _
   .rw[sd k u];have:=top k hk;show (w.s k).e<=e;omega
  .rw[su b ub]at hz;obtain⟨i,_,a1,_,_,a4,_⟩:=h.two x hx;have:=top i a1;have hz':J3 x.z=e:=hz;omega
  .have u:(w.s k).up=true:=hf;rw[su k u,su b ub];exact⟨rfl,rfl⟩
 .intro x hx k hk y hy hz;by_cases u:(w.s k).up=true
  .rw[su k u];exact sub x hx
  .rw[sd k u]at hy⊢;exact h.all x hx k hk y hy hz
 .intro x hx;exact⟨b,c,hb,hc,hbc,by rw[su b ub];simp only[DU];exact sub x hx,by rw[su c uc];simp only[DU];exact sub x hx⟩
theorem AU7{a b:Int}(ha:KD a=true)(hb:KD b=true)(h:J3 a<J3 b):a<b:=by
 rw[J3,if_pos ha,J3,if_pos hb]at h;omega
def MC(w:Aw)(T S:Nat->Bool)(x:GI)(k:Nat):Ab:=if T k=true then⟨(w.s k).up,(w.s k).m++[x],if S k=true then(w.s k).m.length+1 else(w.s k).a,(w.s k).e⟩else w.s k
def AI6(w:Aw)(b:Nat)(T S:Nat->Bool)(x:GI):Aw:=⟨MC w T S x,FZ b,T,w.D++[x],w.H++[x]⟩
def BG5(w:Aw)(T S:Nat->Bool)(x:GI):Aw:=⟨MC w T S x,none,fun _=>false,w.D,w.H++[x]⟩
structure WrA(w:Aw)(b:Nat)(T S:Nat->Bool)(x:GI):Prop where
 ld:w.ld=FZ b
 tb:T b=true
 tf:∀i,i<3->T i=true->w.f i=true
 st:∀i,S i=true->T i=true
 z:J4 (w.s b).m<x.z
 g:KD x.z=true/\0<x.z
 e:J3 x.z=(w.s b).e
theorem VA{w:Aw}(h:A88 w)(r:WrA w b T S x):∀y∈w.H,y.z<x.z:=by
 intro y hy;obtain⟨a1,_,_,a4,a5,_,_⟩:=h.lead b r.ld;by_cases hz:J3 y.z=(w.s b).e
 .have:=A87 (h.asc b a1) (a5 y hy hz);have:=r.z;omega
 .obtain⟨i,_,c1,_,_,c4,_⟩:=h.two y hy;have:=a4 i c1;exact AU7 (h.pos y hy).1 r.g.1 (by rw[r.e];omega)
theorem A89{w:Aw}(h:A88 w)(r:WrA w b T S x)(D':List GI)(hD:∀y∈D',y∈w.D\/y=x)(hasc:BX1 D')(hS:x∈D'->∃c,c<3/\c≠b/\S c=true/\S b=true):
  ∀ld f,(ld=none\/ld=FZ b/\f=T)->A88 ⟨MC w T S x,ld,f,D',w.H++[x]⟩:=by
 intro ld f hld;obtain⟨a1,a2,a3,a4,a5,a6,a7⟩:=h.lead b r.ld;have above:=VA h r;have ty:∀k,T k=true->MC w T S x k=⟨(w.s k).up,(w.s k).m++[x],if S k=true then(w.s k).m.length+1 else(w.s k).a,(w.s k).e⟩:=fun k hk=>by rw[MC,if_pos hk]
 have tn:∀k,T k≠true->MC w T S x k=w.s k:=fun k hk=>by rw[MC,if_neg hk]
 have te:∀k,(MC w T S x k).e=(w.s k).e:=fun k=>by
  by_cases hk:T k=true
  .rw[ty k hk]
  .rw[tn k hk]
 have tm:∀k,∀y∈(MC w T S x k).m,y∈(w.s k).m\/y=x/\T k=true:=fun k y hy=>by
  by_cases hk:T k=true
  .rw[ty k hk]at hy;rcases BU.1 hy with hy|hy
   .exact .inl hy
   .exact .inr ⟨by simpa using hy,hk⟩
  .rw[tn k hk]at hy;exact .inl hy
 have mt:∀k,∀y∈(w.s k).m,y∈(MC w T S x k).m:=fun k y hy=>by
  by_cases hk:T k=true
  .rw[ty k hk];exact BU.2 (.inl hy)
  .rw[tn k hk];exact hy
 have eq:∀k,k<3->T k=true->(w.s k).m=(w.s b).m:=fun k hk ht=>(a6 k hk (r.tf k hk ht)).1;have st:∀k,k<3->∀y∈(w.s k).m.take (w.s k).a,y∈(MC w T S x k).m.take (MC w T S x k).a:=fun k hk y hy=>by
  by_cases ht:T k=true
  .rw[ty k ht];simp only
   split
   .rw[BL (by simp)];exact BU.2 (.inl (List.mem_of_mem_take hy))
   .rw[List.take_append_of_le_length (h.le k hk)];exact hy
  .rw[tn k ht];exact hy
 have hH:∀y∈w.H++[x],y∈w.H\/y=x:=fun y hy=>by
  rcases BU.1 hy with hy|hy
  .exact .inl hy
  .exact .inr (by simpa using hy)
 refine⟨?_,?_,?_,?_,?_,?_,?_,?_,?_,hasc,?_,?_⟩
 .intro k hk;show BX1 (MC w T S x k).m;by_cases ht:T k=true
  .rw[ty k ht];show ((w.s k).m++[x]).Pairwise _;rw[DJ];refine⟨h.asc k hk,List.pairwise_singleton _ _,fun y hy z hz=>?_⟩;simp at hz;rw[hz];exact above y (h.hist k hk y hy)
  .rw[tn k ht];exact h.asc k hk
 .intro k hk;show (MC w T S x k).a<=(MC w T S x k).m.length;by_cases ht:T k=true
  .rw[ty k ht];simp only[AO,List.length_singleton];have:=h.le k hk
   split<;>omega
  .rw[tn k ht];exact h.le k hk
 .intro k hk y hy;rcases tm k y hy with hy|⟨rfl,_⟩
  .exact BU.2 (.inl (h.hist k hk y hy))
  .simp
 .intro y hy z hz e;rcases hH y hy with h1|h1<;>rcases hH z hz with h2|h2
  .exact h.one y h1 z h2 e
  .have:=above y h1;rw[h2]at e;omega
  .have:=above z h2;rw[h1]at e;omega
  .rw[h1,h2]
 .intro y hy;rcases hH y hy with hy|rfl
  .exact h.pos y hy
  .exact r.g
 .intro y hy;show ∃i j,i<3/\j<3/\i≠j/\J3 y.z<=(MC w T S x i).e/\J3 y.z<=(MC w T S x j).e;rcases hH y hy with hy|rfl
  .obtain⟨i,j,c1,c2,c3,c4,c5⟩:=h.two y hy;exact⟨i,j,c1,c2,c3,by rw[te];exact c4,by rw[te];exact c5⟩
  .obtain⟨i,j,c1,c2,c3,c4,c5⟩:=h.CF3 b a1;exact⟨i,j,c1,c2,c3,by rw[te,r.e];exact c4,by rw[te,r.e];exact c5⟩
 .intro k hk;show ∃i j,i<3/\j<3/\i≠j/\(MC w T S x k).e<=(MC w T S x i).e/\(MC w T S x k).e<=(MC w T S x j).e;obtain⟨i,j,c1,c2,c3,c4,c5⟩:=h.CF3 k hk;exact⟨i,j,c1,c2,c3,by rw[te,te];exact c4,by rw[te,te];exact c5⟩
 .intro b' hb';have hb'':ld=FZ b':=hb';rcases hld with e|⟨e,rfl⟩
  .rw[e]at hb'';cases hb''
  .rw[e]at hb''
   cases hb''
   refine⟨a1,?_,r.tb,?_,?_,?_,?_⟩
   .show (MC w f S x b).up=true;rw[ty b r.tb];exact a2
   .intro k hk;show (MC w f S x k).e<=(MC w f S x b).e;rw[te,te];exact a4 k hk
   .intro y hy hz;show y∈(MC w f S x b).m;have hz':J3 y.z=(MC w f S x b).e:=hz;rw[te]at hz';rcases hH y hy with hy|rfl
    .exact mt b y (a5 y hy hz')
    .rw[ty b r.tb];simp
   .intro k hk hf;show (MC w f S x k).m=(MC w f S x b).m/\(MC w f S x k).up=true;have hf':f k=true:=hf;rw[ty k hf',ty b r.tb];exact⟨by simp only;rw[eq k hk hf'],(a6 k hk (r.tf k hk hf')).2⟩
   .intro y hy;show y∈(MC w f S x b).m;rcases hD y hy with hy|rfl
    .exact mt b y (a7 y hy)
    .rw[ty b r.tb];simp
 .intro y hy;rcases hD y hy with hy|rfl
  .exact BU.2 (.inl (h.dh y hy))
  .simp
 .intro y hy k hk z hz hyz;show y∈(MC w T S x k).m;rcases hD y hy with hyD|rfl
  .rcases tm k z hz with hz'|⟨rfl,ht⟩
   .exact mt k y (h.all y hyD k hk z hz' hyz)
   .rw[ty k ht];exact BU.2 (.inl (by rw[eq k hk ht];exact a7 y hyD))
  .rcases tm k z hz with hz'|⟨rfl,_⟩
   .have:=above z (h.hist k hk z hz');omega
   .exact hz
 .intro y hy;show ∃i j,i<3/\j<3/\i≠j/\y∈(MC w T S x i).m.take (MC w T S x i).a/\y∈(MC w T S x j).m.take (MC w T S x j).a;rcases hD y hy with hyD|rfl
  .obtain⟨i,j,c1,c2,c3,c4,c5⟩:=h.safe y hyD;exact⟨i,j,c1,c2,c3,st i c1 y c4,st j c2 y c5⟩
  .obtain⟨c,hc,hcb,sc,sb⟩:=hS hy;have key:∀k,S k=true->y∈(MC w T S y k).m.take (MC w T S y k).a:=fun k hk=>by
    rw[ty k (r.st k hk)];simp only;rw[if_pos hk,BL (by simp)];simp
   exact⟨b,c,a1,hc,hcb.symm,key b sb,key c sc⟩
theorem BG6{w:Aw}(h:A88 w)(r:WrA w b T S x)(hc:c<3)(hcb:c≠b)(sc:S c=true)(sb:S b=true):A88 (AI6 w b T S x):=by
 refine A89 h r (w.D++[x]) (fun y hy=>?_) ?_ (fun _=>⟨c,hc,hcb,sc,sb⟩) (FZ b) T (.inr ⟨rfl,rfl⟩)
 .rcases BU.1 hy with hy|hy
  .exact .inl hy
  .exact .inr (by simpa using hy)
 .show (w.D++[x]).Pairwise _;rw[DJ];refine⟨h.CH1,List.pairwise_singleton _ _,fun y hy z hz=>?_⟩;simp at hz;rw[hz];exact VA h r y (h.dh y hy)
theorem BG7{w:Aw}(h:A88 w)(r:WrA w b T S x):A88 (BG5 w T S x):=
 A89 h r w.D (fun y hy=>.inl hy) h.CH1 (fun hx=>absurd (VA h r x (h.dh x hx)) (by omega)) none (fun _=>false) (.inl rfl)
structure Dd where
 k:Int
 c:Int
 s:Int
 q:Rq
 lo:Int
 sl:Int
 ke:Int
 wt:Bool
def jT(d:Dd):List Value:=[I0 d.k,I0 d.c,I0 d.s,I0 d.q.o,I0 d.q.s,S0 d.q.p,S0 d.q.d,I0 d.q.v,I0 d.q.f,I0 d.lo,I0 d.sl,I0 d.ke,.bool d.wt]
def ddV(d:Dd):Value:=.agg #[I0 d.k,I0 d.c,I0 d.s,I0 d.q.o,I0 d.q.s,S0 d.q.p,S0 d.q.d,I0 d.q.v,I0 d.q.f,I0 d.lo,I0 d.sl,I0 d.ke,.bool d.wt]
instance layD:Lay Dd:=⟨13,jT,31,fun _=>rfl,fun x u hu=>by simp[jT]at hu;rcases hu with rfl|rfl|rfl|rfl|rfl|rfl|rfl|rfl|rfl|rfl|rfl|rfl|rfl<;>rfl⟩
structure Ps where
 up:Bool
 e:Int
 m:List GI
 a:Nat
 q:List UInt8
 dn:Nat
 ws:List Wa
structure Cl where
 s:Int
 z:Int
 es:List En
structure Pw where
 n:Int
 s:Nat->Ps
 r:Nat->Int
 c:Nat->Cl
 D:List GI
 H:List GI
 h:Nat
structure Rp where
 E:Int
 z:Int
 p:List UInt8
 d:List UInt8
 t:Nd
 ns:List Nt
def nd0:Nd:=⟨[],[],0,0,0,0,0,0,0⟩
def TQ(E:Int):Rp:=⟨E,0,[],[],nd0,[]⟩
def LU{α:Type}(f:Nat->α)(i:Nat)(v:α):Nat->α:=fun k=>if k=i then v else f k
theorem IG{α:Type}(f:Nat->α)(i:Nat)(v:α):LU f i v i=v:=by rw[LU,if_pos rfl]
theorem GH{α:Type}(f:Nat->α)(v:α)(h:k≠i):LU f i v k=f k:=by rw[LU,if_neg h]
def epD(e:Int):List DF:=if e=0 then []else [YZ e]
theorem AF2:epD 0=[]:=rfl
theorem A58(h:e≠0):epD e=[YZ e]:=by rw[epD,if_neg h]
noncomputable def svP(i:Nat)(p:Ps):Sv:=
 if p.up=true then⟨true,epD p.e++[⟨NW,IC (p.m.take p.a),IC (p.m.drop p.a)⟩],i,p.e,p.m,p.dn,OE p.m p.dn,p.ws⟩
 else⟨false,epD p.e++[⟨NW,IC p.m++p.q,[]⟩],i,0,[],0,RP,[]⟩
theorem J5{p:Ps}(h:p.up=true):svP i p=⟨true,epD p.e++[⟨NW,IC (p.m.take p.a),IC (p.m.drop p.a)⟩],i,p.e,p.m,p.dn,OE p.m p.dn,p.ws⟩:=by rw[svP,if_pos h]
theorem VP{p:Ps}(h:p.up=false):svP i p=⟨false,epD p.e++[⟨NW,IC p.m++p.q,[]⟩],i,0,[],0,RP,[]⟩:=by rw[svP,if_neg (by simp[h])]
def whole:List GI->Nat->Nat
 |[],_=>0
 |t::r,k=>if(QZ t).length<=k then 1+whole r (k-(QZ t).length)else 0
def BF0:List GI->Nat->List UInt8
 |[],_=>[]
 |t::r,k=>if(QZ t).length<=k then BF0 r (k-(QZ t).length)else(QZ t).take k
theorem sG:∀ (l:List GI) (k:Nat),whole l k<=l.length
 |[],_=>by simp[whole]
 |t::r,k=>by
  have:=sG r (k-(QZ t).length);unfold whole
  split
  .simp;omega
  .simp
theorem yG:∀ (l:List GI) (k:Nat),(IC l).take k=IC (l.take (whole l k))++BF0 l k
 |[],k=>by simp[IC,whole,BF0]
 |t::r,k=>by
  unfold whole BF0;by_cases h:(QZ t).length<=k
  .rw[if_pos h,if_pos h,Nat.add_comm,List.take_succ_cons,IC,IC,List.take_append,BL h,yG r,List.append_assoc]
  .rw[if_neg h,if_neg h,IC,List.take_append_of_le_length (by omega)];simp[IC]
theorem lM:∀ (l:List GI) (k:Nat),BF0 l k=[]\/∃t∈l,∃j,j<(QZ t).length/\BF0 l k=(QZ t).take j
 |[],_=>.inl rfl
 |t::r,k=>by
  unfold BF0;by_cases h:(QZ t).length<=k
  .rw[if_pos h];rcases lM r (k-(QZ t).length)with h1|⟨x,hx,j,hj,e⟩
   .exact .inl h1
   .exact .inr ⟨x,by simp[hx],j,hj,e⟩
  .rw[if_neg h];exact .inr ⟨t,by simp,k,by omega,rfl⟩
def OB(p:Ps)(k:Nat):Ps:=⟨false,p.e,p.m.take (p.a+whole (p.m.drop p.a) k),p.a+whole (p.m.drop p.a) k,BF0 (p.m.drop p.a) k,0,[]⟩
def upP(p:Ps):Ps:=⟨true,p.e,p.m,p.m.length,[],0,[]⟩
noncomputable def dM(i:Nat)(p:Ps):Sv×List Nt:=csP (svP i p) (p.m.drop p.dn) (p.m.length-p.dn)
noncomputable def gX(i:Nat)(p:Ps):Ps:=⟨p.up,p.e,p.m,p.a,p.q,p.m.length,(dM i p).1.ws⟩
noncomputable def LV(s:Nat->Ps):List Nat->(Nat->Ps)×List Nt
 |[]=>(s,[])
 |i::l=>((LV (LU s i (gX i (s i))) l).1,(dM i (s i)).2++(LV (LU s i (gX i (s i))) l).2)
def ZW(c:Nat->Cl)(l:List Nt):Nat->Cl:=fun k=>⟨(c k).s,(c k).z,UN (c k).s l (c k).es⟩
def ldP(r:Nat->Int):Int:=if r 0=2 then 0 else if r 1=2 then 1 else if r 2=2 then 2 else -1
def JX(s:Nat->Ps):List Nat:=[0,1,2].filter fun i=>(s i).up
def QV(s:Nat->Ps):List Key:=(JX s).map fun(i:Nat)=>((i:Int),(s i).e,J4 (s i).m)
def eB(s:Nat->Ps):Nat:=(JX s).getD (MJ (QV s) (JX s).length) 0
def eN(s:Nat->Ps):Int:=WL (QV s)+1
def AQ1(s:Nat->Ps):Bool:=(JX s).any fun i=>decide (KY (s i).m (s (eB s)).m<(s i).dn)
def yH(e:Int)(m:List GI)(p:Ps):Ps:=⟨true,e,m,m.length,[],p.dn,p.ws⟩
def eS(s:Nat->Ps):Nat->Ps:=fun k=>if(s k).up=true/\k<3 then yH (eN s) (s (eB s)).m (s k)else s k
def eR(s:Nat->Ps):Nat->Int:=fun k=>if k=eB s then 2 else if(s k).up=true/\k<3 then 1 else 0
noncomputable def SY(p:Pw):Rp×Pw:=
 if(JX p.s).length<2 then(TQ 14,p)else if AQ1 p.s=true then(TQ 13,p)
 else(⟨0,J4 (p.s (eB p.s)).m,[],[],nd0,(LV (eS p.s) (JX p.s)).2⟩,⟨p.n,(LV (eS p.s) (JX p.s)).1,eR p.s,ZW p.c (LV (eS p.s) (JX p.s)).2,p.D,p.H,p.h⟩)
noncomputable def TS(p:Pw)(i:Nat)(ke:Int):Rp×Pw:=
 if(p.s i).up=false then(TQ 14,p)else if ke<0 then(TQ 3,p)
 else(TQ 0,⟨p.n,LU p.s i (OB (p.s i) ke.toNat),if p.r i=2 then fun _=>0 else LU p.r i 0,p.c,p.D,p.H,p.h⟩)
def upW(p:Pw)(i:Nat):Rp×Pw:=
 if(p.s i).up=true then(TQ 8,p)else(TQ 0,⟨p.n,LU p.s i (upP (p.s i)),p.r,p.c,p.D,p.H,p.h⟩)
def zL(n:Int)(i:Nat):Bool:=decide (n/2^i%2=1)
def ldN(r:Nat->Int):Nat:=(ldP r).toNat
def wZ(p:Pw):Int:=nxN (p.s (ldN p.r)).e (J4 (p.s (ldN p.r)).m)
def wQ(p:Pw)(d:Dd):Rq:=⟨d.q.o,(p.c d.c.toNat).s,d.q.p,d.q.d,d.q.v,d.q.f⟩
noncomputable def wTr(p:Pw):Tr:=OE (p.s (ldN p.r)).m (p.s (ldN p.r)).dn
noncomputable def wE(p:Pw)(d:Dd):Int:=fM (wTr p) (wZ p) (wQ p d)
noncomputable def wX(p:Pw)(d:Dd):GI:=AK2 (wTr p) (wZ p) (wQ p d)
def wT(p:Pw)(d:Dd)(i:Nat):Bool:=decide (p.r i=2)||(decide (p.r i=1)&& !zL d.lo i)
def wS(p:Pw)(d:Dd)(i:Nat):Bool:=wT p d i&&(decide (p.r i=2)|| !zL d.sl i)
def TA(x:GI)(sure:Bool)(p:Ps):Ps:=⟨p.up,p.e,p.m++[x],if sure=true then p.m.length+1 else p.a,p.q,p.dn,p.ws⟩
noncomputable def wSv(p:Pw)(d:Dd):Nat->Ps:=fun k=>if wT p d k=true then TA (wX p d) (wS p d k) (p.s k)else p.s k
def wRo(p:Pw)(d:Dd):Nat->Int:=fun k=>if wT p d k=true then p.r k else 0
def wL(p:Pw)(d:Dd):List Nat:=[0,1,2].filter fun i=>wS p d i
def nM(t:Tr)(p:List UInt8):Option Nd:=t.ns.find? fun n=>decide (n.p=p)
noncomputable def wCl(p:Pw)(d:Dd)(l:List Nt):Nat->Cl:=LU (ZW p.c l) d.c.toNat ⟨(ZW p.c l d.c.toNat).s,wZ p,(ZW p.c l d.c.toNat).es⟩
noncomputable def PU(p:Pw)(d:Dd):Rp×Pw:=
 if ldP p.r=-1 then(TQ 14,p)else if wE p d≠0 then(TQ (wE p d),p)
 else if(wL p d).length<2 then(⟨16,(wX p d).z,[],[],nd0,[]⟩,⟨p.n,wSv p d,fun _=>0,p.c,p.D,p.H++[wX p d],p.h⟩)
 else(⟨0,(wX p d).z,(wX p d).p,[],(nM (OE ((p.s (ldN p.r)).m++[wX p d]) ((p.s (ldN p.r)).m.length+1)) (wX p d).p).getD nd0,(LV (wSv p d) (wL p d)).2⟩,
  ⟨p.n,(LV (wSv p d) (wL p d)).1,wRo p d,wCl p d (LV (wSv p d) (wL p d)).2,p.D++[wX p d],p.H++[wX p d],p.h⟩)
noncomputable def rTr(p:Pw)(d:Dd):Tr:=OE (p.s d.s.toNat).m (p.s d.s.toNat).dn
noncomputable def rN(p:Pw)(d:Dd):Option Nd:=nM (rTr p d) d.q.p
def rWa(p:Pw)(d:Dd):Wa:=⟨(p.c d.c.toNat).s,1,d.q.p⟩
def zM(q:Ps)(x:Wa):Ps:=⟨q.up,q.e,q.m,q.a,q.q,q.dn,pK q.ws x⟩
noncomputable def BQ4(p:Pw)(d:Dd):Rp:=⟨if(rN p d).isSome=true then 0 else 7,(rTr p d).z,((rN p d).getD nd0).p,((rN p d).getD nd0).d,(rN p d).getD nd0,[]⟩
noncomputable def lN(p:Pw)(d:Dd):Rp×Pw:=
 if(p.s d.s.toNat).up=false then(TQ 14,p)else if(rTr p d).z<(p.c d.c.toNat).z then(TQ 15,p)
 else if d.wt=false then(BQ4 p d,⟨p.n,p.s,p.r,LU p.c d.c.toNat ⟨(p.c d.c.toNat).s,(rTr p d).z,(p.c d.c.toNat).es⟩,p.D,p.H,p.h⟩)
 else if bZ (p.s d.s.toNat).ws (rWa p d)≠0 then(TQ (bZ (p.s d.s.toNat).ws (rWa p d)),p)
 else(BQ4 p d,⟨p.n,LU p.s d.s.toNat (zM (p.s d.s.toNat) (rWa p d)),p.r,LU p.c d.c.toNat ⟨(p.c d.c.toNat).s,(rTr p d).z,WJ (p.c d.c.toNat).es ⟨d.q.p,((rN p d).getD nd0).d,(rN p d).isSome⟩⟩,p.D,p.H,p.h⟩)
def pU(i:Int)(n:Int):Bool:=decide (0<=i)&&decide (i<n)
def UO(d:Dd):Int:=
 if d.k=1 then(if pU d.c 16=true then 0 else 3)else if d.k=2 then(if pU d.c 16=true/\pU d.s 3=true then 0 else 3)
 else if d.k=3\/d.k=4 then(if pU d.s 3=true then 0 else 3)else if d.k=5 then 0 else 4
noncomputable def lQ(p:Pw)(d:Dd):Rp×Pw:=
 if d.k=1 then PU p d else if d.k=2 then lN p d else if d.k=3 then TS p d.s.toNat d.ke else if d.k=4 then upW p d.s.toNat else SY p
def MR(p:Pw):Pw:=⟨p.n+1,p.s,p.r,p.c,p.D,p.H,p.h⟩
noncomputable def doP(p:Pw)(d:Dd):Rp×Pw:=
 if 300<=p.n then(TQ 6,p)else if UO d≠0 then(TQ (UO d),MR p)else lQ (MR p) d
def ps0:Ps:=⟨true,0,[],0,[],0,[]⟩
def pw0(k:Nat):Pw:=⟨0,fun _=>ps0,fun _=>0,fun i=>⟨i+1,0,[]⟩,[],[],k⟩
noncomputable def OZ(p:Pw):List Dd->Pw
 |[]=>p
 |d::l=>OZ (doP p d).2 l
def yK(m:List GI):Prop:=∀i x,m[i]?=FZ x->WG (OE m i) x=0
structure ML(N:Int)(p:Ps):Prop where
 log:Logs p.m
 pos:∀x∈p.m,0<x.z
 len:(p.m.length:Int)<=N
 a:p.a<=p.m.length
 e0:0<=p.e
 e1:p.e<=N
 dn:p.dn<=p.m.length
 play:yK p.m
 wl:(p.ws.length:Int)<=N
 wk:∀x∈p.ws,1<=x.s/\x.s<=16/\x.k=1/\II x.p=true
 down:p.up=false->p.a=p.m.length/\p.dn=0/\p.ws=[]/\Scan (IC p.m++p.q) p.m p.q/\p.q.length<=487
 upq:p.up=true->p.q=[]
theorem ML.more{M:Int}{p:Ps}(h:ML N p)(hM:N<=M):ML M p:=
 ⟨h.log,h.pos,Int.le_trans h.len hM,h.a,h.e0,Int.le_trans h.e1 hM,h.dn,h.play,Int.le_trans h.wl hM,h.wk,h.down,h.upq⟩
structure uM(N:Int)(H:List GI)(i:Nat)(c:Cl):Prop where
 s:c.s=i+1
 z:c.z=0\/∃x∈H,c.z=x.z
 asc:B66 c.es
 len:(c.es.length:Int)<=N
 sh:∀x∈c.es,x.p.length<=200/\x.d.length<=256
def awP(p:Pw):Aw:=
 ⟨fun k=>if k<3 then⟨(p.s k).up,(p.s k).m,(p.s k).a,(p.s k).e⟩else⟨false,[],0,0⟩,if ldP p.r=-1 then none else FZ (ldN p.r),fun k=>decide (k<3)&&decide (p.r k≠0),p.D,p.H⟩
structure PX(p:Pw):Prop where
 n0:0<=p.n
 n1:p.n<=300
 s:∀i,i<3->ML p.n (p.s i)
 r:∀i,i<3->p.r i=0\/p.r i=1\/p.r i=2
 one:∀i j,i<3->j<3->p.r i=2->p.r j=2->i=j
 led:ldP p.r=-1->∀i,i<3->p.r i=0
 rup:∀i,i<3->p.r i≠0->(p.s i).up=true
 all:∀b,b<3->p.r b=2->(p.s b).dn=(p.s b).m.length
 a:A88 (awP p)
 c:∀i,i<16->uM p.n p.H i (p.c i)
 cnt:∀x∈p.H,x.z%2147483648<=p.n
 few:(p.D.length:Int)<=p.n
theorem iQ{r:Nat->Int}(hb:b<3)(h:r b=2)(ho:∀i j,i<3->j<3->r i=2->r j=2->i=j):ldP r=b:=by
 have e:∀i,i<3->(r i=2↔i=b):=fun i hi=>⟨fun h1=>ho i b hi hb h1 h,fun h1=>by rw[h1];exact h⟩;unfold ldP;have h0:=e 0 (by omega);have h1:=e 1 (by omega);have h2:=e 2 (by omega);rcases(show b=0\/b=1\/b=2 by omega)with rfl|rfl|rfl<;>simp_all
theorem Y8(r:Nat->Int):(ldP r=-1/\∀i,i<3->r i≠2)\/∃b,b<3/\ldP r=(b:Nat)/\r b=2:=by
 unfold ldP;by_cases h0:r 0=2
 .exact .inr ⟨0,by omega,by rw[if_pos h0];rfl,h0⟩
 .by_cases h1:r 1=2
  .exact .inr ⟨1,by omega,by rw[if_neg h0,if_pos h1];rfl,h1⟩
  .by_cases h2:r 2=2
   .exact .inr ⟨2,by omega,by rw[if_neg h0,if_neg h1,if_pos h2];rfl,h2⟩
   .refine .inl ⟨by rw[if_neg h0,if_neg h1,if_neg h2],fun i hi=>?_⟩;rcases(show i=0\/i=1\/i=2 by omega)with rfl|rfl|rfl<;>assumption
theorem cZ{p:Pw}(h:PX p)(hb:b<3)(hr:p.r b=2):(awP p).ld=FZ b/\ldN p.r=b/\ldP p.r=b:=by
 have:=iQ hb hr h.one;simp only[awP,ldN,this];refine⟨?_,by omega,trivial⟩;rw[if_neg (by omega)];simp
theorem AG0{p:Pw}(h:ldP p.r=-1):(awP p).ld=none:=by simp only[awP,h];rfl
theorem LQ{p:Pw}(hk:k<3):(awP p).s k=⟨(p.s k).up,(p.s k).m,(p.s k).a,(p.s k).e⟩:=by simp only[awP,if_pos hk]
theorem WE{p:Pw}(hk:¬k<3):(awP p).s k=⟨false,[],0,0⟩:=by simp only[awP,if_neg hk]
theorem pW{a b:Aw}(h1:∀k,a.s k=b.s k)(h2:a.ld=b.ld)(h3:∀k,a.f k=b.f k)(h4:a.D=b.D)(h5:a.H=b.H):a=b:=by
 obtain⟨s,l,f,D,H⟩:=a;obtain⟨s',l',f',D',H'⟩:=b;simp only at*;rw[show s=s' from funext h1,show f=f' from funext h3,h2,h4,h5]
theorem dA(m:List GI)(h:i<=j):OE (m.take j) i=OE m i:=by
 unfold OE;rw[List.take_take,Nat.min_eq_left h]
theorem yK.take(h:yK m)(j:Nat):yK (m.take j):=by
 intro i x hi;have hlt:=(AU.1 hi).1;simp at hlt;rw[dA m (by omega)];rw[List.getElem?_take_of_lt (by omega)]at hi;exact h i x hi
theorem yK.snoc(h:yK m)(hx:WG (OE m m.length) x=0):yK (m++[x]):=by
 intro i y hi;by_cases e:i<m.length
 .rw[List.getElem?_append_left e]at hi;rw[VN m x (by omega)];exact h i y hi
 .have hlt:=(AU.1 hi).1;simp at hlt;obtain rfl:i=m.length:=by omega
  simp at hi;subst hi;rw[VN m x (A8 _)];exact hx
theorem yK.good(h:yK m)(hi:i<=m.length):QA (OE m i):=by
 cases i with
 |zero=>rw[XW];exact bP
 |succ i=>
  obtain⟨x,hx⟩:∃x,m[i]?=FZ x:=⟨_,AL (by omega)⟩;rw[XY hx];exact(YK (h i x hx)).1
theorem yK.z(h:yK m)(hx:m[i]?=FZ x):(OE m (i+1)).z=x.z:=by
 rw[XY hx];exact(YK (h i x hx)).2.1
theorem yK.z_of(h:yK m)(hi:i<=m.length):(OE m i).z=0\/∃x∈m,(OE m i).z=x.z:=by
 cases i with
 |zero=>rw[XW];exact .inl rfl
 |succ i=>
  obtain⟨x,hx⟩:∃x,m[i]?=FZ x:=⟨_,AL (by omega)⟩;exact .inr ⟨x,List.mem_of_getElem? hx,h.z hx⟩
theorem Logs.take(h:Logs m)(j:Nat):Logs (m.take j):=
 ⟨fun t ht=>h.good t (List.mem_of_mem_take ht),h.rise.sublist (List.take_sublist _ _)⟩
theorem sN(h:Logs m)(hl:m.length<=300):(IC m).length<=146100:=by
 have:=A86 m h.good;omega
theorem C92(xs:List GI):∀ (s:Sv) (N:List Nt),(∀x∈(xs.foldl stP (s,N)).1.ws,x∈s.ws)/\(xs.foldl stP (s,N)).2.length+(xs.foldl stP (s,N)).1.ws.length<=N.length+s.ws.length/\(∀n∈(xs.foldl stP (s,N)).2,n∈N\/∃x∈s.ws,n.s=x.s/\n.p=x.p/\(x.k≠2->1<=n.k/\n.k<=3)):=by
 induction xs with
 |nil=>intro s N;exact⟨fun x h=>h,A8 _,fun n hn=>.inl hn⟩
 |cons y xs ih=>
  intro s N;rw[List.foldl_cons];obtain⟨h1,h2,h3⟩:=ih (fV s y) (N++OX s.ws (YJ s.tr y));have w1:∀x∈(fV s y).ws,x∈s.ws:=by
   intro x hx;have hx:x∈XM s y:=hx;unfold XM at hx
   split at hx
   .exact(jU _ _ _ (EH.1 hx).1).1
   .exact(jU _ _ _ hx).1
  have w2:(fV s y).ws.length<=(LG s.ws (YJ s.tr y)).length:=by
   show (XM s y).length<=_;unfold XM
   split
   .exact xM _ _
   .exact A8 _
  have w3:=iI (YJ s.tr y) s.ws;have w4:∀ (es:List Ev) (ws:List Wa) (n:Nt),n∈OX ws es->∃x∈ws,n.s=x.s/\n.p=x.p/\(x.k≠2->1<=n.k/\n.k<=3):=by
   intro es
   induction es with
   |nil=>intro ws n h;simp[OX]at h
   |cons e r ihe=>
    intro ws n h;rcases BU.1 (show n∈TW ws e++OX (nD ws e) r from h)with h|h
    .simp only[TW,EU,EH]at h;obtain⟨x,⟨hx,ho⟩,rfl⟩:=h;refine⟨x,hx,rfl,?_,fun hk=>?_⟩
     .simp only[zJ,BZ,decide_eq_true_eq]at ho;exact ho.1.symm
     .simp only[zJ,if_neg hk,BZ,Bool.or_eq_true,decide_eq_true_eq]at ho;simp only[AY2];omega
    .obtain⟨x,hx,h⟩:=ihe (nD ws e) n h;exact⟨x,(EH.1 hx).1,h⟩
  refine⟨fun x hx=>w1 x (h1 x hx),?_,fun n hn=>?_⟩
  .simp only[AO]at h2;have:(xs.foldl stP (stP (s,N) y))=xs.foldl stP (fV s y,N++OX s.ws (YJ s.tr y)):=rfl;rw[this];omega
  .rcases h3 n hn with h|⟨x,hx,h⟩
   .rcases BU.1 h with h|h
    .exact .inl h
    .exact .inr (w4 _ _ _ h)
   .exact .inr ⟨x,w1 x hx,h⟩
theorem CM8{p:Ps}(h:p.up=true):(svP i p).ws=p.ws:=by rw[J5 h]
theorem B76{p:Ps}(h:p.up=true):(∀x∈(dM i p).1.ws,x∈p.ws)/\(dM i p).2.length+(dM i p).1.ws.length<=p.ws.length/\(∀n∈(dM i p).2,∃x∈p.ws,n.s=x.s/\n.p=x.p/\(x.k≠2->1<=n.k/\n.k<=3)):=by
 obtain⟨h1,h2,h3⟩:=C92 ((p.m.drop p.dn).take (p.m.length-p.dn)) (svP i p) [];rw[CM8 h]at h1 h2 h3;refine⟨h1,by simp only[List.length_nil,Nat.zero_add]at h2;exact h2,fun n hn=>?_⟩;rcases h3 n hn with h|h
 .simp at h
 .exact h
theorem BZ5{p:Ps}(h:ML N p)(hu:p.up=true):ML N (gX i p):=by
 obtain⟨h1,h2,_⟩:=B76 (i:=i) hu;refine⟨h.log,h.pos,h.len,h.a,h.e0,h.e1,A8 _,h.play,?_,fun x hx=>h.wk x (h1 x hx),fun hd=>?_,h.upq⟩
 .have:=h.wl;show ((dM i p).1.ws.length:Int)<=N;omega
 .have:p.up=false:=hd;rw[hu]at this
  cases this
theorem sO{p:Ps}(h:ML N p)(k:Nat):ML N (OB p k):=by
 have hw:=sG (p.m.drop p.a) k;have ha:=h.a;have hl:=h.len;simp at hw;have CG3:=h.log.take (p.a+whole (p.m.drop p.a) k);refine⟨CG3,fun x hx=>h.pos x (List.mem_of_mem_take hx),?_,?_,h.e0,h.e1,AY _,h.play.take _,?_,by simp[OB],fun _=>⟨?_,rfl,rfl,?_,?_⟩,by simp[OB]⟩
 .simp[OB];omega
 .simp[OB];omega
 .have:=h.e0;have:=h.e1;simp[OB];omega
 .simp[OB];omega
 .show Scan (IC (p.m.take (p.a+whole (p.m.drop p.a) k))++BF0 (p.m.drop p.a) k) _ _;rcases lM (p.m.drop p.a) k with e|⟨t,ht,j,hj,e⟩
  .rw[OB];simp only[e];rw[List.append_nil];exact uV CG3
  .rw[OB];simp only[e];exact AU4 CG3 (h.log.good t (List.mem_of_mem_drop ht)) hj
 .show (BF0 (p.m.drop p.a) k).length<=487;rcases lM (p.m.drop p.a) k with e|⟨t,ht,j,hj,e⟩
  .simp[e]
  .have:=jG (h.log.good t (List.mem_of_mem_drop ht));rw[e];simp;omega
theorem CM9{p:Ps}(h:ML N p):ML N (upP p):=by
 have:=h.e0;have:=h.e1;exact⟨h.log,h.pos,h.len,A8 _,h.e0,h.e1,AY _,h.play,by simp[upP];omega,by simp[upP],by simp[upP],fun _=>rfl⟩
theorem CN0{p q:Ps}(h:ML N p)(hq:ML N q)(e0:0<=e)(e1:e<=N)(hd:p.dn<=q.m.length):ML N (yH e q.m p):=
 ⟨hq.log,hq.pos,hq.len,A8 _,e0,e1,hd,hq.play,h.wl,h.wk,by simp[yH],fun _=>rfl⟩
theorem C93{p:Ps}(sure:Bool)(h:ML N p)(hu:p.up=true)(hg:gdE x=0)(hz:J4 p.m<x.z)(h0:0<x.z)(hx:WG (OE p.m p.m.length) x=0):ML (N+1) (TA x sure p):=by
 have hl:=h.len;have ha:=h.a;have hd:=h.dn;refine⟨⟨fun y hy=>?_,?_⟩,fun y hy=>?_,?_,?_,h.e0,by have:=h.e1;show p.e<=_;omega,?_,h.play.snoc hx,by have:=h.wl;show (p.ws.length:Int)<=_;omega,h.wk,fun e=>?_,h.upq⟩
 .rcases BU.1 hy with hy|hy
  .exact h.log.good y hy
  .rw[List.mem_singleton.1 hy];exact hg
 .refine DJ.2 ⟨h.log.rise,List.pairwise_singleton _ _,fun a ha b hb=>?_⟩;rw[List.mem_singleton.1 hb];have:=h.log.le_last ha;omega
 .rcases BU.1 hy with hy|hy
  .exact h.pos y hy
  .rw[List.mem_singleton.1 hy];exact h0
 .simp[TA];omega
 .simp only[TA,AO,List.length_singleton]
  split<;>omega
 .simp[TA];omega
 .have e:p.up=false:=e;rw[hu]at e
  cases e
theorem BZ6{p:Ps}{x:Wa}(h:ML N p)(hu:p.up=true)(hE:bZ p.ws x=0)(hk:x.k=1)(hs:1<=x.s/\x.s<=16):ML (N+1) (zM p x):=by
 have hg:II x.p=true:=by
  unfold bZ at hE
  split at hE
  .rename_i hc;exact absurd hE hc
  .rename_i hc
   have hc:uK x=0:=by omega
   unfold uK at hc
   cases hb:II x.p with
   |true=>rfl
   |false=>simp[hk,hb]at hc
 have hw:=h.wl;have hL:pK p.ws x=p.ws\/pK p.ws x=p.ws++[x]:=by
  unfold pK;rw[if_neg (by simp[hE])]
  split
  .exact .inl rfl
  .exact .inr rfl
 refine⟨h.log,h.pos,by have:=h.len;show (p.m.length:Int)<=_;omega,h.a,h.e0,by have:=h.e1;show p.e<=_;omega,h.dn,h.play,?_,fun y hy=>?_,fun e=>?_,h.upq⟩
 .show ((pK p.ws x).length:Int)<=_;rcases hL with e|e
  .rw[e];omega
  .rw[e,AO,List.length_singleton];omega
 .have hy:y∈pK p.ws x:=hy;rcases hL with e|e
  .rw[e]at hy;exact h.wk y hy
  .rw[e]at hy;rcases BU.1 hy with hy|hy
   .exact h.wk y hy
   .rw[List.mem_singleton.1 hy];exact⟨hs.1,hs.2,hk,hg⟩
 .have e:p.up=false:=e;rw[hu]at e
  cases e
theorem uM.more{M:Int}{G:List GI}{c:Cl}(h:uM N H i c)(hM:N<=M)(hH:∀x∈H,x∈G):uM M G i c:=
 ⟨h.s,by rcases h.z with e|⟨x,hx,e⟩;exact .inl e;exact .inr ⟨x,hH x hx,e⟩,h.asc,Int.le_trans h.len hM,h.sh⟩
theorem QG{p:Pw}(h:PX p)(hn:p.n<300):PX (MR p):=by
 have h1:p.n<=p.n+1:=by omega
 exact⟨by have:=h.n0;show (0:Int)<=p.n+1;omega,by show p.n+1<=300;omega,fun i hi=>(h.s i hi).more h1,h.r,h.one,h.led,h.rup,h.all,h.a,fun i hi=>(h.c i hi).more h1 fun _ hx=>hx,fun x hx=>Int.le_trans (h.cnt x hx) h1,Int.le_trans h.few h1⟩
theorem B80{r:Nat->Int}{v:Int}(hr:r i≠2)(hv:v≠2):ldP (LU r i v)=ldP r:=by
 have e:∀k,(LU r i v k=2↔r k=2):=by
  intro k;by_cases hk:k=i
  .subst hk;rw[IG];exact⟨fun h=>absurd h hv,fun h=>absurd h hr⟩
  .rw[GH _ _ hk]
 unfold ldP;simp only[e]
theorem sU:ldP (fun _=>0)=-1:=by simp[ldP]
theorem AQ4{p:Pw}(h:PX p)(hi:i<3)(k:Nat):PX ⟨p.n,LU p.s i (OB (p.s i) k),if p.r i=2 then fun _=>0 else LU p.r i 0,p.c,p.D,p.H,p.h⟩:=by
 have hw:=sG ((p.s i).m.drop (p.s i).a) k;simp at hw;have ha:=(h.s i hi).a;have hA:=AU5 (j:=(p.s i).a+whole ((p.s i).m.drop (p.s i).a) k) h.a hi (by rw[LQ hi];simp) (by rw[LQ hi];show _<=(p.s i).m.length;omega);have hld:(awP p).ld=FZ i↔p.r i=2:=by
  rcases Y8 p.r with⟨e,hno⟩|⟨b,hb,e,hr⟩
  .rw[AG0 e];exact⟨fun h=>by simp at h,fun h=>absurd h (hno i hi)⟩
  .rw[(cZ h hb hr).1];constructor
   .intro e;cases e;exact hr
   .intro e;rw[h.one b i hb hi hr e]
 refine⟨h.n0,h.n1,fun j hj=>?_,fun j hj=>?_,fun j l hj hl=>?_,fun hn j hj=>?_,fun j hj=>?_,fun b hb=>?_,?_,h.c,h.cnt,h.few⟩
 .by_cases e:j=i
  .subst e;simp only[IG];exact sO (h.s j hj) k
  .simp only[GH _ _ e];exact h.s j hj
 .by_cases e2:p.r i=2
  .simp[e2]
  .simp only[if_neg e2];by_cases e:j=i
   .subst e;simp[IG]
   .rw[GH _ _ e];exact h.r j hj
 .by_cases e2:p.r i=2
  .simp[e2]
  .simp only[if_neg e2];by_cases e:j=i
   .subst e;simp[IG]
   .by_cases e':l=i
    .subst e';simp[IG]
    .rw[GH _ _ e,GH _ _ e'];exact h.one j l hj hl
 .by_cases e2:p.r i=2
  .simp[e2]
  .simp only[if_neg e2]at hn⊢;rw[B80 e2 (by decide)]at hn;by_cases e:j=i
   .subst e;simp[IG]
   .rw[GH _ _ e];exact h.led hn j hj
 .by_cases e2:p.r i=2
  .simp[e2]
  .simp only[if_neg e2];by_cases e:j=i
   .subst e;simp[IG]
   .rw[GH _ _ e,GH _ _ e];exact h.rup j hj
 .by_cases e2:p.r i=2
  .simp[e2]
  .simp only[if_neg e2];by_cases e:b=i
   .subst e;simp[IG]
   .rw[GH _ _ e,GH _ _ e];exact h.all b hb
 .rw[show awP ⟨p.n,LU p.s i (OB (p.s i) k),if p.r i=2 then fun _=>0 else LU p.r i 0,p.c,p.D,p.H,p.h⟩=L9 (awP p) i ((p.s i).a+whole ((p.s i).m.drop (p.s i).a) k)from ?_]
  .exact hA
  .refine pW (fun j=>?_) ?_ (fun j=>?_) rfl rfl
   .by_cases hj:j<3
    .rw[LQ hj];by_cases e:j=i
     .subst e;simp only[L9,aO,IG,LQ hj,OB]
     .simp only[L9,RJ _ _ e,GH _ _ e,LQ hj]
    .rw[WE hj];simp only[L9,RJ _ _ (show j≠i by omega),WE hj]
   .by_cases e2:p.r i=2
    .simp only[L9,if_pos (hld.2 e2)];exact AG0 (by simp only[if_pos e2];exact sU)
    .simp only[L9,if_neg (fun e=>e2 (hld.1 e))];simp only[awP,if_neg e2,B80 e2 (show (0:Int)≠2 by decide),ldN]
   .show (decide (j<3)&&decide ((if p.r i=2 then(fun _=>(0:Int))else LU p.r i 0) j≠0))=(if(awP p).ld=FZ i then false else if j=i then false else(decide (j<3)&&decide (p.r j≠0)));by_cases e2:p.r i=2
    .rw[if_pos e2,if_pos (hld.2 e2)];simp
    .rw[if_neg e2,if_neg (fun e=>e2 (hld.1 e))];by_cases e:j=i
     .subst e;rw[if_pos rfl,IG];simp
     .rw[if_neg e,GH _ _ e]
theorem C99{p:Pw}(h:PX p)(hi:i<3)(hu:(p.s i).up=false):PX ⟨p.n,LU p.s i (upP (p.s i)),p.r,p.c,p.D,p.H,p.h⟩:=by
 have hr0:p.r i=0:=by
  by_cases e:p.r i=0
  .exact e
  .rw[h.rup i hi e]at hu;cases hu
 have hA:=CH2 h.a i;refine⟨h.n0,h.n1,fun j hj=>?_,h.r,h.one,h.led,fun j hj hj0=>?_,fun b hb hb2=>?_,?_,h.c,h.cnt,h.few⟩
 .by_cases e:j=i
  .subst e;simp only[IG];exact CM9 (h.s j hj)
  .simp only[GH _ _ e];exact h.s j hj
 .by_cases e:j=i
  .subst e;exact absurd hr0 hj0
  .simp only[GH _ _ e];exact h.rup j hj hj0
 .by_cases e:b=i
  .subst e;rw[hr0]at hb2;cases hb2
  .simp only[GH _ _ e];exact h.all b hb hb2
 .rw[show awP ⟨p.n,LU p.s i (upP (p.s i)),p.r,p.c,p.D,p.H,p.h⟩=upA (awP p) i from ?_]
  .exact hA
  .refine pW (fun j=>?_) rfl (fun j=>rfl) rfl rfl;by_cases hj:j<3
   .rw[LQ hj];by_cases e:j=i
    .subst e;simp only[upA,aO,IG,LQ hj,upP,((h.s j hj).down hu).1]
    .simp only[upA,RJ _ _ e,GH _ _ e,LQ hj]
   .rw[WE hj];simp only[upA,RJ _ _ (show j≠i by omega),WE hj]
theorem fE:∀ (l:List Nat) (s:Nat->Ps) (k:Nat),l.Nodup->(LV s l).1 k=if k∈l then gX k (s k)else s k
 |[],s,k,_=>by simp[LV]
 |i::l,s,k,hn=>by
  obtain⟨h1,h2⟩:=List.nodup_cons.1 hn;unfold LV;rw[fE l _ k h2];by_cases e:k=i
  .subst e;simp[h1,IG]
  .simp only[GH _ _ e,BO,e,false_or]
theorem KQ{s:Nat->Ps}:k∈JX s↔k<3/\(s k).up=true:=by
 simp only[JX,EH,BO,List.not_mem_nil,or_false];constructor
 .rintro⟨h,hu⟩;exact⟨by omega,hu⟩
 .rintro⟨h,hu⟩;exact⟨by omega,hu⟩
theorem TF(s:Nat->Ps):(JX s).Nodup:=(show [0,1,2].Nodup by decide).filter _
theorem sV(p:Pw)(d:Dd):(wL p d).Nodup:=(show [0,1,2].Nodup by decide).filter _
theorem gJ{p:Pw}{d:Dd}:k∈wL p d↔k<3/\wS p d k=true:=by
 simp only[wL,EH,BO,List.not_mem_nil,or_false];constructor
 .rintro⟨h,hu⟩;exact⟨by omega,hu⟩
 .rintro⟨h,hu⟩;exact⟨by omega,hu⟩
theorem AG1(ks:List Key):∀n,n<=ks.length->∀j,j<n->(ks.getD j (0,0,0)).2.2<=(ks.getD (MJ ks n) (0,0,0)).2.2
 |0,_,j,hj=>by omega
 |n+1,hn,j,hj=>by
  have ih:=AG1 ks n (by omega);unfold MJ;by_cases hb:bet (ks.getD n (0,0,0)) (ks.getD (MJ ks n) (0,0,0))=true
  .rw[if_pos hb];have hle:(ks.getD (MJ ks n) (0,0,0)).2.2<=(ks.getD n (0,0,0)).2.2:=by
    simp only[bet,Bool.or_eq_true,BZ,decide_eq_true_eq]at hb;omega
   by_cases e:j=n
   .subst e;exact Int.le_refl _
   .exact Int.le_trans (ih j (by omega)) hle
  .rw[if_neg hb];by_cases e:j=n
   .subst e;simp only[bet,Bool.or_eq_true,BZ,decide_eq_true_eq]at hb;omega
   .exact ih j (by omega)
theorem dB(s:Nat->Ps):(QV s).length=(JX s).length:=by simp[QV]
theorem AG2{s:Nat->Ps}(hj:j<(JX s).length):(QV s).getD j (0,0,0)=((((JX s).getD j 0:Nat):Int),(s ((JX s).getD j 0)).e,J4 (s ((JX s).getD j 0)).m):=by
 simp[QV,List.getD_eq_getElem?_getD,AL hj]
theorem AG3{s:Nat->Ps}(h:2<=(JX s).length):eB s∈JX s:=by
 have hl:=XZ (QV s) (JX s).length;unfold eB;rw[List.getD_eq_getElem?_getD,AL (show MJ (QV s) (JX s).length<(JX s).length by omega)];exact List.getElem_mem _
theorem CN2{s:Nat->Ps}(h:2<=(JX s).length)(hk:k∈JX s):J4 (s k).m<=J4 (s (eB s)).m:=by
 have hl:=XZ (QV s) (JX s).length;obtain⟨j,hj,rfl⟩:=List.getElem_of_mem hk;have hm:=AG1 (QV s) (JX s).length (by rw[dB];exact A8 _) j hj;rw[AG2 hj,AG2 (by omega)]at hm;have e:(JX s).getD j 0=(JX s)[j]:=by rw[List.getD_eq_getElem?_getD,AL hj];rfl
 rw[e]at hm;exact hm
theorem CW3{s:Nat->Ps}(hk:k∈JX s):(s k).e<eN s:=by
 have:=(C88 (ks:=QV s) (k:=((k:Int),(s k).e,J4 (s k).m)) (EU.2 ⟨k,hk,rfl⟩)).1;unfold eN;simp only at this;omega
theorem CN3{s:Nat->Ps}(h:2<=(JX s).length)(b:Nat):∃c,c<3/\b≠c/\(s c).up=true:=by
 have hn:=TF s
 match he:JX s,h,hn with
 |x::y::r,_,hn=>
  have hx:x∈JX s:=by rw[he];simp
  have hy:y∈JX s:=by rw[he];simp
  have hxy:x≠y:=by
   have:=(List.nodup_cons.1 hn).1;rintro rfl;exact this (by simp)
  by_cases e:b=x
  .exact⟨y,(KQ.1 hy).1,by omega,(KQ.1 hy).2⟩
  .exact⟨x,(KQ.1 hx).1,e,(KQ.1 hx).2⟩
theorem BR3{p:Pw}(h:PX p)(hx:x∈p.H):J3 x.z<=p.n:=by
 obtain⟨i,_,hi,_,_,h1,_⟩:=h.a.two x hx;rw[LQ hi]at h1;exact Int.le_trans h1 (h.s i hi).e1
theorem AQ5{p:Pw}(h:PX p)(hi:i<3):J3 (J4 (p.s i).m)<=p.n:=by
 by_cases e:(p.s i).m=[]
 .rw[e,WR,VH];exact h.n0
 .obtain⟨y,hy,hz⟩:=aK e;rw[<-hz];exact BR3 h (h.a.hist i hi y (by rw[LQ hi];exact hy))
theorem CA0{p:Pw}(h:PX p):eN p.s<=p.n+1/\1<=eN p.s:=by
 have h1:=B71 (ks:=QV p.s) p.n h.n0 (fun k hk=>by
  obtain⟨i,hi,rfl⟩:=EU.1 hk;have hi:=(KQ.1 hi).1;exact⟨(h.s i hi).e1,AQ5 h hi⟩)
 have h2:=lK (QV p.s);unfold eN;omega
theorem A62{c:Nat->Cl}(h:uM N H i (c i))(l:List Nt):uM N H i (ZW c l i):=by
 refine⟨h.s,h.z,BQ2 h.asc,?_,fun x hx=>h.sh x (EH.1 hx).1⟩;have h1:((ZW c l i).es).length<=(c i).es.length:=List.length_filter_le _ _;have:=h.len;omega
theorem B81{s:Nat->Ps}(h:AQ1 s=false)(hk:k∈JX s):(s k).dn<=KY (s k).m (s (eB s)).m:=by
 unfold AQ1 at h;have:=List.any_eq_false.1 h k hk;simp at this;exact this
theorem pX{p:Pw}(h:PX p)(hn:p.n<300)(h2:¬ (JX p.s).length<2)(hb:AQ1 p.s=false):
  PX ⟨p.n+1,(LV (eS p.s) (JX p.s)).1,eR p.s,ZW p.c (LV (eS p.s) (JX p.s)).2,p.D,p.H,p.h⟩:=by
 have hB:=AG3 (s:=p.s) (by omega);obtain⟨hb3,hbu⟩:=KQ.1 hB;obtain⟨c,hc3,hbc,hcu⟩:=CN3 (s:=p.s) (by omega) (eB p.s);have hN:=CA0 h;have hn0:=h.n0;have BR4:∀k,k<3->(p.s k).up=true->(LV (eS p.s) (JX p.s)).1 k=gX k (yH (eN p.s) (p.s (eB p.s)).m (p.s k)):=fun k hk hu=>by
  rw[fE _ _ _ (TF _),if_pos (KQ.2 ⟨hk,hu⟩),eS,if_pos ⟨hu,hk⟩]
 have CN4:∀k,k<3->(p.s k).up≠true->(LV (eS p.s) (JX p.s)).1 k=p.s k:=fun k hk hu=>by
  rw[fE _ _ _ (TF _),if_neg (fun hm=>hu (KQ.1 hm).2),eS,if_neg (fun hm=>hu hm.1)]
 have rb:eR p.s (eB p.s)=2:=by rw[eR,if_pos rfl]
 have rno:∀k,k≠eB p.s->eR p.s k≠2:=fun k hk=>by rw[eR,if_neg hk];split<;>decide
 have one:∀i j,i<3->j<3->eR p.s i=2->eR p.s j=2->i=j:=fun i j _ _ h1 h2=>by
  by_cases e1:i=eB p.s
  .by_cases e2:j=eB p.s
   .rw[e1,e2]
   .exact absurd h2 (rno j e2)
  .exact absurd h1 (rno i e1)
 have hld:=iQ hb3 rb one;have hA:=AU6 (e:=eN p.s) h.a hb3 hc3 hbc (by rw[LQ hb3];exact hbu) (by rw[LQ hc3];exact hcu) (fun k hk hu=>by
  rw[LQ hk]at hu;rw[LQ hk,LQ hb3];exact CN2 (by omega) (KQ.2 ⟨hk,hu⟩)) (fun k hk hu=>by
  rw[LQ hk]at hu⊢;exact CW3 (KQ.2 ⟨hk,hu⟩))
 have ok:∀k,k<3->(p.s k).up=true->ML (p.n+1) (yH (eN p.s) (p.s (eB p.s)).m (p.s k)):=fun k hk hu=>
  CN0 ((h.s k hk).more (by omega)) ((h.s _ hb3).more (by omega)) (by omega) hN.1 (Nat.le_trans (B81 hb (KQ.2 ⟨hk,hu⟩)) (XP _ _).2)
 refine⟨by show (0:Int)<=p.n+1;omega,by show p.n+1<=300;omega,fun k hk=>?_,fun k hk=>?_,one,fun e=>?_,fun k hk hk0=>?_,fun b hb hb2=>?_,?_,fun i hi=>A62 ((h.c i hi).more (by show p.n<=p.n+1;omega) fun _ hx=>hx) _,fun x hx=>by have:=h.cnt x hx;show _<=p.n+1;omega,by have:=h.few;show (p.D.length:Int)<=p.n+1;omega⟩
 .by_cases hu:(p.s k).up=true
  .simp only[BR4 k hk hu];exact BZ5 (ok k hk hu) rfl
  .simp only[CN4 k hk hu];exact(h.s k hk).more (by omega)
 .show eR p.s k=0\/eR p.s k=1\/eR p.s k=2;unfold eR
  split
  .omega
  .split<;>omega
 .exfalso;have e:ldP (eR p.s)=-1:=e;rw[hld]at e;omega
 .by_cases hu:(p.s k).up=true
  .simp only[BR4 k hk hu];rfl
  .exfalso;have hk0:eR p.s k≠0:=hk0;unfold eR at hk0
   split at hk0
   .rename_i e;rw[e]at hu;exact hu hbu
   .rw[if_neg (fun hm=>hu hm.1)]at hk0;exact hk0 rfl
 .have e:b=eB p.s:=one b _ hb hb3 hb2 rb;subst e;simp only[BR4 _ hb3 hbu];rfl
 .rw[show awP ⟨p.n+1,(LV (eS p.s) (JX p.s)).1,eR p.s,ZW p.c (LV (eS p.s) (JX p.s)).2,p.D,p.H,p.h⟩=U5 (awP p) (eB p.s) (eN p.s)from ?_]
  .exact hA
  .refine pW (fun k=>?_) ?_ (fun k=>?_) rfl rfl
   .by_cases hk:k<3
    .rw[LQ hk];by_cases hu:(p.s k).up=true
     .simp only[BR4 k hk hu,U5,LQ hk,hu,if_true,LQ hb3,gX,yH]
     .simp only[CN4 k hk hu,U5,LQ hk,hu,if_false,Bool.false_eq_true]
    .rw[WE hk];simp only[U5,WE hk,Bool.false_eq_true,if_false]
   .simp only[awP,hld,U5,ldN];rw[if_neg (by omega)];simp
   .by_cases hk:k<3
    .simp only[awP,U5,hk,decide_true,Bool.true_and,if_true]
     cases hu:(p.s k).up with
     |true=>
      have:eR p.s k≠0:=by unfold eR;split;decide;rw[if_pos ⟨hu,hk⟩];decide
      simp[this]
     |false=>
      have e:k≠eB p.s:=by rintro rfl;rw[hbu]at hu;cases hu
      have:eR p.s k=0:=by unfold eR;rw[if_neg e,if_neg (by simp[hu])]
      simp[this]
    .simp only[awP,U5,hk,decide_false,Bool.false_and,if_false]
theorem AG4{p:Pw}(h:PX p)(hn:p.n<300)(hb:b<3)(hr:p.r b=2):
  nxE (p.s b).e (J4 (p.s b).m)=0/\KD (nxN (p.s b).e (J4 (p.s b).m))=true/\0<nxN (p.s b).e (J4 (p.s b).m)/\J4 (p.s b).m<nxN (p.s b).e (J4 (p.s b).m)/\J3 (nxN (p.s b).e (J4 (p.s b).m))=(p.s b).e/\nxN (p.s b).e (J4 (p.s b).m)%2147483648<=p.n+1:=by
 obtain⟨_,_,_,a4,_,_,_⟩:=h.a.lead b (cZ h hb hr).1;have e0:=(h.s b hb).e0;have e1:=(h.s b hb).e1;have n0:=h.n0;obtain⟨hg,hc,he⟩:KD (J4 (p.s b).m)=true/\J4 (p.s b).m%2147483648<=p.n/\J3 (J4 (p.s b).m)<=(p.s b).e:=by
  by_cases e:(p.s b).m=[]
  .rw[e,WR];exact⟨by decide,by omega,by rw[VH];exact e0⟩
  .obtain⟨y,hy,hz⟩:=aK e;have hH:=h.a.hist b hb y (by rw[LQ hb];exact hy);obtain⟨i,_,hi,_,_,c4,_⟩:=h.a.two y hH;have:=a4 i hi;rw[LQ hi,LQ hb]at this;rw[LQ hi]at c4;rw[<-hz];exact⟨(h.a.pos y hH).1,h.cnt y hH,Int.le_trans c4 this⟩
 generalize J4 (p.s b).m=l at*;generalize (p.s b).e=e at*;have hl:=LZ.1 hg;rw[MB hg]at he;by_cases c:e<=J3 l
 .have h1:=qK hg (show zIn (l%2147483648+1)=true from PY.2 ⟨by omega,by omega⟩);rw[MB hg]at c;have hN:nxN e l=l+1/\nxE e l=0:=by
   rw[nxN,nxE,if_pos (by rw[MB hg];exact c),if_pos (by rw[MB hg];exact c)];exact h1
  rw[hN.1,hN.2];have hg':KD (l+1)=true:=LZ.2 ⟨by omega,by omega⟩;rw[MB hg'];refine⟨rfl,hg',by omega,by omega,by omega,by omega⟩
 .have hi:zIn e=true:=PY.2 ⟨by omega,by omega⟩;have hm:=U4 hi (show zIn 0=true by decide);have hmg:KD (e*2147483648)=true:=LZ.2 ⟨by omega,by omega⟩;have h1:=qK (z:=e*2147483648) hmg (PY.2 ⟨by omega,by omega⟩);have hN:nxN e l=e*2147483648+1/\nxE e l=0:=by
   rw[nxN,nxE,if_neg c,if_neg c,if_pos hm.2,if_pos hm.2,hm.1,Int.add_zero];exact h1
  rw[hN.1,hN.2];rw[MB hg]at c;have hg':KD (e*2147483648+1)=true:=LZ.2 ⟨by omega,by omega⟩;rw[MB hg'];refine⟨rfl,hg',by omega,by omega,by omega,by omega⟩
structure Wr(p:Pw)(d:Dd)(b:Nat):Prop where
 lt:b<3
 two:p.r b=2
 n:p.n<300
 e:wE p d=0
section
variable {p:Pw} {d:Dd} {b:Nat}
theorem Wr.ld(w:Wr p d b)(h:PX p):ldN p.r=b:=(cZ h w.lt w.two).2.1
theorem Wr.tr(w:Wr p d b)(h:PX p):wTr p=OE (p.s b).m (p.s b).m.length:=by rw[wTr,w.ld h,h.all b w.lt w.two]
theorem Wr.fit(w:Wr p d b)(h:PX p):FitP (OE (p.s b).m (p.s b).m.length) (wZ p) (wQ p d) (wX p d):=by
 have:=AK4 w.e;rw[w.tr h]at this;have e:wX p d=AK2 (OE (p.s b).m (p.s b).m.length) (wZ p) (wQ p d):=by rw[wX,w.tr h]
 rw[e];exact this
theorem Wr.z(w:Wr p d b)(h:PX p):(wX p d).z=nxN (p.s b).e (J4 (p.s b).m):=by rw[(w.fit h).z,wZ,w.ld h]
theorem Wr.zs(w:Wr p d b)(h:PX p):KD (wX p d).z=true/\0<(wX p d).z/\J4 (p.s b).m<(wX p d).z/\J3 (wX p d).z=(p.s b).e/\(wX p d).z%2147483648<=p.n+1:=by
 rw[w.z h];exact(AG4 h w.n w.lt w.two).2
theorem CG4(h:wT p d i=true):p.r i≠0:=by
 simp only[wT,Bool.or_eq_true,BZ,decide_eq_true_eq]at h;omega
theorem CW4(h:wS p d i=true):wT p d i=true:=by
 simp only[wS,BZ]at h;exact h.1
theorem aB(h:p.r i=2):wT p d i=true/\wS p d i=true:=by simp[wS,wT,h]
theorem Wr.same(w:Wr p d b)(h:PX p)(hi:i<3)(hr:p.r i≠0):(p.s i).m=(p.s b).m/\(p.s i).up=true:=by
 obtain⟨_,_,_,_,_,a6,_⟩:=h.a.lead b (cZ h w.lt w.two).1;have:=a6 i hi (by simp[awP,hi,hr]);rw[LQ hi,LQ w.lt]at this;exact this
theorem Wr.wr(w:Wr p d b)(h:PX p):WrA (awP p) b (fun k=>decide (k<3)&&wT p d k) (fun k=>decide (k<3)&&wS p d k) (wX p d):=by
 obtain⟨z1,z2,z3,z4,_⟩:=w.zs h;refine⟨(cZ h w.lt w.two).1,by simp[w.lt,(aB (p:=p) (d:=d) w.two).1],fun i hi ht=>?_,fun i hs=>?_,by rw[LQ w.lt];exact z3,⟨z1,z2⟩,by rw[LQ w.lt];exact z4⟩
 .simp only[BZ]at ht;simp[awP,hi,CG4 ht.2]
 .simp only[BZ]at hs⊢;exact⟨hs.1,CW4 hs.2⟩
theorem Wr.ok(w:Wr p d b)(h:PX p)(hk:k<3):ML (p.n+1) (wSv p d k):=by
 unfold wSv;by_cases ht:wT p d k=true
 .rw[if_pos ht];obtain⟨e,hu⟩:=w.same h hk (CG4 ht);obtain⟨z1,z2,z3,_,_⟩:=w.zs h;exact C93 _ (h.s k hk) hu (w.fit h).gd (by rw[e];exact z3) z2 (by rw[e];exact(w.fit h).app)
 .rw[if_neg ht];exact(h.s k hk).more (by omega)
theorem Wr.up(w:Wr p d b)(h:PX p)(hk:k<3)(ht:wT p d k=true):(wSv p d k).up=true:=by
 rw[wSv,if_pos ht];exact(w.same h hk (CG4 ht)).2
theorem yM(w:Wr p d b)(h:PX p):∀x∈p.H++[wX p d],x.z%2147483648<=p.n+1:=fun x hx=>by
 rcases BU.1 hx with hx|hx
 .have:=h.cnt x hx;omega
 .rw[List.mem_singleton.1 hx];exact(w.zs h).2.2.2.2
theorem CN5{s:Nat->Ps}(hs:∀k,k<3->(s k).up=(wSv p d k).up/\(s k).m=(wSv p d k).m/\(s k).a=(wSv p d k).a/\(s k).e=(wSv p d k).e)(k:Nat)(hk:k<3):
  (⟨(s k).up,(s k).m,(s k).a,(s k).e⟩:Ab)=MC (awP p) (fun k=>decide (k<3)&&wT p d k) (fun k=>decide (k<3)&&wS p d k) (wX p d) k:=by
 obtain⟨e1,e2,e3,e4⟩:=hs k hk;rw[e1,e2,e3,e4];simp only[MC,LQ hk,hk,decide_true,Bool.true_and,wSv];by_cases ht:wT p d k=true
 .simp only[ht,if_true,TA]
 .simp only[ht,Bool.false_eq_true,if_false]
theorem B82(w:Wr p d b)(h:PX p):PX ⟨p.n+1,wSv p d,fun _=>0,p.c,p.D,p.H++[wX p d],p.h⟩:=by
 have hn:=w.n;have n0:=h.n0;have hA:=BG7 h.a (w.wr h);refine⟨by show (0:Int)<=p.n+1;omega,by show p.n+1<=300;omega,fun k hk=>w.ok h hk,fun _ _=>.inl rfl,fun _ _ _ _ e=>(by cases e),fun _ _ _=>rfl,fun _ _ e=>absurd rfl e,fun _ _ e=>(by cases e),?_,fun i hi=>(h.c i hi).more (by show p.n<=p.n+1;omega) (fun x hx=>by simp[hx]),yM w h,by have:=h.few;show (p.D.length:Int)<=p.n+1;omega⟩;rw[show awP ⟨p.n+1,wSv p d,fun _=>0,p.c,p.D,p.H++[wX p d],p.h⟩=BG5 (awP p) (fun k=>decide (k<3)&&wT p d k) (fun k=>decide (k<3)&&wS p d k) (wX p d)from ?_]
 .exact hA
 .refine pW (fun k=>?_) (AG0 sU) (fun k=>by simp[awP,BG5]) rfl rfl;by_cases hk:k<3
  .rw[LQ hk];exact CN5 (fun _ _=>⟨rfl,rfl,rfl,rfl⟩) k hk
  .rw[WE hk];simp[BG5,MC,hk,WE hk]
theorem lW:wRo p d k=2↔p.r k=2:=by
 unfold wRo
 split
 .exact Iff.rfl
 .rename_i h
  refine⟨fun e=>(by cases e),fun e=>absurd (aB (d:=d) e).1 h⟩
theorem yN:(LV (wSv p d) (wL p d)).1 k=if k<3/\wS p d k=true then gX k (wSv p d k)else wSv p d k:=by
 rw[fE _ _ _ (sV _ _)];simp only[gJ]
theorem BR5(h:¬ (wL p d).length<2)(b:Nat):∃c,c<3/\c≠b/\wS p d c=true:=by
 have hn:=sV p d
 match he:wL p d,h,hn with
 |[],h,_=>exact absurd (by simp) h
 |[x],h,_=>exact absurd (by simp) h
 |x::y::r,_,hn=>
  have hx:x∈wL p d:=by rw[he];simp
  have hy:y∈wL p d:=by rw[he];simp
  have hxy:x≠y:=by
   have:=(List.nodup_cons.1 hn).1;rintro rfl;exact this (by simp)
  by_cases e:b=x
  .exact⟨y,(gJ.1 hy).1,by omega,(gJ.1 hy).2⟩
  .exact⟨x,(gJ.1 hx).1,fun h=>e h.symm,(gJ.1 hx).2⟩
theorem yO(w:Wr p d b)(h:PX p)(hq:¬ (wL p d).length<2):PX ⟨p.n+1,(LV (wSv p d) (wL p d)).1,wRo p d,wCl p d (LV (wSv p d) (wL p d)).2,p.D++[wX p d],p.H++[wX p d],p.h⟩:=by
 have hn:=w.n;have n0:=h.n0;obtain⟨c,hc3,hcb,hcs⟩:=BR5 hq b;have hA:=BG6 h.a (w.wr h) hc3 hcb (by simp[hc3,hcs]) (by simp[w.lt,(aB (p:=p) (d:=d) w.two).2]);have hlb:=w.lt;have one:∀i j,i<3->j<3->wRo p d i=2->wRo p d j=2->i=j:=fun i j hi hj e1 e2=>h.one i j hi hj (lW.1 e1) (lW.1 e2);have hld:=iQ hlb (lW.2 w.two) one;have hcom:∀k,(LV (wSv p d) (wL p d)).1 k=if k<3/\wS p d k=true then gX k (wSv p d k)else wSv p d k:=fun k=>yN;have fld:∀k,((LV (wSv p d) (wL p d)).1 k).up=(wSv p d k).up/\((LV (wSv p d) (wL p d)).1 k).m=(wSv p d k).m/\((LV (wSv p d) (wL p d)).1 k).a=(wSv p d k).a/\((LV (wSv p d) (wL p d)).1 k).e=(wSv p d k).e:=fun k=>by
  rw[hcom]
  split<;>exact⟨rfl,rfl,rfl,rfl⟩
 refine⟨by show (0:Int)<=p.n+1;omega,by show p.n+1<=300;omega,fun k hk=>?_,fun k hk=>?_,one,fun e=>?_,fun k hk hk0=>?_,fun k hk hk2=>?_,?_,fun i hi=>?_,yM w h,by have:=h.few;simp;omega⟩
 .show ML (p.n+1) ((LV (wSv p d) (wL p d)).1 k);rw[hcom]
  split
  .rename_i hc
   exact BZ5 (w.ok h hk) (w.up h hk (CW4 hc.2))
  .exact w.ok h hk
 .show wRo p d k=0\/wRo p d k=1\/wRo p d k=2;unfold wRo
  split
  .exact h.r k hk
  .exact .inl rfl
 .exfalso;have e:ldP (wRo p d)=-1:=e;rw[hld]at e;omega
 .show ((LV (wSv p d) (wL p d)).1 k).up=true;rw[(fld k).1];have hk0:wRo p d k≠0:=hk0;unfold wRo at hk0
  split at hk0
  .rename_i ht;exact w.up h hk ht
  .exact absurd rfl hk0
 .have hk2:wRo p d k=2:=hk2;have hr:=lW.1 hk2;show ((LV (wSv p d) (wL p d)).1 k).dn=((LV (wSv p d) (wL p d)).1 k).m.length;rw[hcom,if_pos ⟨hk,(aB hr).2⟩];rfl
 .rw[show awP ⟨p.n+1,(LV (wSv p d) (wL p d)).1,wRo p d,wCl p d (LV (wSv p d) (wL p d)).2,p.D++[wX p d],p.H++[wX p d],p.h⟩=AI6 (awP p) b (fun k=>decide (k<3)&&wT p d k) (fun k=>decide (k<3)&&wS p d k) (wX p d)from ?_]
  .exact hA
  .refine pW (fun k=>?_) ?_ (fun k=>?_) rfl rfl
   .by_cases hk:k<3
    .rw[LQ hk];exact CN5 (fun k _=>fld k) k hk
    .rw[WE hk];simp[AI6,MC,hk,WE hk]
   .simp only[awP,hld,AI6,ldN];rw[if_neg (by omega)];simp
   .by_cases hk:k<3
    .simp only[awP,AI6,hk,decide_true,Bool.true_and];by_cases ht:wT p d k=true
     .have e:wRo p d k=p.r k:=by rw[wRo,if_pos ht]
      rw[ht];exact decide_eq_true (show wRo p d k≠0 by rw[e];exact CG4 ht)
     .have e:wRo p d k=0:=by rw[wRo,if_neg ht]
      rw[Bool.not_eq_true]at ht;rw[ht];exact decide_eq_false (show ¬wRo p d k≠0 from fun hn=>hn e)
    .simp[awP,AI6,hk]
 .show uM (p.n+1) (p.H++[wX p d]) i (wCl p d (LV (wSv p d) (wL p d)).2 i);have h1:=A62 ((h.c i hi).more (show p.n<=p.n+1 by omega) (fun x hx=>(by simp[hx]:x∈p.H++[wX p d]))) (LV (wSv p d) (wL p d)).2;unfold wCl;by_cases e:i=d.c.toNat
  .subst e;rw[IG];exact⟨h1.s,.inr ⟨wX p d,by simp,by rw[w.z h];simp only[wZ,w.ld h]⟩,h1.asc,h1.len,h1.sh⟩
  .rw[GH _ _ e];exact h1
end
theorem AQ6{t:Tr}{p:List UInt8}{n:Nd}(h:nM t p=FZ n):n∈t.ns/\n.p=p:=⟨List.mem_of_find?_eq_some h,by have:=List.find?_some h;simpa using this⟩
theorem CA1{c:Cl}{z:Int}(h:uM N H i c)(hz:z=0\/∃x∈H,z=x.z):uM (N+1) H i ⟨c.s,z,c.es⟩:=
 ⟨h.s,hz,h.asc,by have:=h.len;show (c.es.length:Int)<=_;omega,h.sh⟩
theorem CA2{c:Cl}{z:Int}{x:En}(h:uM N H i c)(hz:z=0\/∃x∈H,z=x.z)(h1:x.p.length<=200)(h2:x.d.length<=256):uM (N+1) H i ⟨c.s,z,WJ c.es x⟩:=by
 refine⟨h.s,hz,BP9 h.asc x,?_,fun e he=>?_⟩
 .have:=BQ0 c.es h.asc x;have:=h.len;show ((WJ c.es x).length:Int)<=_;omega
 .rcases BQ1 he with he|rfl
  .exact h.sh e he
  .unfold IV
   split
   .exact⟨h1,h2⟩
   .exact⟨h1,by simp⟩
theorem B83{ws:List Wa}{x:Wa}(hE:bZ ws x=0)(hk:x.k=1):II x.p=true:=by
 unfold bZ at hE
 split at hE
 .rename_i hc;exact absurd hE hc
 .rename_i hc
  have hc:uK x=0:=by omega
  unfold uK at hc
  cases hb:II x.p with
  |true=>rfl
  |false=>simp[hk,hb]at hc
theorem B84{p:Pw}{d:Dd}(h:PX p)(hn:p.n<300)(hc:0<=d.c/\d.c<16)(hs:0<=d.s/\d.s<3):PX (lN (MR p) d).2:=by
 have n0:=h.n0;have hC:d.c.toNat<16:=by omega
 have hS:d.s.toNat<3:=by omega
 unfold lN
 split
 .exact QG h hn
 .rename_i hu
  have hu:(p.s d.s.toNat).up=true:=by simpa [MR]using hu
  split
  .exact QG h hn
  .have hz:(rTr p d).z=0\/∃x∈p.H,(rTr p d).z=x.z:=by
    rcases(h.s _ hS).play.z_of (h.s _ hS).dn with e|⟨x,hx,e⟩
    .exact .inl e
    .exact .inr ⟨x,h.a.hist _ hS x (by rw[LQ hS];exact hx),e⟩
   have cl:∀v,uM (p.n+1) p.H d.c.toNat v->∀i,i<16->uM (p.n+1) p.H i (LU p.c d.c.toNat v i):=fun v hv i hi=>by
    by_cases e:i=d.c.toNat
    .subst e;rw[IG];exact hv
    .rw[GH _ _ e];exact(h.c i hi).more (by omega) fun _ hx=>hx
   have h1:=QG h hn
   split
   .exact⟨h1.n0,h1.n1,h1.s,h1.r,h1.one,h1.led,h1.rup,h1.all,h1.a,cl _ (CA1 (h.c _ hC) hz),h1.cnt,h1.few⟩
   .split
    .exact h1
    .rename_i hE
     have hE:bZ (p.s d.s.toNat).ws (rWa p d)=0:=by
      have:¬bZ (p.s d.s.toNat).ws (rWa p d)≠0:=hE;omega
     have hse:=(h.c _ hC).s;have hgd:=B83 hE rfl;have hdat:((rN p d).getD nd0).d.length<=256:=by
      cases hr:rN p d with
      |none=>simp[nd0]
      |some n=>
       have hg:=((h.s _ hS).play.good (h.s _ hS).dn).nod.ok n (AQ6 hr).1;simpa using hg.data
     refine⟨h1.n0,h1.n1,fun i hi=>?_,h1.r,h1.one,h1.led,fun i hi hr=>?_,fun i hi hr=>?_,?_,cl _ (CA2 (h.c _ hC) hz (MP hgd) hdat),h1.cnt,h1.few⟩
     .show ML (p.n+1) (LU p.s d.s.toNat (zM (p.s d.s.toNat) (rWa p d)) i);by_cases e:i=d.s.toNat
      .subst e;rw[IG];exact BZ6 (h.s _ hS) hu hE rfl (by show 1<=(p.c d.c.toNat).s/\(p.c d.c.toNat).s<=16;omega)
      .rw[GH _ _ e];exact h1.s i hi
     .show (LU p.s d.s.toNat (zM (p.s d.s.toNat) (rWa p d)) i).up=true;by_cases e:i=d.s.toNat
      .subst e;rw[IG];exact hu
      .rw[GH _ _ e];exact h1.rup i hi hr
     .show (LU p.s d.s.toNat (zM (p.s d.s.toNat) (rWa p d)) i).dn=(LU p.s d.s.toNat (zM (p.s d.s.toNat) (rWa p d)) i).m.length;by_cases e:i=d.s.toNat
      .subst e;rw[IG];exact h1.all _ hi hr
      .rw[GH _ _ e];exact h1.all i hi hr
     .rw[show awP _=awP p from ?_]
      .exact h.a
      .refine pW (fun k=>?_) rfl (fun k=>rfl) rfl rfl;by_cases hk:k<3
       .rw[LQ hk,LQ hk];show (⟨(LU p.s d.s.toNat (zM (p.s d.s.toNat) (rWa p d)) k).up,(LU p.s d.s.toNat (zM (p.s d.s.toNat) (rWa p d)) k).m,(LU p.s d.s.toNat (zM (p.s d.s.toNat) (rWa p d)) k).a,(LU p.s d.s.toNat (zM (p.s d.s.toNat) (rWa p d)) k).e⟩:Ab)=_;by_cases e:k=d.s.toNat
        .subst e;rw[IG];rfl
        .rw[GH _ _ e]
       .rw[WE hk,WE hk]
theorem CW5{d:Dd}(hk:d.k=1)(h:UO d=0):0<=d.c/\d.c<16:=by
 rw[UO,if_pos hk]at h
 split at h
 .rename_i hc;simpa [pU]using hc
 .cases h
theorem CN6{d:Dd}(hk:d.k=2)(h:UO d=0):(0<=d.c/\d.c<16)/\0<=d.s/\d.s<3:=by
 rw[UO,if_neg (by omega),if_pos hk]at h
 split at h
 .rename_i hc;simpa [pU]using hc
 .cases h
theorem AG5{d:Dd}(hk:d.k=3\/d.k=4)(h:UO d=0):0<=d.s/\d.s<3:=by
 rw[UO,if_neg (by omega),if_neg (by omega),if_pos hk]at h
 split at h
 .rename_i hc;simpa [pU]using hc
 .cases h
theorem AQ7{p:Pw}{d:Dd}(h:PX p)(hn:p.n<300):PX (PU (MR p) d).2:=by
 unfold PU
 split
 .exact QG h hn
 .rename_i hl
  split
  .exact QG h hn
  .rename_i hE
   rcases Y8 p.r with⟨e,_⟩|⟨b,hb,_,hr⟩
   .exact absurd e hl
   .have w:Wr p d b:=⟨hb,hr,hn,by have:¬wE p d≠0:=hE;omega⟩
    split
    .exact B82 w h
    .rename_i hq
     exact yO w h hq
theorem U1{p:Pw}(d:Dd)(h:PX p):PX (doP p d).2:=by
 unfold doP
 split
 .exact h
 .rename_i hn
  have hn:p.n<300:=by omega
  split
  .exact QG h hn
  .rename_i hE
   have hE:UO d=0:=by omega
   unfold lQ
   split
   .exact AQ7 h hn
   .split
    .rename_i hk
     obtain⟨h1,h2⟩:=CN6 hk hE;exact B84 h hn h1 h2
    .split
     .rename_i hk
      have h2:=AG5 (.inl hk) hE;unfold TS
      split
      .exact QG h hn
      .split
       .exact QG h hn
       .exact AQ4 (QG h hn) (i:=d.s.toNat) (by omega) _
     .split
      .rename_i hk
       have h2:=AG5 (.inr hk) hE;unfold upW
       split
       .exact QG h hn
       .rename_i hu
        exact C99 (QG h hn) (i:=d.s.toNat) (by omega) (by simpa using hu)
      .unfold SY
       split
       .exact QG h hn
       .split
        .exact QG h hn
        .rename_i h2 hb
         exact pX h hn h2 (by simpa [MR]using hb)
theorem MZ(k:Nat):PX (pw0 k):=by
 refine⟨by simp[pw0],by simp[pw0],fun i _=>⟨Logs.nil,by simp[pw0,ps0],by simp[pw0,ps0],by simp[pw0,ps0],by simp[pw0,ps0],by simp[pw0,ps0],by simp[pw0,ps0],by simp[yK,pw0,ps0],by simp[pw0,ps0],by simp[pw0,ps0],by simp[pw0,ps0],by simp[pw0,ps0]⟩,fun _ _=>.inl rfl,fun _ _ _ _ e=>(by cases e),fun _ _ _=>rfl,fun _ _ e=>absurd rfl e,fun _ _ e=>(by cases e),?_,fun i hi=>⟨rfl,.inl rfl,List.Pairwise.nil,by simp[pw0],by simp[pw0]⟩,by simp[pw0],by simp[pw0]⟩;refine⟨fun k hk=>?_,fun k hk=>?_,fun k hk x hx=>?_,fun x hx=>absurd hx (by simp[awP,pw0]),fun x hx=>absurd hx (by simp[awP,pw0]),fun x hx=>absurd hx (by simp[awP,pw0]),fun k hk=>⟨0,1,by omega,by omega,by omega,?_,?_⟩,fun b hb=>?_,fun x hx=>absurd hx (by simp[awP,pw0]),List.Pairwise.nil,fun x hx=>absurd hx (by simp[awP,pw0]),fun x hx=>absurd hx (by simp[awP,pw0])⟩
 .rw[LQ hk];exact List.Pairwise.nil
 .rw[LQ hk];exact A8 _
 .rw[LQ hk]at hx;exact absurd hx (by simp[pw0,ps0])
 .rw[LQ hk,LQ (by omega)];exact Int.le_refl _
 .rw[LQ hk,LQ (by omega)];exact Int.le_refl _
 .rw[AG0 (show ldP (pw0 k).r=-1 from sU)]at hb;cases hb
theorem QW:∀ (l:List Dd) (p:Pw),PX p->PX (OZ p l)
 |[],_,h=>h
 |d::l,_,h=>QW l _ (U1 d h)
def dEl:Dd:=⟨5,0,0,⟨0,0,[],[],0,0⟩,0,0,0,false⟩
def dOp:Dd:=⟨1,0,0,⟨1,0,[],[],0,0⟩,0,0,0,false⟩
def ps1:Ps:=⟨true,1,[],0,[],0,[]⟩
theorem uD(i:Nat):gX i ps1=ps1/\(dM i ps1).2=[]:=by
 have h:dM i ps1=(svP i ps1,[]):=rX _ _;refine⟨?_,by rw[h]⟩;rw[gX,h,J5 rfl];rfl
theorem BC8(f:Nat->Ps)(h:∀i,i<3->f i=ps1):(∀i,i<3->(LV f [0,1,2]).1 i=ps1)/\(LV f [0,1,2]).2=[]:=by
 have e:∀ (g:Nat->Ps) i,(∀j,j<3->g j=ps1)->∀j,j<3->LU g i (gX i ps1) j=ps1:=fun g i hg j hj=>by
  by_cases e:j=i
  .rw[e,IG];exact(uD i).1
  .rw[GH _ _ e];exact hg j hj
 simp only[LV];have h1:=e f 0 h;have h2:=e _ 1 h1;have h3:=e _ 2 h2;rw[h 0 (by omega),h1 1 (by omega),h2 2 (by omega),(uD 0).2,(uD 1).2,(uD 2).2];exact⟨h3,rfl⟩
theorem AI1(k:Nat):∃f c,doP (pw0 k) dEl=(⟨0,0,[],[],nd0,[]⟩,⟨1,f,eR (pw0 k).s,c,[],[],k⟩)/\(∀i,i<3->f i=ps1)/\(∀i,(c i).s=i+1):=by
 obtain⟨h1,h2⟩:=BC8 (eS (pw0 k).s) (fun i hi=>by rcases(show i=0\/i=1\/i=2 by omega)with rfl|rfl|rfl<;>rfl);have hU:JX (pw0 k).s=[0,1,2]:=rfl;refine⟨(LV (eS (pw0 k).s) [0,1,2]).1,ZW (pw0 k).c (LV (eS (pw0 k).s) [0,1,2]).2,?_,h1,fun i=>rfl⟩;rw[doP,if_neg (by simp[pw0]),if_neg (by simp[UO,dEl])];show SY (MR (pw0 k))=_;rw[SY,if_neg (show ¬ (JX (MR (pw0 k)).s).length<2 by rw[show JX (MR (pw0 k)).s=[0,1,2]from rfl];decide),if_neg (show ¬AQ1 (MR (pw0 k)).s=true by rw[show AQ1 (MR (pw0 k)).s=false from rfl];simp)];show (_,_)=(_,_);rw[show (MR (pw0 k)).s=(pw0 k).s from rfl,hU,h2];rfl
theorem BV3{f:Nat->Ps}{c:Nat->Cl}(hf:∀i,i<3->f i=ps1)(hc:∀i,(c i).s=i+1):∃t ns p',doP ⟨1,f,eR (pw0 k).s,c,[],[],k⟩ dOp=(⟨0,2147483649,[],[],t,ns⟩,p')/\p'.D.length=1:=by
 generalize hp:(⟨1,f,eR (pw0 k).s,c,[],[],k⟩:Pw)=p;have hs:p.s=f:=by rw[<-hp]
 have hr:p.r=eR (pw0 k).s:=by rw[<-hp]
 have hl:ldP p.r=2:=by rw[hr];rfl
 have hn:ldN p.r=2:=by rw[ldN,hl];rfl
 have hz:wZ p=2147483649:=by rw[wZ,hn,hs,hf 2 (by omega)];decide
 have ht:wTr p=RP:=by rw[wTr,hn,hs,hf 2 (by omega)];exact XW _
 have hq:wQ p dOp=⟨1,1,[],[],0,0⟩:=by rw[wQ,<-hp];simp[dOp,hc]
 have hgd:gdE ⟨2147483649,1,1,[],[],0,0⟩=0:=by decide
 have ha:WG RP ⟨2147483649,1,1,[],[],0,0⟩=0:=by
  have hA:UZ RP ⟨2147483649,1,1,[],[],0,0⟩=0:=by
   rw[UZ,if_neg (by rw[OL.2 bP];simp),if_neg (by rw[hgd];simp)];decide
  rw[iM hA];exact XK rfl (MQ.2 bP.cap)
 obtain⟨e1,e2⟩:=qW (t:=RP) (z:=2147483649) (r:=⟨1,1,[],[],0,0⟩) (.inl rfl);have hE:wE p dOp=0:=by
  rw[wE,ht,hz,hq,jR (YL.2 ⟨bP,by decide,by decide,by decide⟩) e1,e2];exact ha
 have hX:wX p dOp=⟨2147483649,1,1,[],[],0,0⟩:=by
  have h:=hE;rw[wE,ht,hz,hq]at h;rw[wX,ht,hz,hq,jS h,e2]
 have hL:wL p dOp=[0,1,2]:=by
  simp only[wL,wS,wT,hr];rfl
 have hd:doP p dOp=PU (MR p) dOp:=by
  rw[doP,if_neg (by rw[<-hp];simp),if_neg (by simp[UO,dOp,pU])];rfl
 rw[hd,PU,if_neg (show ¬ldP (MR p).r=-1 by show ¬ldP p.r=-1;rw[hl];decide),if_neg (show ¬wE (MR p) dOp≠0 by show ¬wE p dOp≠0;rw[hE];simp),if_neg (show ¬ (wL (MR p) dOp).length<2 by show ¬ (wL p dOp).length<2;rw[hL];decide),show wX (MR p) dOp=wX p dOp from rfl,hX];refine⟨_,_,_,rfl,?_⟩;show (p.D++[_]).length=1;rw[<-hp];rfl
