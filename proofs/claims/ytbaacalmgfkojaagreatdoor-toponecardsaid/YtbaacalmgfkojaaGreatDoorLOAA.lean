/-
  Part.
-/
import Derived.Test.YtbaacalmgfkojaaGreatDoorLOY
import Derived.Test.YtbaacalmgfkojaaGreatDoorLOZ
set_option maxRecDepth 20000
set_option maxHeartbeats 8000000
namespace Go.Proofs.YtbaacalmgfkojaaGreatDoor
open Go.RowKit
open _root_.Nat renaming le_refl->A8,zero_le->AY
open _root_.List renaming getElem?_eq_getElem->AL,length_append->AO,getElem?_eq_some_iff->AU,take_of_length_le->BL,mem_cons->BO,mem_append->BU,pairwise_append->DJ,take_length->DU,mem_filter->EH,mem_map->EU,pairwise_cons->FH
open _root_.Bool renaming and_eq_true->BZ
open _root_.Option renaming some->FZ
variable{i j b c k:Nat}{l m:List GI}{x:GI}{e N:Int}{T S:Nat->Bool}
structure Ab where
 up:Bool
 m:List GI
 a:Nat
 e:Int
structure Aw where
 s:Nat->Ab
 ld:Option Nat
 f:Nat->Bool
 D:List GI
 H:List GI
def BQ7(l:List GI):Prop:=l.Pairwise fun x y=>x.z<y.z
theorem BQ8(hi:i<3)(hj:j<3)(hb:b<3)(hc:c<3)(h1:i≠j)(h2:b≠c):i=b\/i=c\/j=b\/j=c:=by omega
theorem ZC(h:l≠[]):∃y∈l,y.z=IZ l:=by
 rcases List.eq_nil_or_concat l with rfl|⟨l',x,rfl⟩
 .exact absurd rfl h
 .exact⟨x,by simp,by rw[List.concat_eq_append,TQ]⟩
theorem A43(h:BQ7 l)(hx:x∈l):x.z<=IZ l:=by
 rcases List.eq_nil_or_concat l with rfl|⟨l',y,rfl⟩
 .simp at hx
 .rw[List.concat_eq_append]at h hx⊢;rw[TQ];rcases BU.1 hx with hx|hx
  .exact Int.le_of_lt ((DJ.1 h).2.2 x hx y (by simp))
  .simp at hx;rw[hx];exact Int.le_refl _
theorem BA4(h:BQ7 l){y:GI}(hx:x∈l)(hy:y∈l.take j)(hz:x.z<=y.z):x∈l.take j:=by
 rw[<-List.take_append_drop j l]at hx h;rcases BU.1 hx with hx|hx
 .exact hx
 .have:=(DJ.1 h).2.2 y hy x hx;omega
theorem BU8{k:List GI}(hl:BQ7 l)(hk:BQ7 k)(h:∀x∈l,x∈k):l.Sublist k:=by
 induction k generalizing l with
 |nil=>
  cases l with
  |nil=>exact .slnil
  |cons x l=>exact absurd (h x (by simp)) (by simp)
 |cons y k ih=>
  have hk':=(FH.1 hk)
  cases l with
  |nil=>exact List.nil_sublist _
  |cons x l=>
   have hl':=FH.1 hl;rcases BO.1 (h x (by simp))with rfl|hxk
   .refine(ih hl'.2 hk'.2 (fun z hz=>?_)).cons_cons x;rcases BO.1 (h z (by simp[hz]))with rfl|hz'
    .have:=hl'.1 z hz;omega
    .exact hz'
   .refine(ih hl hk'.2 (fun z hz=>?_)).cons y;rcases BO.1 (h z hz)with rfl|hz'
    .rcases BO.1 hz with rfl|hzl
     .exact hxk
     .have h1:=hl'.1 z hzl;have h2:=hk'.1 x hxk;omega
    .exact hz'
structure yD(w:Aw):Prop where
 asc:∀i,i<3->BQ7 (w.s i).m
 le:∀i,i<3->(w.s i).a<=(w.s i).m.length
 hist:∀i,i<3->∀x∈(w.s i).m,x∈w.H
 one:∀x∈w.H,∀y∈w.H,x.z=y.z->x=y
 pos:∀x∈w.H,KH x.z=true/\0<x.z
 two:∀x∈w.H,∃i j,i<3/\j<3/\i≠j/\IW x.z<=(w.s i).e/\IW x.z<=(w.s j).e
 C81:∀k,k<3->∃i j,i<3/\j<3/\i≠j/\(w.s k).e<=(w.s i).e/\(w.s k).e<=(w.s j).e
 lead:∀b,w.ld=FZ b->b<3/\(w.s b).up=true/\w.f b=true/\(∀k,k<3->(w.s k).e<=(w.s b).e)/\(∀x∈w.H,IW x.z=(w.s b).e->x∈(w.s b).m)/\(∀i,i<3->w.f i=true->(w.s i).m=(w.s b).m/\(w.s i).up=true)/\∀x∈w.D,x∈(w.s b).m
 dh:∀x∈w.D,x∈w.H
 C82:BQ7 w.D
 all:∀x∈w.D,∀i,i<3->∀y∈(w.s i).m,x.z<=y.z->x∈(w.s i).m
 safe:∀x∈w.D,∃i j,i<3/\j<3/\i≠j/\x∈(w.s i).m.take (w.s i).a/\x∈(w.s j).m.take (w.s j).a
def put(s:Nat->Ab)(i:Nat)(v:Ab):Nat->Ab:=fun k=>if k=i then v else s k
theorem ZE(s:Nat->Ab)(i:Nat)(v:Ab):put s i v i=v:=by rw[put,if_pos rfl]
theorem QO(s:Nat->Ab)(v:Ab)(h:k≠i):put s i v k=s k:=by rw[put,if_neg h]
def KW(w:Aw)(i j:Nat):Aw:=⟨put w.s i ⟨false,(w.s i).m.take j,j,(w.s i).e⟩,if w.ld=FZ i then none else w.ld,fun k=>if w.ld=FZ i then false else if k=i then false else w.f k,w.D,w.H⟩
theorem AP8{w:Aw}(h:yD w)(hi:i<3)(h1:(w.s i).a<=j)(h2:j<=(w.s i).m.length):yD (KW w i j):=by
 have sm:∀k,∀x∈((KW w i j).s k).m,x∈(w.s k).m:=by
  intro k x hx;by_cases hk:k=i
  .subst hk;rw[KW]at hx;simp only[ZE]at hx;exact List.mem_of_mem_take hx
  .rw[KW]at hx;simp only[QO _ _ hk]at hx;exact hx
 have se:∀k,((KW w i j).s k).e=(w.s k).e:=by
  intro k;by_cases hk:k=i
  .subst hk;simp only[KW,ZE]
  .simp only[KW,QO _ _ hk]
 have st:∀k,∀x∈(w.s k).m.take (w.s k).a,x∈((KW w i j).s k).m.take ((KW w i j).s k).a:=by
  intro k x hx;by_cases hk:k=i
  .subst hk;simp only[KW,ZE];rw[List.take_take,Nat.min_self];exact(List.take_sublist_take_left h1).mem hx
  .simp only[KW,QO _ _ hk];exact hx
 refine⟨?_,?_,fun k hk x hx=>h.hist k hk x (sm k x hx),h.one,h.pos,?_,?_,?_,h.dh,h.C82,?_,?_⟩
 .intro k hk;by_cases e:k=i
  .subst e;simp only[KW,ZE];exact(h.asc k hk).sublist (List.take_sublist _ _)
  .simp only[KW,QO _ _ e];exact h.asc k hk
 .intro k hk;by_cases e:k=i
  .subst e;simp only[KW,ZE,List.length_take];omega
  .simp only[KW,QO _ _ e];exact h.le k hk
 .intro x hx;obtain⟨p,q,a1,a2,a3,a4,a5⟩:=h.two x hx;exact⟨p,q,a1,a2,a3,by rw[se];exact a4,by rw[se];exact a5⟩
 .intro k hk;obtain⟨p,q,a1,a2,a3,a4,a5⟩:=h.C81 k hk;exact⟨p,q,a1,a2,a3,by rw[se,se];exact a4,by rw[se,se];exact a5⟩
 .intro b hb;have hb':(if w.ld=FZ i then none else w.ld)=FZ b:=hb;by_cases e:w.ld=FZ i
  .rw[if_pos e]at hb';cases hb'
  .rw[if_neg e]at hb';obtain⟨a1,a2,a3,a4,a5,a6,a7⟩:=h.lead b hb';have hbi:b≠i:=by rintro rfl;exact e hb'
   refine⟨a1,by simp only[KW,QO _ _ hbi];exact a2,by simp only[KW,if_neg e,if_neg hbi];exact a3,fun k hk=>by rw[se,se];exact a4 k hk,fun x hx=>by rw[se];simp only[KW,QO _ _ hbi];exact a5 x hx,fun k hk hf=>?_,by simp only[KW,QO _ _ hbi];exact a7⟩;by_cases hki:k=i
   .simp only[KW,if_neg e,if_pos hki]at hf;cases hf
   .simp only[KW,if_neg e,if_neg hki]at hf;simp only[KW,QO _ _ hbi,QO _ _ hki];exact a6 k hk hf
 .intro x hx k hk y hy hz;by_cases e:k=i
  .subst e;simp only[KW,ZE]at hy⊢;exact BA4 (h.asc k hk) (h.all x hx k hk y (List.mem_of_mem_take hy) hz) hy hz
  .simp only[KW,QO _ _ e]at hy⊢;exact h.all x hx k hk y hy hz
 .intro x hx;obtain⟨p,q,a1,a2,a3,a4,a5⟩:=h.safe x hx;exact⟨p,q,a1,a2,a3,st p x a4,st q x a5⟩
def upA(w:Aw)(i:Nat):Aw:=⟨put w.s i ⟨true,(w.s i).m,(w.s i).a,(w.s i).e⟩,w.ld,w.f,w.D,w.H⟩
theorem CA0{w:Aw}(h:yD w)(i:Nat):yD (upA w i):=by
 have sm:∀k,((upA w i).s k).m=(w.s k).m/\((upA w i).s k).a=(w.s k).a/\((upA w i).s k).e=(w.s k).e/\((w.s k).up=true->((upA w i).s k).up=true):=by
  intro k;by_cases e:k=i
  .subst e;simp only[upA,ZE];exact⟨trivial,trivial,trivial,fun _=>trivial⟩
  .simp only[upA,QO _ _ e];exact⟨trivial,trivial,trivial,fun h=>h⟩
 refine⟨fun k hk=>by rw[(sm k).1];exact h.asc k hk,fun k hk=>by rw[(sm k).1,(sm k).2.1];exact h.le k hk,fun k hk=>by rw[(sm k).1];exact h.hist k hk,h.one,h.pos,fun x hx=>?_,fun k hk=>?_,fun b hb=>?_,h.dh,h.C82,fun x hx k hk=>by rw[(sm k).1];exact h.all x hx k hk,fun x hx=>?_⟩
 .obtain⟨p,q,a1,a2,a3,a4,a5⟩:=h.two x hx;exact⟨p,q,a1,a2,a3,by rw[(sm p).2.2.1];exact a4,by rw[(sm q).2.2.1];exact a5⟩
 .obtain⟨p,q,a1,a2,a3,a4,a5⟩:=h.C81 k hk;exact⟨p,q,a1,a2,a3,by rw[(sm p).2.2.1,(sm k).2.2.1];exact a4,by rw[(sm q).2.2.1,(sm k).2.2.1];exact a5⟩
 .obtain⟨a1,a2,a3,a4,a5,a6,a7⟩:=h.lead b hb;refine⟨a1,(sm b).2.2.2 a2,a3,fun k hk=>by rw[(sm k).2.2.1,(sm b).2.2.1];exact a4 k hk,fun x hx=>by rw[(sm b).2.2.1,(sm b).1];exact a5 x hx,fun k hk hf=>?_,by rw[(sm b).1];exact a7⟩;rw[(sm k).1,(sm b).1];exact⟨(a6 k hk hf).1,(sm k).2.2.2 (a6 k hk hf).2⟩
 .obtain⟨p,q,a1,a2,a3,a4,a5⟩:=h.safe x hx;exact⟨p,q,a1,a2,a3,by rw[(sm p).1,(sm p).2.1];exact a4,by rw[(sm q).1,(sm q).2.1];exact a5⟩
def TS(w:Aw)(b:Nat)(e:Int):Aw:=⟨fun k=>if(w.s k).up=true then⟨true,(w.s b).m,(w.s b).m.length,e⟩else w.s k,FZ b,fun k=>(w.s k).up,w.D,w.H⟩
theorem AP9{w:Aw}(h:yD w)(hb:b<3)(hc:c<3)(hbc:b≠c)(ub:(w.s b).up=true)(uc:(w.s c).up=true)(hl:∀k,k<3->(w.s k).up=true->IZ (w.s k).m<=IZ (w.s b).m)(he:∀k,k<3->(w.s k).up=true->(w.s k).e<e):yD (TS w b e):=by
 have su:∀k,(w.s k).up=true->(TS w b e).s k=⟨true,(w.s b).m,(w.s b).m.length,e⟩:=fun k hk=>by simp only[TS,if_pos hk]
 have sd:∀k,(w.s k).up≠true->(TS w b e).s k=w.s k:=fun k hk=>by simp only[TS,if_neg hk]
 have top:∀k,k<3->(w.s k).e<e:=by
  intro k hk;obtain⟨i,j,a1,a2,a3,a4,a5⟩:=h.C81 k hk;rcases BQ8 a1 a2 hb hc a3 hbc with r|r|r|r
  .have:=he i a1 (by rw[r];exact ub);omega
  .have:=he i a1 (by rw[r];exact uc);omega
  .have:=he j a2 (by rw[r];exact ub);omega
  .have:=he j a2 (by rw[r];exact uc);omega
 have ge:∀k,k<3->(w.s k).e<=((TS w b e).s k).e:=by
  intro k hk;by_cases u:(w.s k).up=true
  .rw[su k u];have:=top k hk;show (w.s k).e<=e;omega
  .rw[sd k u];exact Int.le_refl _
 have sub:∀x∈w.D,x∈(w.s b).m:=by
  intro x hx;have key:∀i,i<3->(w.s i).up=true->x∈(w.s i).m->x∈(w.s b).m:=by
   intro i hi ui hxi;have h1:=A43 (h.asc i hi) hxi;have h2:=hl i hi ui;have h3:=(h.pos x (h.dh x hx)).2;have hne:(w.s b).m≠[]:=by
    intro h0;rw[h0,VT]at h2;omega
   obtain⟨y,hy,hyz⟩:=ZC hne;exact h.all x hx b hb y hy (by omega)
  obtain⟨i,j,a1,a2,a3,a4,a5⟩:=h.safe x hx;have b4:=List.mem_of_mem_take a4;have b5:=List.mem_of_mem_take a5;rcases BQ8 a1 a2 hb hc a3 hbc with r|r|r|r
  .exact key i a1 (by rw[r];exact ub) b4
  .exact key i a1 (by rw[r];exact uc) b4
  .exact key j a2 (by rw[r];exact ub) b5
  .exact key j a2 (by rw[r];exact uc) b5
 refine⟨?_,?_,?_,h.one,h.pos,?_,?_,?_,h.dh,h.C82,?_,?_⟩
 .intro k hk;by_cases u:(w.s k).up=true
  .rw[su k u];exact h.asc b hb
  .rw[sd k u];exact h.asc k hk
 .intro k hk;by_cases u:(w.s k).up=true
  .rw[su k u];exact A8 _
  .rw[sd k u];exact h.le k hk
 .intro k hk;by_cases u:(w.s k).up=true
  .rw[su k u];exact h.hist b hb
  .rw[sd k u];exact h.hist k hk
 .intro x hx;obtain⟨i,j,a1,a2,a3,a4,a5⟩:=h.two x hx;exact⟨i,j,a1,a2,a3,Int.le_trans a4 (ge i a1),Int.le_trans a5 (ge j a2)⟩
 .intro k hk;by_cases u:(w.s k).up=true
  .exact⟨b,c,hb,hc,hbc,by rw[su k u,su b ub];exact Int.le_refl _,by rw[su k u,su c uc];exact Int.le_refl _⟩
  .obtain⟨i,j,a1,a2,a3,a4,a5⟩:=h.C81 k hk;exact⟨i,j,a1,a2,a3,by rw[sd k u];exact Int.le_trans a4 (ge i a1),by rw[sd k u];exact Int.le_trans a5 (ge j a2)⟩
 .intro b' hb';have hbb:FZ b=FZ b':=hb'
  cases hbb
  refine⟨hb,by rw[su b ub],ub,fun k hk=>?_,fun x hx hz=>?_,fun k _ hf=>?_,by rw[su b ub];exact sub⟩
  .rw[su b ub];by_cases u:(w.s k).up=true
   .rw[su k u];exact Int.le_refl _
   .rw[sd k u];have:=top k hk;show (w.s k).e<=e;omega
  .rw[su b ub]at hz;obtain⟨i,_,a1,_,_,a4,_⟩:=h.two x hx;have:=top i a1;have hz':IW x.z=e:=hz;omega
  .have u:(w.s k).up=true:=hf;rw[su k u,su b ub];exact⟨rfl,rfl⟩
 .intro x hx k hk y hy hz;by_cases u:(w.s k).up=true
  .rw[su k u];exact sub x hx
  .rw[sd k u]at hy⊢;exact h.all x hx k hk y hy hz
 .intro x hx;exact⟨b,c,hb,hc,hbc,by rw[su b ub];simp only[DU];exact sub x hx,by rw[su c uc];simp only[DU];exact sub x hx⟩
theorem AQ0{a b:Int}(ha:KH a=true)(hb:KH b=true)(h:IW a<IW b):a<b:=by
 rw[IW,if_pos ha,IW,if_pos hb]at h;omega
def LZ(w:Aw)(T S:Nat->Bool)(x:GI)(k:Nat):Ab:=if T k=true then⟨(w.s k).up,(w.s k).m++[x],if S k=true then(w.s k).m.length+1 else(w.s k).a,(w.s k).e⟩else w.s k
def AD2(w:Aw)(b:Nat)(T S:Nat->Bool)(x:GI):Aw:=⟨LZ w T S x,FZ b,T,w.D++[x],w.H++[x]⟩
def BA5(w:Aw)(T S:Nat->Bool)(x:GI):Aw:=⟨LZ w T S x,none,fun _=>false,w.D,w.H++[x]⟩
structure WrA(w:Aw)(b:Nat)(T S:Nat->Bool)(x:GI):Prop where
 ld:w.ld=FZ b
 tb:T b=true
 tf:∀i,i<3->T i=true->w.f i=true
 st:∀i,S i=true->T i=true
 z:IZ (w.s b).m<x.z
 g:KH x.z=true/\0<x.z
 e:IW x.z=(w.s b).e
theorem RV{w:Aw}(h:yD w)(r:WrA w b T S x):∀y∈w.H,y.z<x.z:=by
 intro y hy;obtain⟨a1,_,_,a4,a5,_,_⟩:=h.lead b r.ld;by_cases hz:IW y.z=(w.s b).e
 .have:=A43 (h.asc b a1) (a5 y hy hz);have:=r.z;omega
 .obtain⟨i,_,c1,_,_,c4,_⟩:=h.two y hy;have:=a4 i c1;exact AQ0 (h.pos y hy).1 r.g.1 (by rw[r.e];omega)
theorem A44{w:Aw}(h:yD w)(r:WrA w b T S x)(D':List GI)(hD:∀y∈D',y∈w.D\/y=x)(hasc:BQ7 D')(hS:x∈D'->∃c,c<3/\c≠b/\S c=true/\S b=true):
  ∀ld f,(ld=none\/ld=FZ b/\f=T)->yD ⟨LZ w T S x,ld,f,D',w.H++[x]⟩:=by
 intro ld f hld;obtain⟨a1,a2,a3,a4,a5,a6,a7⟩:=h.lead b r.ld;have above:=RV h r;have ty:∀k,T k=true->LZ w T S x k=⟨(w.s k).up,(w.s k).m++[x],if S k=true then(w.s k).m.length+1 else(w.s k).a,(w.s k).e⟩:=fun k hk=>by rw[LZ,if_pos hk]
 have tn:∀k,T k≠true->LZ w T S x k=w.s k:=fun k hk=>by rw[LZ,if_neg hk]
 have te:∀k,(LZ w T S x k).e=(w.s k).e:=fun k=>by
  by_cases hk:T k=true
  .rw[ty k hk]
  .rw[tn k hk]
 have tm:∀k,∀y∈(LZ w T S x k).m,y∈(w.s k).m\/y=x/\T k=true:=fun k y hy=>by
  by_cases hk:T k=true
  .rw[ty k hk]at hy;rcases BU.1 hy with hy|hy
   .exact .inl hy
   .exact .inr ⟨by simpa using hy,hk⟩
  .rw[tn k hk]at hy;exact .inl hy
 have mt:∀k,∀y∈(w.s k).m,y∈(LZ w T S x k).m:=fun k y hy=>by
  by_cases hk:T k=true
  .rw[ty k hk];exact BU.2 (.inl hy)
  .rw[tn k hk];exact hy
 have eq:∀k,k<3->T k=true->(w.s k).m=(w.s b).m:=fun k hk ht=>(a6 k hk (r.tf k hk ht)).1;have st:∀k,k<3->∀y∈(w.s k).m.take (w.s k).a,y∈(LZ w T S x k).m.take (LZ w T S x k).a:=fun k hk y hy=>by
  by_cases ht:T k=true
  .rw[ty k ht];simp only
   split
   .rw[BL (by simp)];exact BU.2 (.inl (List.mem_of_mem_take hy))
   .rw[List.take_append_of_le_length (h.le k hk)];exact hy
  .rw[tn k ht];exact hy
 have hH:∀y∈w.H++[x],y∈w.H\/y=x:=fun y hy=>by
  rcases BU.1 hy with hy|hy
  .exact .inl hy
  .exact .inr (by simpa using hy)
 refine⟨?_,?_,?_,?_,?_,?_,?_,?_,?_,hasc,?_,?_⟩
 .intro k hk;show BQ7 (LZ w T S x k).m;by_cases ht:T k=true
  .rw[ty k ht];show ((w.s k).m++[x]).Pairwise _;rw[DJ];refine⟨h.asc k hk,List.pairwise_singleton _ _,fun y hy z hz=>?_⟩;simp at hz;rw[hz];exact above y (h.hist k hk y hy)
  .rw[tn k ht];exact h.asc k hk
 .intro k hk;show (LZ w T S x k).a<=(LZ w T S x k).m.length;by_cases ht:T k=true
  .rw[ty k ht];simp only[AO,List.length_singleton];have:=h.le k hk
   split<;>omega
  .rw[tn k ht];exact h.le k hk
 .intro k hk y hy;rcases tm k y hy with hy|⟨rfl,_⟩
  .exact BU.2 (.inl (h.hist k hk y hy))
  .simp
 .intro y hy z hz e;rcases hH y hy with h1|h1<;>rcases hH z hz with h2|h2
  .exact h.one y h1 z h2 e
  .have:=above y h1;rw[h2]at e;omega
  .have:=above z h2;rw[h1]at e;omega
  .rw[h1,h2]
 .intro y hy;rcases hH y hy with hy|rfl
  .exact h.pos y hy
  .exact r.g
 .intro y hy;show ∃i j,i<3/\j<3/\i≠j/\IW y.z<=(LZ w T S x i).e/\IW y.z<=(LZ w T S x j).e;rcases hH y hy with hy|rfl
  .obtain⟨i,j,c1,c2,c3,c4,c5⟩:=h.two y hy;exact⟨i,j,c1,c2,c3,by rw[te];exact c4,by rw[te];exact c5⟩
  .obtain⟨i,j,c1,c2,c3,c4,c5⟩:=h.C81 b a1;exact⟨i,j,c1,c2,c3,by rw[te,r.e];exact c4,by rw[te,r.e];exact c5⟩
 .intro k hk;show ∃i j,i<3/\j<3/\i≠j/\(LZ w T S x k).e<=(LZ w T S x i).e/\(LZ w T S x k).e<=(LZ w T S x j).e;obtain⟨i,j,c1,c2,c3,c4,c5⟩:=h.C81 k hk;exact⟨i,j,c1,c2,c3,by rw[te,te];exact c4,by rw[te,te];exact c5⟩
 .intro b' hb';have hb'':ld=FZ b':=hb';rcases hld with e|⟨e,rfl⟩
  .rw[e]at hb'';cases hb''
  .rw[e]at hb''
   cases hb''
   refine⟨a1,?_,r.tb,?_,?_,?_,?_⟩
   .show (LZ w f S x b).up=true;rw[ty b r.tb];exact a2
   .intro k hk;show (LZ w f S x k).e<=(LZ w f S x b).e;rw[te,te];exact a4 k hk
   .intro y hy hz;show y∈(LZ w f S x b).m;have hz':IW y.z=(LZ w f S x b).e:=hz;rw[te]at hz';rcases hH y hy with hy|rfl
    .exact mt b y (a5 y hy hz')
    .rw[ty b r.tb];simp
   .intro k hk hf;show (LZ w f S x k).m=(LZ w f S x b).m/\(LZ w f S x k).up=true;have hf':f k=true:=hf;rw[ty k hf',ty b r.tb];exact⟨by simp only;rw[eq k hk hf'],(a6 k hk (r.tf k hk hf')).2⟩
   .intro y hy;show y∈(LZ w f S x b).m;rcases hD y hy with hy|rfl
    .exact mt b y (a7 y hy)
    .rw[ty b r.tb];simp
 .intro y hy;rcases hD y hy with hy|rfl
  .exact BU.2 (.inl (h.dh y hy))
  .simp
 .intro y hy k hk z hz hyz;show y∈(LZ w T S x k).m;rcases hD y hy with hyD|rfl
  .rcases tm k z hz with hz'|⟨rfl,ht⟩
   .exact mt k y (h.all y hyD k hk z hz' hyz)
   .rw[ty k ht];exact BU.2 (.inl (by rw[eq k hk ht];exact a7 y hyD))
  .rcases tm k z hz with hz'|⟨rfl,_⟩
   .have:=above z (h.hist k hk z hz');omega
   .exact hz
 .intro y hy;show ∃i j,i<3/\j<3/\i≠j/\y∈(LZ w T S x i).m.take (LZ w T S x i).a/\y∈(LZ w T S x j).m.take (LZ w T S x j).a;rcases hD y hy with hyD|rfl
  .obtain⟨i,j,c1,c2,c3,c4,c5⟩:=h.safe y hyD;exact⟨i,j,c1,c2,c3,st i c1 y c4,st j c2 y c5⟩
  .obtain⟨c,hc,hcb,sc,sb⟩:=hS hy;have key:∀k,S k=true->y∈(LZ w T S y k).m.take (LZ w T S y k).a:=fun k hk=>by
    rw[ty k (r.st k hk)];simp only;rw[if_pos hk,BL (by simp)];simp
   exact⟨b,c,a1,hc,hcb.symm,key b sb,key c sc⟩
theorem BA6{w:Aw}(h:yD w)(r:WrA w b T S x)(hc:c<3)(hcb:c≠b)(sc:S c=true)(sb:S b=true):yD (AD2 w b T S x):=by
 refine A44 h r (w.D++[x]) (fun y hy=>?_) ?_ (fun _=>⟨c,hc,hcb,sc,sb⟩) (FZ b) T (.inr ⟨rfl,rfl⟩)
 .rcases BU.1 hy with hy|hy
  .exact .inl hy
  .exact .inr (by simpa using hy)
 .show (w.D++[x]).Pairwise _;rw[DJ];refine⟨h.C82,List.pairwise_singleton _ _,fun y hy z hz=>?_⟩;simp at hz;rw[hz];exact RV h r y (h.dh y hy)
theorem BA7{w:Aw}(h:yD w)(r:WrA w b T S x):yD (BA5 w T S x):=
 A44 h r w.D (fun y hy=>.inl hy) h.C82 (fun hx=>absurd (RV h r x (h.dh x hx)) (by omega)) none (fun _=>false) (.inl rfl)
theorem CL2{w:Aw}(h:yD w)(hb:w.ld=FZ b):w.D.Sublist (w.s b).m:=by
 obtain⟨a1,_,_,_,_,_,a7⟩:=h.lead b hb;exact BU8 h.C82 (h.asc b a1) a7
structure Dd where
 k:Int
 c:Int
 s:Int
 q:Rq
 lo:Int
 sl:Int
 ke:Int
 wt:Bool
def yS(d:Dd):List Value:=[I0 d.k,I0 d.c,I0 d.s,I0 d.q.o,I0 d.q.s,S0 d.q.p,S0 d.q.d,I0 d.q.v,I0 d.q.f,I0 d.lo,I0 d.sl,I0 d.ke,.bool d.wt]
def ddV(d:Dd):Value:=.agg #[I0 d.k,I0 d.c,I0 d.s,I0 d.q.o,I0 d.q.s,S0 d.q.p,S0 d.q.d,I0 d.q.v,I0 d.q.f,I0 d.lo,I0 d.sl,I0 d.ke,.bool d.wt]
instance layD:Lay Dd:=⟨13,yS,30,fun _=>rfl,fun x u hu=>by simp[yS]at hu;rcases hu with rfl|rfl|rfl|rfl|rfl|rfl|rfl|rfl|rfl|rfl|rfl|rfl|rfl<;>rfl⟩
structure Ps where
 up:Bool
 e:Int
 m:List GI
 a:Nat
 q:List UInt8
 dn:Nat
 ws:List Wa
structure Cl where
 s:Int
 z:Int
 es:List En
structure Pw where
 n:Int
 s:Nat->Ps
 r:Nat->Int
 c:Nat->Cl
 D:List GI
 H:List GI
 h:Nat
structure Rp where
 E:Int
 z:Int
 p:List UInt8
 d:List UInt8
 t:Nd
 ns:List Nt
def nd0:Nd:=⟨[],[],0,0,0,0,0,0,0⟩
def TF(E:Int):Rp:=⟨E,0,[],[],nd0,[]⟩
def LU{α:Type}(f:Nat->α)(i:Nat)(v:α):Nat->α:=fun k=>if k=i then v else f k
theorem II{α:Type}(f:Nat->α)(i:Nat)(v:α):LU f i v i=v:=by rw[LU,if_pos rfl]
theorem GH{α:Type}(f:Nat->α)(v:α)(h:k≠i):LU f i v k=f k:=by rw[LU,if_neg h]
def epD(e:Int):List DF:=if e=0 then []else [Y0 e]
theorem AA0:epD 0=[]:=rfl
theorem A19(h:e≠0):epD e=[Y0 e]:=by rw[epD,if_neg h]
noncomputable def svP(i:Nat)(p:Ps):Sv:=
 if p.up=true then⟨true,epD p.e++[⟨NK,I9 (p.m.take p.a),I9 (p.m.drop p.a)⟩],i,p.e,p.m,p.dn,RJ p.m p.dn,p.ws⟩
 else⟨false,epD p.e++[⟨NK,I9 p.m++p.q,[]⟩],i,0,[],0,QE,[]⟩
theorem IY{p:Ps}(h:p.up=true):svP i p=⟨true,epD p.e++[⟨NK,I9 (p.m.take p.a),I9 (p.m.drop p.a)⟩],i,p.e,p.m,p.dn,RJ p.m p.dn,p.ws⟩:=by rw[svP,if_pos h]
theorem TG{p:Ps}(h:p.up=false):svP i p=⟨false,epD p.e++[⟨NK,I9 p.m++p.q,[]⟩],i,0,[],0,QE,[]⟩:=by rw[svP,if_neg (by simp[h])]
def whole:List GI->Nat->Nat
 |[],_=>0
 |t::r,k=>if(QK t).length<=k then 1+whole r (k-(QK t).length)else 0
def B92:List GI->Nat->List UInt8
 |[],_=>[]
 |t::r,k=>if(QK t).length<=k then B92 r (k-(QK t).length)else(QK t).take k
theorem qM:∀ (l:List GI) (k:Nat),whole l k<=l.length
 |[],_=>by simp[whole]
 |t::r,k=>by
  have:=qM r (k-(QK t).length);unfold whole
  split
  .simp;omega
  .simp
theorem wI:∀ (l:List GI) (k:Nat),(I9 l).take k=I9 (l.take (whole l k))++B92 l k
 |[],k=>by simp[I9,whole,B92]
 |t::r,k=>by
  unfold whole B92;by_cases h:(QK t).length<=k
  .rw[if_pos h,if_pos h,Nat.add_comm,List.take_succ_cons,I9,I9,List.take_append,BL h,wI r,List.append_assoc]
  .rw[if_neg h,if_neg h,I9,List.take_append_of_le_length (by omega)];simp[I9]
theorem jX:∀ (l:List GI) (k:Nat),B92 l k=[]\/∃t∈l,∃j,j<(QK t).length/\B92 l k=(QK t).take j
 |[],_=>.inl rfl
 |t::r,k=>by
  unfold B92;by_cases h:(QK t).length<=k
  .rw[if_pos h];rcases jX r (k-(QK t).length)with h1|⟨x,hx,j,hj,e⟩
   .exact .inl h1
   .exact .inr ⟨x,by simp[hx],j,hj,e⟩
  .rw[if_neg h];exact .inr ⟨t,by simp,k,by omega,rfl⟩
def O8(p:Ps)(k:Nat):Ps:=⟨false,p.e,p.m.take (p.a+whole (p.m.drop p.a) k),p.a+whole (p.m.drop p.a) k,B92 (p.m.drop p.a) k,0,[]⟩
def upP(p:Ps):Ps:=⟨true,p.e,p.m,p.m.length,[],0,[]⟩
noncomputable def Z4(i:Nat)(p:Ps):Sv×List Nt:=csP (svP i p) (p.m.drop p.dn) (p.m.length-p.dn)
noncomputable def fB(i:Nat)(p:Ps):Ps:=⟨p.up,p.e,p.m,p.a,p.q,p.m.length,(Z4 i p).1.ws⟩
noncomputable def LV(s:Nat->Ps):List Nat->(Nat->Ps)×List Nt
 |[]=>(s,[])
 |i::l=>((LV (LU s i (fB i (s i))) l).1,(Z4 i (s i)).2++(LV (LU s i (fB i (s i))) l).2)
def YU(c:Nat->Cl)(l:List Nt):Nat->Cl:=fun k=>⟨(c k).s,(c k).z,SK (c k).s l (c k).es⟩
def ldP(r:Nat->Int):Int:=if r 0=2 then 0 else if r 1=2 then 1 else if r 2=2 then 2 else -1
def JX(s:Nat->Ps):List Nat:=[0,1,2].filter fun i=>(s i).up
def QH(s:Nat->Ps):List Key:=(JX s).map fun(i:Nat)=>((i:Int),(s i).e,IZ (s i).m)
def eB(s:Nat->Ps):Nat:=(JX s).getD (MH (QH s) (JX s).length) 0
def eN(s:Nat->Ps):Int:=VL (QH s)+1
def AO3(s:Nat->Ps):Bool:=(JX s).any fun i=>decide (KQ (s i).m (s (eB s)).m<(s i).dn)
def wJ(e:Int)(m:List GI)(p:Ps):Ps:=⟨true,e,m,m.length,[],p.dn,p.ws⟩
def eS(s:Nat->Ps):Nat->Ps:=fun k=>if(s k).up=true/\k<3 then wJ (eN s) (s (eB s)).m (s k)else s k
def eR(s:Nat->Ps):Nat->Int:=fun k=>if k=eB s then 2 else if(s k).up=true/\k<3 then 1 else 0
noncomputable def TI(p:Pw):Rp×Pw:=
 if(JX p.s).length<2 then(TF 14,p)else if AO3 p.s=true then(TF 13,p)
 else(⟨0,IZ (p.s (eB p.s)).m,[],[],nd0,(LV (eS p.s) (JX p.s)).2⟩,⟨p.n,(LV (eS p.s) (JX p.s)).1,eR p.s,YU p.c (LV (eS p.s) (JX p.s)).2,p.D,p.H,p.h⟩)
noncomputable def UA(p:Pw)(i:Nat)(ke:Int):Rp×Pw:=
 if(p.s i).up=false then(TF 14,p)else if ke<0 then(TF 3,p)
 else(TF 0,⟨p.n,LU p.s i (O8 (p.s i) ke.toNat),if p.r i=2 then fun _=>0 else LU p.r i 0,p.c,p.D,p.H,p.h⟩)
def upW(p:Pw)(i:Nat):Rp×Pw:=
 if(p.s i).up=true then(TF 8,p)else(TF 0,⟨p.n,LU p.s i (upP (p.s i)),p.r,p.c,p.D,p.H,p.h⟩)
def AA1(n:Int)(i:Nat):Bool:=decide (n/2^i%2=1)
def ldN(r:Nat->Int):Nat:=(ldP r).toNat
def wZ(p:Pw):Int:=nxN (p.s (ldN p.r)).e (IZ (p.s (ldN p.r)).m)
def wQ(p:Pw)(d:Dd):Rq:=⟨d.q.o,(p.c d.c.toNat).s,d.q.p,d.q.d,d.q.v,d.q.f⟩
noncomputable def wTr(p:Pw):Tr:=RJ (p.s (ldN p.r)).m (p.s (ldN p.r)).dn
noncomputable def wE(p:Pw)(d:Dd):Int:=eX (wTr p) (wZ p) (wQ p d)
noncomputable def wX(p:Pw)(d:Dd):GI:=AO1 (wTr p) (wZ p) (wQ p d)
def wT(p:Pw)(d:Dd)(i:Nat):Bool:=decide (p.r i=2)||(decide (p.r i=1)&& !AA1 d.lo i)
def wS(p:Pw)(d:Dd)(i:Nat):Bool:=wT p d i&&(decide (p.r i=2)|| !AA1 d.sl i)
def SN(x:GI)(sure:Bool)(p:Ps):Ps:=⟨p.up,p.e,p.m++[x],if sure=true then p.m.length+1 else p.a,p.q,p.dn,p.ws⟩
noncomputable def wSv(p:Pw)(d:Dd):Nat->Ps:=fun k=>if wT p d k=true then SN (wX p d) (wS p d k) (p.s k)else p.s k
def wRo(p:Pw)(d:Dd):Nat->Int:=fun k=>if wT p d k=true then p.r k else 0
def wL(p:Pw)(d:Dd):List Nat:=[0,1,2].filter fun i=>wS p d i
def lC(t:Tr)(p:List UInt8):Option Nd:=t.ns.find? fun n=>decide (n.p=p)
noncomputable def wCl(p:Pw)(d:Dd)(l:List Nt):Nat->Cl:=LU (YU p.c l) d.c.toNat ⟨(YU p.c l d.c.toNat).s,wZ p,(YU p.c l d.c.toNat).es⟩
noncomputable def QS(p:Pw)(d:Dd):Rp×Pw:=
 if ldP p.r=-1 then(TF 14,p)else if wE p d≠0 then(TF (wE p d),p)
 else if(wL p d).length<2 then(⟨16,(wX p d).z,[],[],nd0,[]⟩,⟨p.n,wSv p d,fun _=>0,p.c,p.D,p.H++[wX p d],p.h⟩)
 else(⟨0,(wX p d).z,(wX p d).p,[],(lC (RJ ((p.s (ldN p.r)).m++[wX p d]) ((p.s (ldN p.r)).m.length+1)) (wX p d).p).getD nd0,(LV (wSv p d) (wL p d)).2⟩,
  ⟨p.n,(LV (wSv p d) (wL p d)).1,wRo p d,wCl p d (LV (wSv p d) (wL p d)).2,p.D++[wX p d],p.H++[wX p d],p.h⟩)
noncomputable def rTr(p:Pw)(d:Dd):Tr:=RJ (p.s d.s.toNat).m (p.s d.s.toNat).dn
noncomputable def rN(p:Pw)(d:Dd):Option Nd:=lC (rTr p d) d.q.p
def rWa(p:Pw)(d:Dd):Wa:=⟨(p.c d.c.toNat).s,1,d.q.p⟩
def xU(q:Ps)(x:Wa):Ps:=⟨q.up,q.e,q.m,q.a,q.q,q.dn,nM q.ws x⟩
noncomputable def B30(p:Pw)(d:Dd):Rp:=⟨if(rN p d).isSome=true then 0 else 7,(rTr p d).z,((rN p d).getD nd0).p,((rN p d).getD nd0).d,(rN p d).getD nd0,[]⟩
noncomputable def jY(p:Pw)(d:Dd):Rp×Pw:=
 if(p.s d.s.toNat).up=false then(TF 14,p)else if(rTr p d).z<(p.c d.c.toNat).z then(TF 15,p)
 else if d.wt=false then(B30 p d,⟨p.n,p.s,p.r,LU p.c d.c.toNat ⟨(p.c d.c.toNat).s,(rTr p d).z,(p.c d.c.toNat).es⟩,p.D,p.H,p.h⟩)
 else if aJ (p.s d.s.toNat).ws (rWa p d)≠0 then(TF (aJ (p.s d.s.toNat).ws (rWa p d)),p)
 else(B30 p d,⟨p.n,LU p.s d.s.toNat (xU (p.s d.s.toNat) (rWa p d)),p.r,LU p.c d.c.toNat ⟨(p.c d.c.toNat).s,(rTr p d).z,VK (p.c d.c.toNat).es ⟨d.q.p,((rN p d).getD nd0).d,(rN p d).isSome⟩⟩,p.D,p.H,p.h⟩)
def lG(i:Int)(n:Int):Bool:=decide (0<=i)&&decide (i<n)
def UC(d:Dd):Int:=
 if d.k=1 then(if lG d.c 16=true then 0 else 3)else if d.k=2 then(if lG d.c 16=true/\lG d.s 3=true then 0 else 3)
 else if d.k=3\/d.k=4 then(if lG d.s 3=true then 0 else 3)else if d.k=5 then 0 else 4
noncomputable def lH(p:Pw)(d:Dd):Rp×Pw:=
 if d.k=1 then QS p d else if d.k=2 then jY p d else if d.k=3 then UA p d.s.toNat d.ke else if d.k=4 then upW p d.s.toNat else TI p
def NM(p:Pw):Pw:=⟨p.n+1,p.s,p.r,p.c,p.D,p.H,p.h⟩
noncomputable def doP(p:Pw)(d:Dd):Rp×Pw:=
 if 300<=p.n then(TF 6,p)else if UC d≠0 then(TF (UC d),NM p)else lH (NM p) d
def ps0:Ps:=⟨true,0,[],0,[],0,[]⟩
def pw0(k:Nat):Pw:=⟨0,fun _=>ps0,fun _=>0,fun i=>⟨i+1,0,[]⟩,[],[],k⟩
noncomputable def lI(p:Pw):List Dd->Pw
 |[]=>p
 |d::l=>lI (doP p d).2 l
def AA8(m:List GI):Prop:=∀i x,m[i]?=FZ x->XZ (RJ m i) x=0
structure MI(N:Int)(p:Ps):Prop where
 log:Logs p.m
 pos:∀x∈p.m,0<x.z
 len:(p.m.length:Int)<=N
 a:p.a<=p.m.length
 e0:0<=p.e
 e1:p.e<=N
 dn:p.dn<=p.m.length
 play:AA8 p.m
 wl:(p.ws.length:Int)<=N
 wk:∀x∈p.ws,1<=x.s/\x.s<=16/\x.k=1/\J4 x.p=true
 down:p.up=false->p.a=p.m.length/\p.dn=0/\p.ws=[]/\Scan (I9 p.m++p.q) p.m p.q/\p.q.length<=487
 upq:p.up=true->p.q=[]
theorem MI.more{M:Int}{p:Ps}(h:MI N p)(hM:N<=M):MI M p:=
 ⟨h.log,h.pos,Int.le_trans h.len hM,h.a,h.e0,Int.le_trans h.e1 hM,h.dn,h.play,Int.le_trans h.wl hM,h.wk,h.down,h.upq⟩
structure rY(N:Int)(H:List GI)(i:Nat)(c:Cl):Prop where
 s:c.s=i+1
 z:c.z=0\/∃x∈H,c.z=x.z
 asc:AO2 c.es
 len:(c.es.length:Int)<=N
 sh:∀x∈c.es,x.p.length<=200/\x.d.length<=256
def awP(p:Pw):Aw:=
 ⟨fun k=>if k<3 then⟨(p.s k).up,(p.s k).m,(p.s k).a,(p.s k).e⟩else⟨false,[],0,0⟩,if ldP p.r=-1 then none else FZ (ldN p.r),fun k=>decide (k<3)&&decide (p.r k≠0),p.D,p.H⟩
structure SH(p:Pw):Prop where
 n0:0<=p.n
 n1:p.n<=300
 s:∀i,i<3->MI p.n (p.s i)
 r:∀i,i<3->p.r i=0\/p.r i=1\/p.r i=2
 one:∀i j,i<3->j<3->p.r i=2->p.r j=2->i=j
 led:ldP p.r=-1->∀i,i<3->p.r i=0
 rup:∀i,i<3->p.r i≠0->(p.s i).up=true
 all:∀b,b<3->p.r b=2->(p.s b).dn=(p.s b).m.length
 a:yD (awP p)
 c:∀i,i<16->rY p.n p.H i (p.c i)
 cnt:∀x∈p.H,x.z%2147483648<=p.n
 few:(p.D.length:Int)<=p.n
theorem fV{r:Nat->Int}(hb:b<3)(h:r b=2)(ho:∀i j,i<3->j<3->r i=2->r j=2->i=j):ldP r=b:=by
 have e:∀i,i<3->(r i=2↔i=b):=fun i hi=>⟨fun h1=>ho i b hi hb h1 h,fun h1=>by rw[h1];exact h⟩;unfold ldP;have h0:=e 0 (by omega);have h1:=e 1 (by omega);have h2:=e 2 (by omega);rcases(show b=0\/b=1\/b=2 by omega)with rfl|rfl|rfl<;>simp_all
theorem aQ(r:Nat->Int):(ldP r=-1/\∀i,i<3->r i≠2)\/∃b,b<3/\ldP r=(b:Nat)/\r b=2:=by
 unfold ldP;by_cases h0:r 0=2
 .exact .inr ⟨0,by omega,by rw[if_pos h0];rfl,h0⟩
 .by_cases h1:r 1=2
  .exact .inr ⟨1,by omega,by rw[if_neg h0,if_pos h1];rfl,h1⟩
  .by_cases h2:r 2=2
   .exact .inr ⟨2,by omega,by rw[if_neg h0,if_neg h1,if_pos h2];rfl,h2⟩
   .refine .inl ⟨by rw[if_neg h0,if_neg h1,if_neg h2],fun i hi=>?_⟩;rcases(show i=0\/i=1\/i=2 by omega)with rfl|rfl|rfl<;>assumption
theorem dZ{p:Pw}(h:SH p)(hb:b<3)(hr:p.r b=2):(awP p).ld=FZ b/\ldN p.r=b/\ldP p.r=b:=by
 have:=fV hb hr h.one;simp only[awP,ldN,this];refine⟨?_,by omega,trivial⟩;rw[if_neg (by omega)];simp
theorem AA9{p:Pw}(h:ldP p.r=-1):(awP p).ld=none:=by simp only[awP,h];rfl
theorem LQ{p:Pw}(hk:k<3):(awP p).s k=⟨(p.s k).up,(p.s k).m,(p.s k).a,(p.s k).e⟩:=by simp only[awP,if_pos hk]
theorem VH{p:Pw}(hk:¬k<3):(awP p).s k=⟨false,[],0,0⟩:=by simp only[awP,if_neg hk]
theorem nU{a b:Aw}(h1:∀k,a.s k=b.s k)(h2:a.ld=b.ld)(h3:∀k,a.f k=b.f k)(h4:a.D=b.D)(h5:a.H=b.H):a=b:=by
 obtain⟨s,l,f,D,H⟩:=a;obtain⟨s',l',f',D',H'⟩:=b;simp only at*;rw[show s=s' from funext h1,show f=f' from funext h3,h2,h4,h5]
theorem kE(m:List GI)(h:i<=j):RJ (m.take j) i=RJ m i:=by
 unfold RJ;rw[List.take_take,Nat.min_eq_left h]
theorem AA8.take(h:AA8 m)(j:Nat):AA8 (m.take j):=by
 intro i x hi;have hlt:=(AU.1 hi).1;simp at hlt;rw[kE m (by omega)];rw[List.getElem?_take_of_lt (by omega)]at hi;exact h i x hi
theorem AA8.snoc(h:AA8 m)(hx:XZ (RJ m m.length) x=0):AA8 (m++[x]):=by
 intro i y hi;by_cases e:i<m.length
 .rw[List.getElem?_append_left e]at hi;rw[fU m x (by omega)];exact h i y hi
 .have hlt:=(AU.1 hi).1;simp at hlt;obtain rfl:i=m.length:=by omega
  simp at hi;subst hi;rw[fU m x (A8 _)];exact hx
theorem AA8.good(h:AA8 m)(hi:i<=m.length):QV (RJ m i):=by
 cases i with
 |zero=>rw[WW];exact aB
 |succ i=>
  obtain⟨x,hx⟩:∃x,m[i]?=FZ x:=⟨_,AL (by omega)⟩;rw[wB hx];exact(ZK (h i x hx)).1
theorem AA8.z(h:AA8 m)(hx:m[i]?=FZ x):(RJ m (i+1)).z=x.z:=by
 rw[wB hx];exact(ZK (h i x hx)).2.1
theorem AA8.z_of(h:AA8 m)(hi:i<=m.length):(RJ m i).z=0\/∃x∈m,(RJ m i).z=x.z:=by
 cases i with
 |zero=>rw[WW];exact .inl rfl
 |succ i=>
  obtain⟨x,hx⟩:∃x,m[i]?=FZ x:=⟨_,AL (by omega)⟩;exact .inr ⟨x,List.mem_of_getElem? hx,h.z hx⟩
theorem Logs.take(h:Logs m)(j:Nat):Logs (m.take j):=
 ⟨fun t ht=>h.good t (List.mem_of_mem_take ht),h.rise.sublist (List.take_sublist _ _)⟩
theorem qQ(h:Logs m)(hl:m.length<=300):(I9 m).length<=146100:=by
 have:=A42 m h.good;omega
theorem C25(xs:List GI):∀ (s:Sv) (N:List Nt),(∀x∈(xs.foldl stP (s,N)).1.ws,x∈s.ws)/\(xs.foldl stP (s,N)).2.length+(xs.foldl stP (s,N)).1.ws.length<=N.length+s.ws.length/\(∀n∈(xs.foldl stP (s,N)).2,n∈N\/∃x∈s.ws,n.s=x.s/\n.p=x.p/\(x.k≠2->1<=n.k/\n.k<=3)):=by
 induction xs with
 |nil=>intro s N;exact⟨fun x h=>h,A8 _,fun n hn=>.inl hn⟩
 |cons y xs ih=>
  intro s N;rw[List.foldl_cons];obtain⟨h1,h2,h3⟩:=ih (dS s y) (N++OO s.ws (Y9 s.tr y));have w1:∀x∈(dS s y).ws,x∈s.ws:=by
   intro x hx;have hx:x∈WO s y:=hx;unfold WO at hx
   split at hx
   .exact(iJ _ _ _ (EH.1 hx).1).1
   .exact(iJ _ _ _ hx).1
  have w2:(dS s y).ws.length<=(L6 s.ws (Y9 s.tr y)).length:=by
   show (WO s y).length<=_;unfold WO
   split
   .exact vK _ _
   .exact A8 _
  have w3:=fJ (Y9 s.tr y) s.ws;have w4:∀ (es:List Ev) (ws:List Wa) (n:Nt),n∈OO ws es->∃x∈ws,n.s=x.s/\n.p=x.p/\(x.k≠2->1<=n.k/\n.k<=3):=by
   intro es
   induction es with
   |nil=>intro ws n h;simp[OO]at h
   |cons e r ihe=>
    intro ws n h;rcases BU.1 (show n∈TL ws e++OO (kW ws e) r from h)with h|h
    .simp only[TL,EU,EH]at h;obtain⟨x,⟨hx,ho⟩,rfl⟩:=h;refine⟨x,hx,rfl,?_,fun hk=>?_⟩
     .simp only[xQ,BZ,decide_eq_true_eq]at ho;exact ho.1.symm
     .simp only[xQ,if_neg hk,BZ,Bool.or_eq_true,decide_eq_true_eq]at ho;simp only[AT2];omega
    .obtain⟨x,hx,h⟩:=ihe (kW ws e) n h;exact⟨x,(EH.1 hx).1,h⟩
  refine⟨fun x hx=>w1 x (h1 x hx),?_,fun n hn=>?_⟩
  .simp only[AO]at h2;have:(xs.foldl stP (stP (s,N) y))=xs.foldl stP (dS s y,N++OO s.ws (Y9 s.tr y)):=rfl;rw[this];omega
  .rcases h3 n hn with h|⟨x,hx,h⟩
   .rcases BU.1 h with h|h
    .exact .inl h
    .exact .inr (w4 _ _ _ h)
   .exact .inr ⟨x,w1 x hx,h⟩
theorem CF7{p:Ps}(h:p.up=true):(svP i p).ws=p.ws:=by rw[IY h]
theorem B33{p:Ps}(h:p.up=true):(∀x∈(Z4 i p).1.ws,x∈p.ws)/\(Z4 i p).2.length+(Z4 i p).1.ws.length<=p.ws.length/\(∀n∈(Z4 i p).2,∃x∈p.ws,n.s=x.s/\n.p=x.p/\(x.k≠2->1<=n.k/\n.k<=3)):=by
 obtain⟨h1,h2,h3⟩:=C25 ((p.m.drop p.dn).take (p.m.length-p.dn)) (svP i p) [];rw[CF7 h]at h1 h2 h3;refine⟨h1,by simp only[List.length_nil,Nat.zero_add]at h2;exact h2,fun n hn=>?_⟩;rcases h3 n hn with h|h
 .simp at h
 .exact h
theorem BS9{p:Ps}(h:MI N p)(hu:p.up=true):MI N (fB i p):=by
 obtain⟨h1,h2,_⟩:=B33 (i:=i) hu;refine⟨h.log,h.pos,h.len,h.a,h.e0,h.e1,A8 _,h.play,?_,fun x hx=>h.wk x (h1 x hx),fun hd=>?_,h.upq⟩
 .have:=h.wl;show ((Z4 i p).1.ws.length:Int)<=N;omega
 .have:p.up=false:=hd;rw[hu]at this
  cases this
theorem qR{p:Ps}(h:MI N p)(k:Nat):MI N (O8 p k):=by
 have hw:=qM (p.m.drop p.a) k;have ha:=h.a;have hl:=h.len;simp at hw;have C90:=h.log.take (p.a+whole (p.m.drop p.a) k);refine⟨C90,fun x hx=>h.pos x (List.mem_of_mem_take hx),?_,?_,h.e0,h.e1,AY _,h.play.take _,?_,by simp[O8],fun _=>⟨?_,rfl,rfl,?_,?_⟩,by simp[O8]⟩
 .simp[O8];omega
 .simp[O8];omega
 .have:=h.e0;have:=h.e1;simp[O8];omega
 .simp[O8];omega
 .show Scan (I9 (p.m.take (p.a+whole (p.m.drop p.a) k))++B92 (p.m.drop p.a) k) _ _;rcases jX (p.m.drop p.a) k with e|⟨t,ht,j,hj,e⟩
  .rw[O8];simp only[e];rw[List.append_nil];exact sK C90
  .rw[O8];simp only[e];exact AP7 C90 (h.log.good t (List.mem_of_mem_drop ht)) hj
 .show (B92 (p.m.drop p.a) k).length<=487;rcases jX (p.m.drop p.a) k with e|⟨t,ht,j,hj,e⟩
  .simp[e]
  .have:=iD (h.log.good t (List.mem_of_mem_drop ht));rw[e];simp;omega
theorem CF8{p:Ps}(h:MI N p):MI N (upP p):=by
 have:=h.e0;have:=h.e1;exact⟨h.log,h.pos,h.len,A8 _,h.e0,h.e1,AY _,h.play,by simp[upP];omega,by simp[upP],by simp[upP],fun _=>rfl⟩
theorem CF9{p q:Ps}(h:MI N p)(hq:MI N q)(e0:0<=e)(e1:e<=N)(hd:p.dn<=q.m.length):MI N (wJ e q.m p):=
 ⟨hq.log,hq.pos,hq.len,A8 _,e0,e1,hd,hq.play,h.wl,h.wk,by simp[wJ],fun _=>rfl⟩
theorem C26{p:Ps}(sure:Bool)(h:MI N p)(hu:p.up=true)(hg:gdE x=0)(hz:IZ p.m<x.z)(h0:0<x.z)(hx:XZ (RJ p.m p.m.length) x=0):MI (N+1) (SN x sure p):=by
 have hl:=h.len;have ha:=h.a;have hd:=h.dn;refine⟨⟨fun y hy=>?_,?_⟩,fun y hy=>?_,?_,?_,h.e0,by have:=h.e1;show p.e<=_;omega,?_,h.play.snoc hx,by have:=h.wl;show (p.ws.length:Int)<=_;omega,h.wk,fun e=>?_,h.upq⟩
 .rcases BU.1 hy with hy|hy
  .exact h.log.good y hy
  .rw[List.mem_singleton.1 hy];exact hg
 .refine DJ.2 ⟨h.log.rise,List.pairwise_singleton _ _,fun a ha b hb=>?_⟩;rw[List.mem_singleton.1 hb];have:=h.log.le_last ha;omega
 .rcases BU.1 hy with hy|hy
  .exact h.pos y hy
  .rw[List.mem_singleton.1 hy];exact h0
 .simp[SN];omega
 .simp only[SN,AO,List.length_singleton]
  split<;>omega
 .simp[SN];omega
 .have e:p.up=false:=e;rw[hu]at e
  cases e
theorem BT0{p:Ps}{x:Wa}(h:MI N p)(hu:p.up=true)(hE:aJ p.ws x=0)(hk:x.k=1)(hs:1<=x.s/\x.s<=16):MI (N+1) (xU p x):=by
 have hg:J4 x.p=true:=by
  unfold aJ at hE
  split at hE
  .rename_i hc;exact absurd hE hc
  .rename_i hc
   have hc:rX x=0:=by omega
   unfold rX at hc
   cases hb:J4 x.p with
   |true=>rfl
   |false=>simp[hk,hb]at hc
 have hw:=h.wl;have hL:nM p.ws x=p.ws\/nM p.ws x=p.ws++[x]:=by
  unfold nM;rw[if_neg (by simp[hE])]
  split
  .exact .inl rfl
  .exact .inr rfl
 refine⟨h.log,h.pos,by have:=h.len;show (p.m.length:Int)<=_;omega,h.a,h.e0,by have:=h.e1;show p.e<=_;omega,h.dn,h.play,?_,fun y hy=>?_,fun e=>?_,h.upq⟩
 .show ((nM p.ws x).length:Int)<=_;rcases hL with e|e
  .rw[e];omega
  .rw[e,AO,List.length_singleton];omega
 .have hy:y∈nM p.ws x:=hy;rcases hL with e|e
  .rw[e]at hy;exact h.wk y hy
  .rw[e]at hy;rcases BU.1 hy with hy|hy
   .exact h.wk y hy
   .rw[List.mem_singleton.1 hy];exact⟨hs.1,hs.2,hk,hg⟩
 .have e:p.up=false:=e;rw[hu]at e
  cases e
theorem rY.more{M:Int}{H G:List GI}{c:Cl}(h:rY N H i c)(hM:N<=M)(hH:∀x∈H,x∈G):rY M G i c:=
 ⟨h.s,by rcases h.z with e|⟨x,hx,e⟩;exact .inl e;exact .inr ⟨x,hH x hx,e⟩,h.asc,Int.le_trans h.len hM,h.sh⟩
theorem PV{p:Pw}(h:SH p)(hn:p.n<300):SH (NM p):=by
 have h1:p.n<=p.n+1:=by omega
 exact⟨by have:=h.n0;show (0:Int)<=p.n+1;omega,by show p.n+1<=300;omega,fun i hi=>(h.s i hi).more h1,h.r,h.one,h.led,h.rup,h.all,h.a,fun i hi=>(h.c i hi).more h1 fun _ hx=>hx,fun x hx=>Int.le_trans (h.cnt x hx) h1,Int.le_trans h.few h1⟩
theorem B37{r:Nat->Int}{v:Int}(hr:r i≠2)(hv:v≠2):ldP (LU r i v)=ldP r:=by
 have e:∀k,(LU r i v k=2↔r k=2):=by
  intro k;by_cases hk:k=i
  .subst hk;rw[II];exact⟨fun h=>absurd h hv,fun h=>absurd h hr⟩
  .rw[GH _ _ hk]
 unfold ldP;simp only[e]
theorem qW:ldP (fun _=>0)=-1:=by simp[ldP]
theorem AL3{p:Pw}(h:SH p)(hi:i<3)(k:Nat):SH ⟨p.n,LU p.s i (O8 (p.s i) k),if p.r i=2 then fun _=>0 else LU p.r i 0,p.c,p.D,p.H,p.h⟩:=by
 have hw:=qM ((p.s i).m.drop (p.s i).a) k;simp at hw;have ha:=(h.s i hi).a;have hA:=AP8 (j:=(p.s i).a+whole ((p.s i).m.drop (p.s i).a) k) h.a hi (by rw[LQ hi];simp) (by rw[LQ hi];show _<=(p.s i).m.length;omega);have hld:(awP p).ld=FZ i↔p.r i=2:=by
  rcases aQ p.r with⟨e,hno⟩|⟨b,hb,e,hr⟩
  .rw[AA9 e];exact⟨fun h=>by simp at h,fun h=>absurd h (hno i hi)⟩
  .rw[(dZ h hb hr).1];constructor
   .intro e;cases e;exact hr
   .intro e;rw[h.one b i hb hi hr e]
 refine⟨h.n0,h.n1,fun j hj=>?_,fun j hj=>?_,fun j l hj hl=>?_,fun hn j hj=>?_,fun j hj=>?_,fun b hb=>?_,?_,h.c,h.cnt,h.few⟩
 .by_cases e:j=i
  .subst e;simp only[II];exact qR (h.s j hj) k
  .simp only[GH _ _ e];exact h.s j hj
 .by_cases e2:p.r i=2
  .simp[e2]
  .simp only[if_neg e2];by_cases e:j=i
   .subst e;simp[II]
   .rw[GH _ _ e];exact h.r j hj
 .by_cases e2:p.r i=2
  .simp[e2]
  .simp only[if_neg e2];by_cases e:j=i
   .subst e;simp[II]
   .by_cases e':l=i
    .subst e';simp[II]
    .rw[GH _ _ e,GH _ _ e'];exact h.one j l hj hl
 .by_cases e2:p.r i=2
  .simp[e2]
  .simp only[if_neg e2]at hn⊢;rw[B37 e2 (by decide)]at hn;by_cases e:j=i
   .subst e;simp[II]
   .rw[GH _ _ e];exact h.led hn j hj
 .by_cases e2:p.r i=2
  .simp[e2]
  .simp only[if_neg e2];by_cases e:j=i
   .subst e;simp[II]
   .rw[GH _ _ e,GH _ _ e];exact h.rup j hj
 .by_cases e2:p.r i=2
  .simp[e2]
  .simp only[if_neg e2];by_cases e:b=i
   .subst e;simp[II]
   .rw[GH _ _ e,GH _ _ e];exact h.all b hb
 .rw[show awP ⟨p.n,LU p.s i (O8 (p.s i) k),if p.r i=2 then fun _=>0 else LU p.r i 0,p.c,p.D,p.H,p.h⟩=KW (awP p) i ((p.s i).a+whole ((p.s i).m.drop (p.s i).a) k)from ?_]
  .exact hA
  .refine nU (fun j=>?_) ?_ (fun j=>?_) rfl rfl
   .by_cases hj:j<3
    .rw[LQ hj];by_cases e:j=i
     .subst e;simp only[KW,ZE,II,LQ hj,O8]
     .simp only[KW,QO _ _ e,GH _ _ e,LQ hj]
    .rw[VH hj];simp only[KW,QO _ _ (show j≠i by omega),VH hj]
   .by_cases e2:p.r i=2
    .simp only[KW,if_pos (hld.2 e2)];exact AA9 (by simp only[if_pos e2];exact qW)
    .simp only[KW,if_neg (fun e=>e2 (hld.1 e))];simp only[awP,if_neg e2,B37 e2 (show (0:Int)≠2 by decide),ldN]
   .show (decide (j<3)&&decide ((if p.r i=2 then(fun _=>(0:Int))else LU p.r i 0) j≠0))=(if(awP p).ld=FZ i then false else if j=i then false else(decide (j<3)&&decide (p.r j≠0)));by_cases e2:p.r i=2
    .rw[if_pos e2,if_pos (hld.2 e2)];simp
    .rw[if_neg e2,if_neg (fun e=>e2 (hld.1 e))];by_cases e:j=i
     .subst e;rw[if_pos rfl,II];simp
     .rw[if_neg e,GH _ _ e]
theorem C32{p:Pw}(h:SH p)(hi:i<3)(hu:(p.s i).up=false):SH ⟨p.n,LU p.s i (upP (p.s i)),p.r,p.c,p.D,p.H,p.h⟩:=by
 have hr0:p.r i=0:=by
  by_cases e:p.r i=0
  .exact e
  .rw[h.rup i hi e]at hu;cases hu
 have hA:=CA0 h.a i;refine⟨h.n0,h.n1,fun j hj=>?_,h.r,h.one,h.led,fun j hj hj0=>?_,fun b hb hb2=>?_,?_,h.c,h.cnt,h.few⟩
 .by_cases e:j=i
  .subst e;simp only[II];exact CF8 (h.s j hj)
  .simp only[GH _ _ e];exact h.s j hj
 .by_cases e:j=i
  .subst e;exact absurd hr0 hj0
  .simp only[GH _ _ e];exact h.rup j hj hj0
 .by_cases e:b=i
  .subst e;rw[hr0]at hb2;cases hb2
  .simp only[GH _ _ e];exact h.all b hb hb2
 .rw[show awP ⟨p.n,LU p.s i (upP (p.s i)),p.r,p.c,p.D,p.H,p.h⟩=upA (awP p) i from ?_]
  .exact hA
  .refine nU (fun j=>?_) rfl (fun j=>rfl) rfl rfl;by_cases hj:j<3
   .rw[LQ hj];by_cases e:j=i
    .subst e;simp only[upA,ZE,II,LQ hj,upP,((h.s j hj).down hu).1]
    .simp only[upA,QO _ _ e,GH _ _ e,LQ hj]
   .rw[VH hj];simp only[upA,QO _ _ (show j≠i by omega),VH hj]
theorem kG:∀ (l:List Nat) (s:Nat->Ps) (k:Nat),l.Nodup->(LV s l).1 k=if k∈l then fB k (s k)else s k
 |[],s,k,_=>by simp[LV]
 |i::l,s,k,hn=>by
  obtain⟨h1,h2⟩:=List.nodup_cons.1 hn;unfold LV;rw[kG l _ k h2];by_cases e:k=i
  .subst e;simp[h1,II]
  .simp only[GH _ _ e,BO,e,false_or]
theorem AL4:∀ (l:List Nat) (s:Nat->Ps),l.Nodup->∀n∈(LV s l).2,∃i∈l,n∈(Z4 i (s i)).2
 |[],s,_,n,h=>by simp[LV]at h
 |i::l,s,hn,n,h=>by
  obtain⟨h1,h2⟩:=List.nodup_cons.1 hn;rcases BU.1 (show n∈(Z4 i (s i)).2++(LV (LU s i (fB i (s i))) l).2 from h)with h|h
  .exact⟨i,by simp,h⟩
  .obtain⟨j,hj,h⟩:=AL4 l _ h2 n h;rw[GH _ _ (show j≠i by rintro rfl;exact h1 hj)]at h;exact⟨j,by simp[hj],h⟩
theorem KN{s:Nat->Ps}:k∈JX s↔k<3/\(s k).up=true:=by
 simp only[JX,EH,BO,List.not_mem_nil,or_false];constructor
 .rintro⟨h,hu⟩;exact⟨by omega,hu⟩
 .rintro⟨h,hu⟩;exact⟨by omega,hu⟩
theorem UG(s:Nat->Ps):(JX s).Nodup:=(show [0,1,2].Nodup by decide).filter _
theorem qX(p:Pw)(d:Dd):(wL p d).Nodup:=(show [0,1,2].Nodup by decide).filter _
theorem eG{p:Pw}{d:Dd}:k∈wL p d↔k<3/\wS p d k=true:=by
 simp only[wL,EH,BO,List.not_mem_nil,or_false];constructor
 .rintro⟨h,hu⟩;exact⟨by omega,hu⟩
 .rintro⟨h,hu⟩;exact⟨by omega,hu⟩
theorem AB0(ks:List Key):∀n,n<=ks.length->∀j,j<n->(ks.getD j (0,0,0)).2.2<=(ks.getD (MH ks n) (0,0,0)).2.2
 |0,_,j,hj=>by omega
 |n+1,hn,j,hj=>by
  have ih:=AB0 ks n (by omega);unfold MH;by_cases hb:bet (ks.getD n (0,0,0)) (ks.getD (MH ks n) (0,0,0))=true
  .rw[if_pos hb];have hle:(ks.getD (MH ks n) (0,0,0)).2.2<=(ks.getD n (0,0,0)).2.2:=by
    simp only[bet,Bool.or_eq_true,BZ,decide_eq_true_eq]at hb;omega
   by_cases e:j=n
   .subst e;exact Int.le_refl _
   .exact Int.le_trans (ih j (by omega)) hle
  .rw[if_neg hb];by_cases e:j=n
   .subst e;simp only[bet,Bool.or_eq_true,BZ,decide_eq_true_eq]at hb;omega
   .exact ih j (by omega)
theorem aS(s:Nat->Ps):(QH s).length=(JX s).length:=by simp[QH]
theorem AB1{s:Nat->Ps}(hj:j<(JX s).length):(QH s).getD j (0,0,0)=((((JX s).getD j 0:Nat):Int),(s ((JX s).getD j 0)).e,IZ (s ((JX s).getD j 0)).m):=by
 simp[QH,List.getD_eq_getElem?_getD,AL hj]
theorem B38{s:Nat->Ps}(h:2<=(JX s).length):eB s∈JX s:=by
 have hl:=WY (QH s) (JX s).length;unfold eB;rw[List.getD_eq_getElem?_getD,AL (show MH (QH s) (JX s).length<(JX s).length by omega)];exact List.getElem_mem _
theorem CG2{s:Nat->Ps}(h:2<=(JX s).length)(hk:k∈JX s):IZ (s k).m<=IZ (s (eB s)).m:=by
 have hl:=WY (QH s) (JX s).length;obtain⟨j,hj,rfl⟩:=List.getElem_of_mem hk;have hm:=AB0 (QH s) (JX s).length (by rw[aS];exact A8 _) j hj;rw[AB1 hj,AB1 (by omega)]at hm;have e:(JX s).getD j 0=(JX s)[j]:=by rw[List.getD_eq_getElem?_getD,AL hj];rfl
 rw[e]at hm;exact hm
theorem CP7{s:Nat->Ps}(hk:k∈JX s):(s k).e<eN s:=by
 have:=(C21 (ks:=QH s) (k:=((k:Int),(s k).e,IZ (s k).m)) (EU.2 ⟨k,hk,rfl⟩)).1;unfold eN;simp only at this;omega
theorem CG3{s:Nat->Ps}(h:2<=(JX s).length)(b:Nat):∃c,c<3/\b≠c/\(s c).up=true:=by
 have hn:=UG s
 match he:JX s,h,hn with
 |x::y::r,_,hn=>
  have hx:x∈JX s:=by rw[he];simp
  have hy:y∈JX s:=by rw[he];simp
  have hxy:x≠y:=by
   have:=(List.nodup_cons.1 hn).1;rintro rfl;exact this (by simp)
  by_cases e:b=x
  .exact⟨y,(KN.1 hy).1,by omega,(KN.1 hy).2⟩
  .exact⟨x,(KN.1 hx).1,e,(KN.1 hx).2⟩
theorem BL6{p:Pw}(h:SH p)(hx:x∈p.H):IW x.z<=p.n:=by
 obtain⟨i,_,hi,_,_,h1,_⟩:=h.a.two x hx;rw[LQ hi]at h1;exact Int.le_trans h1 (h.s i hi).e1
theorem AL5{p:Pw}(h:SH p)(hi:i<3):IW (IZ (p.s i).m)<=p.n:=by
 by_cases e:(p.s i).m=[]
 .rw[e,VT,UU];exact h.n0
 .obtain⟨y,hy,hz⟩:=ZC e;rw[<-hz];exact BL6 h (h.a.hist i hi y (by rw[LQ hi];exact hy))
theorem C33{p:Pw}(h:SH p):eN p.s<=p.n+1/\1<=eN p.s:=by
 have h1:=B28 (ks:=QH p.s) p.n h.n0 (fun k hk=>by
  obtain⟨i,hi,rfl⟩:=EU.1 hk;have hi:=(KN.1 hi).1;exact⟨(h.s i hi).e1,AL5 h hi⟩)
 have h2:=jW (QH p.s);unfold eN;omega
theorem A22{H:List GI}{c:Nat->Cl}(h:rY N H i (c i))(l:List Nt):rY N H i (YU c l i):=by
 refine⟨h.s,h.z,BK6 h.asc,?_,fun x hx=>h.sh x (EH.1 hx).1⟩;have h1:((YU c l i).es).length<=(c i).es.length:=List.length_filter_le _ _;have:=h.len;omega
theorem B39{s:Nat->Ps}(h:AO3 s=false)(hk:k∈JX s):(s k).dn<=KQ (s k).m (s (eB s)).m:=by
 unfold AO3 at h;have:=List.any_eq_false.1 h k hk;simp at this;exact this
theorem nX{p:Pw}(h:SH p)(hn:p.n<300)(h2:¬ (JX p.s).length<2)(hb:AO3 p.s=false):
  SH ⟨p.n+1,(LV (eS p.s) (JX p.s)).1,eR p.s,YU p.c (LV (eS p.s) (JX p.s)).2,p.D,p.H,p.h⟩:=by
 have hB:=B38 (s:=p.s) (by omega);obtain⟨hb3,hbu⟩:=KN.1 hB;obtain⟨c,hc3,hbc,hcu⟩:=CG3 (s:=p.s) (by omega) (eB p.s);have hN:=C33 h;have hn0:=h.n0;have BL7:∀k,k<3->(p.s k).up=true->(LV (eS p.s) (JX p.s)).1 k=fB k (wJ (eN p.s) (p.s (eB p.s)).m (p.s k)):=fun k hk hu=>by
  rw[kG _ _ _ (UG _),if_pos (KN.2 ⟨hk,hu⟩),eS,if_pos ⟨hu,hk⟩]
 have CG4:∀k,k<3->(p.s k).up≠true->(LV (eS p.s) (JX p.s)).1 k=p.s k:=fun k hk hu=>by
  rw[kG _ _ _ (UG _),if_neg (fun hm=>hu (KN.1 hm).2),eS,if_neg (fun hm=>hu hm.1)]
 have rb:eR p.s (eB p.s)=2:=by rw[eR,if_pos rfl]
 have rno:∀k,k≠eB p.s->eR p.s k≠2:=fun k hk=>by rw[eR,if_neg hk];split<;>decide
 have one:∀i j,i<3->j<3->eR p.s i=2->eR p.s j=2->i=j:=fun i j _ _ h1 h2=>by
  by_cases e1:i=eB p.s
  .by_cases e2:j=eB p.s
   .rw[e1,e2]
   .exact absurd h2 (rno j e2)
  .exact absurd h1 (rno i e1)
 have hld:=fV hb3 rb one;have hA:=AP9 (e:=eN p.s) h.a hb3 hc3 hbc (by rw[LQ hb3];exact hbu) (by rw[LQ hc3];exact hcu) (fun k hk hu=>by
  rw[LQ hk]at hu;rw[LQ hk,LQ hb3];exact CG2 (by omega) (KN.2 ⟨hk,hu⟩)) (fun k hk hu=>by
  rw[LQ hk]at hu⊢;exact CP7 (KN.2 ⟨hk,hu⟩))
 have ok:∀k,k<3->(p.s k).up=true->MI (p.n+1) (wJ (eN p.s) (p.s (eB p.s)).m (p.s k)):=fun k hk hu=>
  CF9 ((h.s k hk).more (by omega)) ((h.s _ hb3).more (by omega)) (by omega) hN.1 (Nat.le_trans (B39 hb (KN.2 ⟨hk,hu⟩)) (WR _ _).2)
 refine⟨by show (0:Int)<=p.n+1;omega,by show p.n+1<=300;omega,fun k hk=>?_,fun k hk=>?_,one,fun e=>?_,fun k hk hk0=>?_,fun b hb hb2=>?_,?_,fun i hi=>A22 ((h.c i hi).more (by show p.n<=p.n+1;omega) fun _ hx=>hx) _,fun x hx=>by have:=h.cnt x hx;show _<=p.n+1;omega,by have:=h.few;show (p.D.length:Int)<=p.n+1;omega⟩
 .by_cases hu:(p.s k).up=true
  .simp only[BL7 k hk hu];exact BS9 (ok k hk hu) rfl
  .simp only[CG4 k hk hu];exact(h.s k hk).more (by omega)
 .show eR p.s k=0\/eR p.s k=1\/eR p.s k=2;unfold eR
  split
  .omega
  .split<;>omega
 .exfalso;have e:ldP (eR p.s)=-1:=e;rw[hld]at e;omega
 .by_cases hu:(p.s k).up=true
  .simp only[BL7 k hk hu];rfl
  .exfalso;have hk0:eR p.s k≠0:=hk0;unfold eR at hk0
   split at hk0
   .rename_i e;rw[e]at hu;exact hu hbu
   .rw[if_neg (fun hm=>hu hm.1)]at hk0;exact hk0 rfl
 .have e:b=eB p.s:=one b _ hb hb3 hb2 rb;subst e;simp only[BL7 _ hb3 hbu];rfl
 .rw[show awP ⟨p.n+1,(LV (eS p.s) (JX p.s)).1,eR p.s,YU p.c (LV (eS p.s) (JX p.s)).2,p.D,p.H,p.h⟩=TS (awP p) (eB p.s) (eN p.s)from ?_]
  .exact hA
  .refine nU (fun k=>?_) ?_ (fun k=>?_) rfl rfl
   .by_cases hk:k<3
    .rw[LQ hk];by_cases hu:(p.s k).up=true
     .simp only[BL7 k hk hu,TS,LQ hk,hu,if_true,LQ hb3,fB,wJ]
     .simp only[CG4 k hk hu,TS,LQ hk,hu,if_false,Bool.false_eq_true]
    .rw[VH hk];simp only[TS,VH hk,Bool.false_eq_true,if_false]
   .simp only[awP,hld,TS,ldN];rw[if_neg (by omega)];simp
   .by_cases hk:k<3
    .simp only[awP,TS,hk,decide_true,Bool.true_and,if_true]
     cases hu:(p.s k).up with
     |true=>
      have:eR p.s k≠0:=by unfold eR;split;decide;rw[if_pos ⟨hu,hk⟩];decide
      simp[this]
     |false=>
      have e:k≠eB p.s:=by rintro rfl;rw[hbu]at hu;cases hu
      have:eR p.s k=0:=by unfold eR;rw[if_neg e,if_neg (by simp[hu])]
      simp[this]
    .simp only[awP,TS,hk,decide_false,Bool.false_and,if_false]
