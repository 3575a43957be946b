/-
  Part.
-/
import Derived.Test.YtppjdeblncincaaGreatDoorLOAD
import Derived.Test.YtppjdeblncincaaGreatDoorLOAE
set_option maxRecDepth 20000
set_option maxHeartbeats 8000000
namespace Go.Proofs.YtppjdeblncincaaGreatDoor
open Go.RowKit Go.Proofs.Tryz
open _root_.Nat renaming le_refl->A8,lt_of_lt_of_le->AY,zero_add->BJ,le_trans->BO,mul_comm->DK
open Go.RowKit.Below renaming refl->AA
open _root_.List renaming getElem?_eq_getElem->AO,length_append->AP,getElem?_eq_some_iff->AV,mem_of_getElem?->BA,getElem?_append_right->BD,getElem?_append_left->BM,append_assoc->BU,pairwise_append->DL,take_append_drop->DV,take_length->DW,length_map->EI,mem_map->EZ
open Go.Value.slice renaming injEq->AQ
open Go.World renaming cell?->AX
open Go.Value renaming ownBlock->DJ,slice->FU
open _root_.List.cons renaming injEq->EH
open Go.Value.agg renaming injEq->EN
open _root_.Array.mk renaming injEq->F7
open Go.Obj renaming cells->FV
open Go renaming World->FW,Value->FX,Calls->FZ
open _root_.Option renaming none->G5,some->G6
variable{r:Rq}{j k g i:Nat}{w W V:FW}{s:Nat->Ps}{e:Int}{v:FX}{q b:Ps}{α:Type}{p:Pw}{d:Dd}
theorem CM9{r:Nat->Int}(hj:j<3)(h:r j=2)(hb:∀m,m<j->r m≠2):ldP r=j:=by
 unfold ldP;rcases(show j=0\/j=1\/j=2 by omega)with rfl|rfl|rfl
 .rw[if_pos h];rfl
 .rw[if_neg (hb 0 (by omega)),if_pos h];rfl
 .rw[if_neg (hb 0 (by omega)),if_neg (hb 1 (by omega)),if_pos h];rfl
theorem CA1{r:Nat->Int}(hb:∀m,m<3->r m≠2):ldP r=-1:=by
 unfold ldP;rw[if_neg (hb 0 (by omega)),if_neg (hb 1 (by omega)),if_neg (hb 2 (by omega))]
theorem CA2(r:Nat->Int)(k:Nat)(w:FW)(hc:∀i,i<3->w.cell? ⟨k,31+i,G5⟩=G6 (I0 (r i))):
  FZ prog 49 #[FU (G6 ⟨k,31,G5⟩) 3 3,I0 2] w (R0 w (I0 (ldP r))):=by
 have HC:=G8 hc;clear hc;go_enter func49,ntmps49;go_wp2_with fail
 go_loopg [8] 3 (fun kx s8 wr=>∃j:Nat,s8=I0 j/\j<=3/\3-j<=kx/\Hid (∀m,m<j->r m≠2)/\Hid (B0 w wr/\∀i,i<3->wr.cell? ⟨k,31+i,G5⟩=G6 (I0 (r i))))
 case atStart=>exact⟨0,rfl,by omega,A8 _,G8 (fun m hm=>by omega),G8 ⟨AA _ _,G7 HC⟩⟩
 case round=>
  obtain⟨j,rfl,hj,hg,hh,hB⟩:=hrel;by_cases hlt:j<3
  .have d0:=(G7 hB).2 j hlt;have hjj:(j:Int)<3:=by omega
   by_cases h2:r j=2
   .rw[h2]at d0;have HE:=G8 (CM9 hlt h2 (G7 hh));clear h2;go_wp2_with fail
    try go_quiet (fail)
    go_wp2_with fail;go_ret;exact⟨by rw[G7 HE];rfl,(G7 hB).1⟩
   .have HN:=G8 (fun m (hm:m<j+1)=>(show r m≠2 by
     by_cases e:m=j
     .rw[e];exact h2
     .exact G7 hh m (by omega)))
    have h3:¬2=r j:=fun e=>h2 e.symm;go_wp2_with fail
    try go_quiet (fail)
    go_wp2_with fail
    go_roundg (3-(j+1))
    case measure=>omega
    case rel=>exact⟨j+1,rfl,by omega,A8 _,HN,hB⟩
  .obtain rfl:j=3:=by omega
   have HE:=G8 (CA1 (G7 hh));go_wp2_with fail;go_ret;exact⟨by rw[G7 HE];rfl,(G7 hB).1⟩
theorem SI(p:Pw)(k:Nat)(W:FW)(hx:WX W k p):FZ prog 30 #[wP k] W (R0 W (I0 (ldP p.r))):=by
 have C:=G8 (CA2 p.r k W (fun i hi=>hx.role hi));unfold wP;clear hx;go_enter func30,ntmps30;go_wp2_with fail;refine(G7 C).mono ?_;rintro e w1 ⟨rfl,hb⟩;go_wp2_with fail;go_ret;exact⟨rfl,hb⟩
def B83(w:FW)(s:Sv)(E:Int)(e:Ending)(w':FW):Prop:=
 ∃ad nd cd al cl an cn ai ci aw cw,e=.returned (.tuple #[.agg #[.bool s.up,FU ad nd cd,I0 s.id,I0 s.ep,FU al s.ts.length cl,I0 s.dn,I0 s.tr.z,FU an s.tr.ns.length cn,FU ai s.tr.ss.length ci,FU aw s.ws.length cw],I0 E])/\
  Hid (SvV w' (.agg #[.bool s.up,FU ad nd cd,I0 s.id,I0 s.ep,FU al s.ts.length cl,I0 s.dn,I0 s.tr.z,FU an s.tr.ns.length cn,FU ai s.tr.ss.length ci,FU aw s.ws.length cw]) s/\(s.tr.ss≠[]->∀k,k<w.heap.size->V7 (FU ai s.tr.ss.length ci) k))/\B0 w w'
theorem sF{w':FW}{s:Sv}{E:Int}{e:Ending}(h:bG w s E e w')(hs:s.tr.ss=[]):B83 w s E e w':=by
 obtain⟨v,he,hv,hb⟩:=h;obtain⟨ad,nd,cd,al,cl,an,cn,ai,ci,aw,cw,rfl,_⟩:=hv.five;exact⟨ad,nd,cd,al,cl,an,cn,ai,ci,aw,cw,he,G8 ⟨hv,fun h=>absurd hs h⟩,hb⟩
theorem LG{B:Nat}(h:OB B v)(hk:k<B):V7 v k:=fun b off n c e=>by have:=h b off n c e;omega
theorem BR4{w':FW}{s:Sv}{E:Int}{e:Ending}(h:eP w s E e w'):B83 w s E e w':=by
 obtain⟨ad,nd,cd,al,nl,cl,an,nn,cn,ai,ni,ci,aw,nw,cw,he,hs,hb⟩:=h;obtain⟨hv,hf⟩:=G7 hs;obtain⟨ad',nd',cd',al',cl',an',cn',ai',ci',aw',cw',e5,_⟩:=hv.five;simp only[EN,F7,EH,AQ,true_and,and_true]at e5;obtain⟨⟨rfl,rfl,rfl⟩,⟨rfl,rfl,rfl⟩,⟨rfl,rfl,rfl⟩,⟨rfl,rfl,rfl⟩,rfl,rfl,rfl⟩:=e5;exact⟨_,_,_,_,_,_,_,_,_,_,_,he,G8 ⟨hv,fun _ k hk=>LG hf hk⟩,hb⟩
structure SBX(w V:FW)(q:Nat)(s:Sv)(vd vl vn vs vw:FX):Prop where
 b:B0 w V
 le:w.heap.size<=q
 box:IG V q s.up vd s.id s.ep vl s.dn s.tr.z vn vs vw
 v:SvV V (.agg #[.bool s.up,vd,I0 s.id,I0 s.ep,vl,I0 s.dn,I0 s.tr.z,vn,vs,vw]) s
 a:s.tr.ss≠[]->∀k,k<w.heap.size->V7 vs k
section
variable {w w1 u:FW} {s:Sv} {ad al an ai aw:Option Addr} {nd cd nl cl nn cn ni ci nw cw:Nat}
theorem fA(hb:B0 w w1)(hv:SvV w1 (.agg #[.bool s.up,FU ad nd cd,I0 s.id,I0 s.ep,FU al nl cl,I0 s.dn,I0 s.tr.z,FU an nn cn,FU ai ni ci,FU aw nw cw]) s)(ha:s.tr.ss≠[]->∀k,k<u.heap.size->V7 (FU ai ni ci) k)(hu:w.heap.size<=u.heap.size):
  SBX w (w1.alloc (FV #[.bool s.up,FU ad nd cd,I0 s.id,I0 s.ep,FU al nl cl,I0 s.dn,I0 s.tr.z,FU an nn cn,FU ai ni ci,FU aw nw cw] 40)) w1.heap.size s (FU ad nd cd) (FU al nl cl) (FU an nn cn) (FU ai ni ci) (FU aw nw cw):=
 ⟨GH hb (G9 _ _),hb.size,IG.new _ _ _ _ _ _ _ _ _ _ _,hv.alloc _,fun h k hk=>ha h k (by omega)⟩
theorem lJ(hb:B0 w w1){q:Nat}(hq:w.heap.size<=q)(hz:IG w1 q false (N0) 0 0 (N0) 0 0 (N0) (N0) (N0))(hv:SvV w1 (.agg #[.bool s.up,FU ad nd cd,I0 s.id,I0 s.ep,FU al nl cl,I0 s.dn,I0 s.tr.z,FU an nn cn,FU ai ni ci,FU aw nw cw]) s)(ha:s.tr.ss≠[]->∀k,k<u.heap.size->V7 (FU ai ni ci) k)(hu:q<u.heap.size):
  SBX w (OG w1 q (.bool s.up) (FU ad nd cd) (I0 s.id) (I0 s.ep) (FU al nl cl) (I0 s.dn) (I0 s.tr.z) (FU an nn cn) (FU ai ni ci) (FU aw nw cw)) q s (FU ad nd cd) (FU al nl cl) (FU an nn cn) (FU ai ni ci) (FU aw nw cw):=by
 refine⟨JL hb hq _ _ _ _ _ _ _ _ _ _,hq,kW hz _ _ _ _ _ _ _ _ _ _,?_,fun h k hk=>ha h k (by omega)⟩;by_cases h:s.tr.ss=[]
 .have hv2:=hv;obtain⟨vd,vl,vn,vs,vw,e,r1,r2,r3,r4,r5⟩:=hv2;simp only[EN,F7,EH,true_and,and_true]at e;obtain⟨rfl,rfl,rfl,rfl,rfl⟩:=e;have hd:=hz.gU;have hx:SvV (OG w1 q (.bool s.up) (FU ad nd cd) (I0 s.id) (I0 s.ep) (FU al nl cl) (I0 s.dn) (I0 s.tr.z) (FU an nn cn) (FU ai ni ci) (FU aw nw cw)) (.agg #[.bool s.up,FU ad nd cd,I0 s.id,I0 s.ep,FU al nl cl,I0 s.dn,I0 s.tr.z,FU an nn cn,N0,FU aw nw cw]) s:=
   rC hd (fun vd vl vn vs vw e=>by simp only[EN,F7,EH]at e;rw[<-e.2.2.2.2.2.2.2.2.1];exact vZ _ _ _) ⟨_,_,_,_,_,rfl,r1,r2,r3,by rw[h];exact IL.nil _,r5⟩
  obtain⟨vd,vl,vn,vs,vw,e,q1,q2,q3,q4,q5⟩:=hx;simp only[EN,F7,EH,true_and,and_true]at e;obtain⟨rfl,rfl,rfl,rfl,rfl⟩:=e;refine⟨_,_,_,_,_,rfl,q1,q2,q3,?_,q5⟩;rw[h]at r4⊢;rcases r4 with h4|⟨_,_,_,_,_,_,_,h0,_⟩
  .exact .inl h4
  .exact absurd rfl h0
 .exact rC hz.gU (fun vd vl vn vs vw e=>by simp only[EN,F7,EH]at e;rw[<-e.2.2.2.2.2.2.2.2.1];exact ha h q hu) hv
end
def AE6:List FX:=[I0 0,I0 0,.string ⟨#[]⟩,.string ⟨#[]⟩,I0 0,I0 0,I0 0,I0 0,I0 0,I0 0,I0 0,N0]
theorem RpB.at(h:RpB W g)(hv:W.cell? ⟨g,j,G5⟩=G6 v):AE6[j]?=G6 v:=by
 unfold RpB at h;simpa [AX,h,AE6]using hv
theorem Y7{s:ByteArray}(h:AE6[j]?=G6 (.string s)):j=2\/j=3:=by
 by_cases hj:j<12
 .rcases(show j=0\/j=1\/j=2\/j=3\/j=4\/j=5\/j=6\/j=7\/j=8\/j=9\/j=10\/j=11 by omega)with rfl|rfl|rfl|rfl|rfl|rfl|rfl|rfl|rfl|rfl|rfl|rfl<;>simp[AE6]at h⊢
 .rw[List.getElem?_eq_none (by simp[AE6];omega)]at h;cases h
theorem AP3{s:ByteArray}(h:AE6[j]?=G6 (.string s)):s=⟨#[]⟩:=by
 rcases Y7 h with rfl|rfl<;>simpa [AE6]using h.symm
theorem AE7{n:Int}(h:AE6[j]?=G6 (I0 n)):n=0:=by
 by_cases hj:j<12
 .rcases(show j=0\/j=1\/j=2\/j=3\/j=4\/j=5\/j=6\/j=7\/j=8\/j=9\/j=10\/j=11 by omega)with rfl|rfl|rfl|rfl|rfl|rfl|rfl|rfl|rfl|rfl|rfl|rfl<;>simp[AE6]at h<;>omega
 .rw[List.getElem?_eq_none (by simp[AE6];omega)]at h;cases h
theorem B92{b:Bool}:AE6[j]? ≠G6 (.bool b):=by
 intro h;by_cases hj:j<12
 .rcases(show j=0\/j=1\/j=2\/j=3\/j=4\/j=5\/j=6\/j=7\/j=8\/j=9\/j=10\/j=11 by omega)with rfl|rfl|rfl|rfl|rfl|rfl|rfl|rfl|rfl|rfl|rfl|rfl<;>simp[AE6]at h
 .rw[List.getElem?_eq_none (by simp[AE6];omega)]at h;cases h
theorem YQ[Lay α]{xs:List α}(hg:RpB W g)(hv:IL W v xs)(hno:∀x∈xs,∀off,¬ ∀ (j:Nat) u,j<Lay.k α->(Lay.cs x)[j]?=G6 u->AE6[off+j]?=G6 u)(h0:xs≠[]):V7 v g:=by
 intro b off n c e;rcases hv with⟨a,cap,_,e0,_⟩|⟨b',off',cap,rfl,_,_,h3,_,h4⟩
 .exact absurd e0 h0
 .simp only[AQ,Option.some.injEq,Addr.mk.injEq]at e;rintro rfl;obtain⟨x,r,rfl⟩:=List.exists_cons_of_ne_nil h0;refine hno x (by simp) off' fun j u hj hu=>hg.at ?_;have:=h4 (0*Lay.k α+j) _ ((GY (x::r) 0 x rfl j hj).trans hu);rw[Nat.zero_mul,BJ]at this;rw[<-e.1.1];exact this
section
variable {W:FW} {k g:Nat} {v:FX}
theorem BR8{xs:List DF}(hg:RpB W g)(h:IL W v xs)(h0:xs≠[]):V7 v g:=YQ hg h (fun x _ off H=>by
 have a:=Y7 (H 0 _ (by decide) rfl);have c:=Y7 (H 2 _ (by decide) rfl);omega) h0
theorem B93{xs:List GN}(hg:RpB W g)(h:IL W v xs)(h0:xs≠[]):V7 v g:=YQ hg h (fun x _ off H=>by
 have a:=Y7 (H 3 _ (by decide) rfl);have c:=Y7 (H 4 _ (by decide) rfl);omega) h0
theorem B94{xs:List En}(hg:RpB W g)(h:IL W v xs)(h0:xs≠[]):V7 v g:=YQ hg h (fun x _ off H=>B92 (H 2 _ (by decide) rfl)) h0
theorem A50{xs:List Wa}(hg:RpB W g)(h:IL W v xs)(hs:∀x∈xs,1<=x.s)(h0:xs≠[]):V7 v g:=YQ hg h (fun x hx off H=>by
 have a:=AE7 (H 0 _ (by decide) rfl);have:=hs x hx;omega) h0
theorem BR9{xs:List Int}(hg:RpB W g)(h:IL W v xs)(hs:∀x∈xs,1<=x)(h0:xs≠[]):V7 v g:=YQ hg h (fun x hx off H=>by
 have a:=AE7 (H 0 _ (by decide) rfl);have:=hs x hx;omega) h0
theorem B95{xs:List Nd}(hg:RpB W g)(h:IL W v xs)(hs:∀x∈xs,x.p≠[])(h0:xs≠[]):V7 v g:=YQ hg h (fun x hx off H=>by
 have a:=AP3 (H 0 _ (by decide) rfl);have:x.p=[]:=by simpa using a
 exact hs x hx this) h0
theorem Row.far[Lay α]{xs:List α}(h:Row W k v xs)(ht:Touch (· =g) W V)(ha:xs≠[]->V7 v g):Row V k v xs:=by
 refine⟨?_,h.2⟩;exact(Row.touch (k:=g) ⟨h.1,ha⟩ ht).1
end
theorem CA7{t:Tr}(h:QW t):∀x∈t.ns,x.p≠[]:=fun x hx e=>by
 have:=(h.nod.ok x hx).path;rw[e]at this;exact absurd this (by decide)
theorem BS0{N:Int}(ok:MJ N q):QW (svP i q).tr/\∀x∈(svP i q).ws,1<=x.s:=by
 cases hu:q.up with
 |true=>rw[J3 hu];exact⟨ok.play.good ok.dn,fun x hx=>(ok.wk x hx).1⟩
 |false=>rw[PK hu];exact⟨YM,by simp⟩
theorem WX.reply(h:WX W k p)(hp:∀i,i<3->MJ 300 (p.s i))(hg:RpB W g)(hk:k≠g)(ht:Touch (· =g) W V):WX V k p:=by
 obtain⟨f,hb,hr⟩:=h;refine⟨f,hb.touch ht hk,hr.n,fun i hi=>?_,hr.r,fun i hi=>⟨(hr.c i hi).s,(hr.c i hi).z,(hr.c i hi).e.far ht (B94 hg (hr.c i hi).e.1)⟩,hr.d.far ht (B93 hg hr.d.1),hr.h,hr.hk⟩;obtain⟨gt,gw⟩:=BS0 (i:=i) (hp i hi);have s:=hr.s i hi;exact⟨s.up,s.d.far ht (BR8 hg s.d.1),s.id,s.ep,s.l.far ht (B93 hg s.l.1),s.dn,s.z,s.n.far ht (B95 hg s.n.1 (CA7 gt)),s.i.far ht (BR9 hg s.i.1 fun x hx=>(gt.ses.2 x hx).1),s.w.far ht (A50 hg s.w.1 gw)⟩
theorem cZ(W:FW)(g:Nat)(x0 x1 x2 x3 x4 x5 x6 x7 x8 x9 x10 x11:FX):Touch (· =g) W (gV W g x0 x1 x2 x3 x4 x5 x6 x7 x8 x9 x10 x11):=
 (((((((((((JK _ _ _ _).trans (JK _ _ _ _)).trans (JK _ _ _ _)).trans (JK _ _ _ _)).trans (JK _ _ _ _)).trans (JK _ _ _ _)).trans (JK _ _ _ _)).trans (JK _ _ _ _)).trans (JK _ _ _ _)).trans (JK _ _ _ _)).trans (JK _ _ _ _)).trans (JK _ _ _ _)
structure DT(k:Nat)(w W:FW)(d:Dd):Prop where
 t:Touch (· =k) w W
 r:RpB W (w.heap.size+1)
 d:JQ W w.heap.size d
section
variable {k:Nat} {w W V:FW} {d:Dd}
theorem DB.dt(h:DB w W d)(k:Nat):DT k w W d:=⟨Touch.of_below h.b,h.r,h.d⟩
theorem DT.touch(h:DT k w W d)(hk:k<w.heap.size)(ht:Touch (· =k) W V):DT k w V d:=
 ⟨h.t.trans ht,h.r.touch ht (by omega),(ht.block _ h.d.ltz (by omega)).trans h.d⟩
theorem DT.next(h:DT k w W d)(hk:k<w.heap.size)(hb:B0 W V):DT k w V d:=h.touch hk (Touch.of_below hb)
theorem DT.cells(h:DT k w W d):(W.cell? ⟨w.heap.size,0,G5⟩=G6 (I0 d.k)/\W.cell? ⟨w.heap.size,1,G5⟩=G6 (I0 d.c)/\W.cell? ⟨w.heap.size,2,G5⟩=G6 (I0 d.s)/\W.cell? ⟨w.heap.size,3,G5⟩=G6 (I0 d.q.o)/\W.cell? ⟨w.heap.size,4,G5⟩=G6 (I0 d.q.s)/\W.cell? ⟨w.heap.size,5,G5⟩=G6 (S0 d.q.p)/\W.cell? ⟨w.heap.size,6,G5⟩=G6 (S0 d.q.d))/\W.cell? ⟨w.heap.size,7,G5⟩=G6 (I0 d.q.v)/\W.cell? ⟨w.heap.size,8,G5⟩=G6 (I0 d.q.f)/\W.cell? ⟨w.heap.size,9,G5⟩=G6 (I0 d.lo)/\W.cell? ⟨w.heap.size,10,G5⟩=G6 (I0 d.sl)/\W.cell? ⟨w.heap.size,11,G5⟩=G6 (I0 d.ke)/\W.cell? ⟨w.heap.size,12,G5⟩=G6 (.bool d.wt):=by
 have r:=h.d.row;simp only[BJ]at r;exact⟨⟨r 0 _ rfl,r 1 _ rfl,r 2 _ rfl,r 3 _ rfl,r 4 _ rfl,r 5 _ rfl,r 6 _ rfl⟩,r 7 _ rfl,r 8 _ rfl,r 9 _ rfl,r 10 _ rfl,r 11 _ rfl,r 12 _ rfl⟩
end
theorem sJ{kd:Int}(hk:k<W.heap.size)(h:DT k W V d)(hx:WX V k p)(hp:∀i,i<3->MJ 300 (p.s i)):
  Did W k kd (TG 0,p) (.returned (UU 0)) (gV V (W.heap.size+1) (I0 0) (I0 0) (.string ⟨#[]⟩) (.string ⟨#[]⟩) (I0 0) (I0 0) (I0 0) (I0 0) (I0 0) (I0 0) (I0 0) (N0)):=
 ⟨N0,rfl,.inl ⟨rfl,rfl⟩,KG h.t (by omega) _ _ _ _ _ _ _ _ _ _ _ _,fun _=>hx.reply hp h.r (by omega) (cZ _ _ _ _ _ _ _ _ _ _ _ _ _ _)⟩
structure Sl where
 ad:Option Addr
 nd:Nat
 cd:Nat
 al:Option Addr
 cl:Nat
 an:Option Addr
 cn:Nat
 ai:Option Addr
 ci:Nat
 aw:Option Addr
 cw:Nat
def yA(s:Sv)(t:Sl):List FX:=[.bool s.up,FU t.ad t.nd t.cd,I0 s.id,I0 s.ep,FU t.al s.ts.length t.cl,I0 s.dn,I0 s.tr.z,FU t.an s.tr.ns.length t.cn,FU t.ai s.tr.ss.length t.ci,FU t.aw s.ws.length t.cw]
def yB(s:Nat->Sv)(t:Nat->Sl):Array FX:=(yA (s 0) (t 0)++(yA (s 1) (t 1)++yA (s 2) (t 2))).toArray
theorem WX.sl(h:WX W k p):∃t:Nat->Sl,∀i,i<3->∀q v,(yA (svP i (p.s i)) (t i))[q]?=G6 v->W.cell? ⟨k,1+10*i+q,G5⟩=G6 v:=by
 have e:∀i,∃t:Sl,i<3->∀q v,(yA (svP i (p.s i)) t)[q]?=G6 v->W.cell? ⟨k,1+10*i+q,G5⟩=G6 v:=fun i=>by
  by_cases hi:i<3
  .obtain⟨ad,nd,cd,al,cl,an,cn,ai,ci,aw,cw,S,_,_⟩:=h.srv hi rfl;refine⟨⟨ad,nd,cd,al,cl,an,cn,ai,ci,aw,cw⟩,fun _ q v hq=>?_⟩;have hq10:q<10:=(AV.1 hq).1;rcases(show q=0\/q=1\/q=2\/q=3\/q=4\/q=5\/q=6\/q=7\/q=8\/q=9 by omega)with rfl|rfl|rfl|rfl|rfl|rfl|rfl|rfl|rfl|rfl
   .exact S.c0.trans hq
   .exact S.c1.trans hq
   .exact S.c2.trans hq
   .exact S.c3.trans hq
   .exact S.c4.trans hq
   .exact S.c5.trans hq
   .exact S.c6.trans hq
   .exact S.c7.trans hq
   .exact S.c8.trans hq
   .exact S.c9.trans hq
  .exact⟨⟨G5,0,0,G5,0,G5,0,G5,0,G5,0⟩,fun h=>absurd h hi⟩
 exact⟨fun i=>(e i).choose,fun i hi=>(e i).choose_spec hi⟩
theorem CX0(s:Nat->Sv)(t:Nat->Sl):∀u:FW,(Instr.index 41 (.agg (yB s t)) (I0 0)).run prog u=.ok (.agg (yA (s 0) (t 0)).toArray) u:=fun _=>by kernel_rfl
theorem CX1(s:Nat->Sv)(t:Nat->Sl):∀u:FW,(Instr.index 41 (.agg (yB s t)) (I0 1)).run prog u=.ok (.agg (yA (s 1) (t 1)).toArray) u:=fun _=>by kernel_rfl
theorem CX2(s:Nat->Sv)(t:Nat->Sl):∀u:FW,(Instr.index 41 (.agg (yB s t)) (I0 2)).run prog u=.ok (.agg (yA (s 2) (t 2)).toArray) u:=fun _=>by kernel_rfl
theorem CA8(s:Nat->Sv)(t:Nat->Sl)(m:Nat)(hm:m<3)(u:FW):(Instr.index 41 (.agg (yB s t)) (I0 m)).run prog u=.ok (.agg (yA (s m) (t m)).toArray) u:=by
 rcases(show m=0\/m=1\/m=2 by omega)with rfl|rfl|rfl
 .exact CX0 s t u
 .exact CX1 s t u
 .exact CX2 s t u
theorem AP4(w:FW)(k:Nat)(s:Nat->Sv)(t:Nat->Sl)(hc:∀i,i<3->∀q v,(yA (s i) (t i))[q]?=G6 v->w.cell? ⟨k,1+10*i+q,G5⟩=G6 v):
  (Instr.loadAt 41 (.pointer (G6 ⟨k,1,G5⟩))).run prog w=.ok (.agg (yB s t)) w:=by
 have hl:=run_loadCells_list (P:=prog) (w:=w) ⟨k,1,G5⟩ (yB s t).toList (fun j v hj=>by
  rw[Addr.add_lit];show w.cell? ⟨k,1+j,G5⟩=G6 v;have hj':(yA (s 0) (t 0)++(yA (s 1) (t 1)++yA (s 2) (t 2)))[j]?=G6 v:=hj;have l0:(yA (s 0) (t 0)).length=10:=rfl;have l1:(yA (s 1) (t 1)).length=10:=rfl;by_cases h0:j<10
  .rw[BM (by omega)]at hj';exact hc 0 (by omega) j v hj'
  .rw[BD (by omega),l0]at hj';by_cases h1:j<20
   .rw[BM (by omega)]at hj';have:=hc 1 (by omega) (j-10) v hj';rwa[show 1+10*1+(j-10)=1+j by omega]at this
   .rw[BD (by omega),l1]at hj';have:=hc 2 (by omega) (j-10-10) v hj';rwa[show 1+10*2+(j-10-10)=1+j by omega]at this)
 have h30:(yB s t).toList.length=30:=rfl;rw[h30]at hl;simp only[Instr.loadAt,Instr.sureAddr,Sem.run_bind,Sem.run_pure,Result.andThen];unfold loadVar;simp only[Sem.run_bind,isAgg41,sizeOf41,Result.andThen,if_true];rw[hl];rfl
theorem sK{w:FW}{ops:Array Oper}{rest:List Oper}{o:Oper}{a:Act}{Q:Exit->Act->FW->Prop}(hgd:o.guard=G5)(x:Operand)(ho:o.op=.load 41 x)(k:Nat)(s:Nat->Sv)(t:Nat->Sl)
  (hx:a.eval x=.pointer (G6 ⟨k,1,G5⟩)) (hc:∀i,i<3->∀q v,(yA (s i) (t i))[q]?=G6 v->w.cell? ⟨k,1+10*i+q,G5⟩=G6 v)
  (h:wpList prog ops Q rest (a.put o.dst (.agg (yB s t))) w):wpList prog ops Q (o::rest) a w:=by
 refine wpList_plain hgd fun K hK=>?_;have hr:=AP4 w k s t hc;unfold Oper.wp execOp;simp only[ho,Sem.run_bind,Sem.run_pure,Result.andThen_ok,hx,hr];exact hK _ _ h
def vot(s:Nat->Ps)(j:Nat):List Int:=(([0,1,2].take j).filter fun i=>(s i).up).map fun i:Nat=>(i:Int)
theorem CB5(hj:j<3)(h:(s j).up=true):vot s (j+1)=vot s j++[(j:Int)]:=by
 rcases(show j=0\/j=1\/j=2 by omega)with rfl|rfl|rfl<;>simp[vot,List.filter_cons,h]<;>(repeat' split)<;>simp
theorem CO0(hj:j<3)(h:(s j).up=false):vot s (j+1)=vot s j:=by
 rcases(show j=0\/j=1\/j=2 by omega)with rfl|rfl|rfl<;>simp[vot,List.filter_cons,h]
theorem CB6(s:Nat->Ps)(j:Nat):(vot s j).length<=3:=by
 rw[vot,EI];exact BO (List.length_filter_le _ _) (by simp;omega)
theorem CB7(s:Nat->Ps):vot s 3=(KC s).map fun i:Nat=>(i:Int):=rfl
theorem BS4(i:Nat)(q:Ps):(svP i q).up=q.up:=by
 cases h:q.up
 .rw[PK h]
 .rw[J3 h]
theorem lT{U:FW}(h:B0 W V)(hg:V.grownBy U v.ownBlock)(hn:∀g,v.ownBlock=G6 g->W.heap.size<=g):B0 W U:=
 ⟨hg.os.trans h.os,hg.tape.trans h.tape,hg.output.trans h.output,BO h.size hg.size,fun b hb=>(hg.block b (AY hb h.size) (fun e=>by have:=hn b e.symm;omega)).trans (h.block b hb)⟩
theorem B97[Lay α]{B:Nat}{xs:List α}(h:GZ W B v xs):∀g,v.ownBlock=G6 g->B<=g:=fun g hg=>by
 rcases h with⟨rfl,_⟩|⟨g',cap,rfl,hB,_⟩
 .simp[DJ]at hg
 .simp only[DJ,Option.some.injEq]at hg;omega
theorem pJ(p:Pw)(k:Nat)(W:FW)(hx:WX W k p):FZ prog 63 #[wP k] W fun e w'=>∃v,e=.returned v/\GZ w' W.heap.size v ((KC p.s).map fun i:Nat=>(i:Int))/\B0 W w':=by
 obtain⟨t,ht⟩:=hx.sl;have HT:=G8 ht;have IX:=G8 (fun(m:Nat) (hm:m<3) (u:FW)=>CA8 (fun i=>svP i (p.s i)) t m hm u);obtain⟨i0,hi0,hz0,hz1,hz2⟩:=A10;clear hx ht;unfold wP;go_enter func63,ntmps63;go_wp2_with (refine sK rfl _ rfl k (fun i=>svP i (p.s i)) t rfl (G7 HT) ?_);clear HT
 go_loopg [3,10] 3 (fun kx s3 s10 wr=>∃j:Nat,∃a c,s10=I0 j/\s3=FU a (vot p.s j).length c/\j<=3/\3-j<=kx/\Hid (GZ wr W.heap.size (FU a (vot p.s j).length c) (vot p.s j)/\B0 W wr))
 case atStart=>exact⟨0,G5,0,rfl,rfl,by omega,A8 _,G8 ⟨.inl ⟨rfl,rfl⟩,AA _ _⟩⟩
 case round=>
  obtain⟨j,a,c,rfl,rfl,hj,hg,HI⟩:=hrel;by_cases hlt:j<3
  .have IXm:=G7 IX j hlt;have hl:=CB6 p.s j;have hjj:(j:Int)<3:=by omega
   have eu:=BS4 j (p.s j);unfold yA at IXm;generalize svP j (p.s j)=s0 at*;generalize t j=tj at*;obtain⟨up,fs,id,ep,ts,dn,tr,ws⟩:=s0;simp only at eu IXm;subst eu;by_cases hu:(p.s j).up=true
   .have HS:=G8 (CB5 hlt hu);rw[hu]at IXm;clear hu;go_upto_region 5 with fail;have B2:=G8 (GH (G7 HI).2 (G9 wr (FV #[.bool true,FU tj.ad tj.nd tj.cd,I0 id,I0 ep,FU tj.al ts.length tj.cl,I0 dn,I0 tr.z,FU tj.an tr.ns.length tj.cn,FU tj.ai tr.ss.length tj.ci,FU tj.aw ws.length tj.cw] 40)));have O2:=G8 ((G7 HI).1.next (G9 wr (FV #[.bool true,FU tj.ad tj.nd tj.cd,I0 id,I0 ep,FU tj.al ts.length tj.cl,I0 dn,I0 tr.z,FU tj.an tr.ns.length tj.cn,FU tj.ai tr.ss.length tj.ci,FU tj.aw ws.length tj.cw] 40)));have E2:=(heap_alloc_new wr (FV #[.bool true,FU tj.ad tj.nd tj.cd,I0 id,I0 ep,FU tj.al ts.length tj.cl,I0 dn,I0 tr.z,FU tj.an tr.ns.length tj.cn,FU tj.ai tr.ss.length tj.ci,FU tj.aw ws.length tj.cw] 40));generalize wr.alloc _=W2 at*;have e0:W2.cell? ⟨wr.heap.size,0,G5⟩=G6 (.bool true):=by simp[AX,E2]
    clear HI IXm IX E2;have O3:=G8 (fun O=>(G7 O2).next (G9 W2 O));have S3:=G8 (fun O=>BO (G7 B2).size (G9 W2 O).size);go_wp2_with (at_builtin;refine lS rfl _ _ 35 rfl i0 _ 8 underlying35 hi0 hz0 hz1 hz2 rfl (by decide) _ (vot p.s j) rfl W.heap.size (G7 O3 _) W2.heap.size rfl (j:Int) (rE W2 j) (by omega) (by simp only[maxLen];omega) (G7 S3 _) ?_);intro a8 c8 w8 ho8 hg8;have HO:=G8 ho8;have HB:=G8 (lT (GH (G7 B2) (G9 W2 _)) hg8 (B97 (G7 O2)));clear ho8 hg8 O3 S3 B2 O2;go_wp2_with fail
    go_roundg (3-(j+1))
    case measure=>omega
    case rel=>exact⟨j+1,a8,c8,by simp,by rw[G7 HS,AP];rfl,by omega,A8 _,G8 ⟨by rw[G7 HS,AP];exact G7 HO,G7 HB⟩⟩
   .have HS:=G8 (CO0 hlt (by simpa using hu));rw[show (p.s j).up=false by simpa using hu]at IXm;clear hu;go_upto_region 5 with fail;have B2:=G8 (GH (G7 HI).2 (G9 wr (FV #[.bool false,FU tj.ad tj.nd tj.cd,I0 id,I0 ep,FU tj.al ts.length tj.cl,I0 dn,I0 tr.z,FU tj.an tr.ns.length tj.cn,FU tj.ai tr.ss.length tj.ci,FU tj.aw ws.length tj.cw] 40)));have O2:=G8 ((G7 HI).1.next (G9 wr (FV #[.bool false,FU tj.ad tj.nd tj.cd,I0 id,I0 ep,FU tj.al ts.length tj.cl,I0 dn,I0 tr.z,FU tj.an tr.ns.length tj.cn,FU tj.ai tr.ss.length tj.ci,FU tj.aw ws.length tj.cw] 40)));have E2:=(heap_alloc_new wr (FV #[.bool false,FU tj.ad tj.nd tj.cd,I0 id,I0 ep,FU tj.al ts.length tj.cl,I0 dn,I0 tr.z,FU tj.an tr.ns.length tj.cn,FU tj.ai tr.ss.length tj.ci,FU tj.aw ws.length tj.cw] 40));generalize wr.alloc _=W2 at*;have e0:W2.cell? ⟨wr.heap.size,0,G5⟩=G6 (.bool false):=by simp[AX,E2]
    clear HI IXm IX E2;go_wp2_with fail
    go_roundg (3-(j+1))
    case measure=>omega
    case rel=>exact⟨j+1,a,c,by simp,by rw[G7 HS],by omega,A8 _,G8 ⟨by rw[G7 HS];exact G7 O2,G7 B2⟩⟩
  .obtain rfl:j=3:=by omega
   go_wp2_with fail;go_ret;exact⟨_,rfl,by rw[<-CB7];exact(G7 HI).1,(G7 HI).2⟩
theorem WX.sl2(h:WX W k p):∃t:Nat->Sl,∀i,i<3->Srv W k (1+10*i) (svP i (p.s i)).up (svP i (p.s i)).id (svP i (p.s i)).ep (svP i (p.s i)).dn (svP i (p.s i)).tr.z (FU (t i).ad (t i).nd (t i).cd) (FU (t i).al (svP i (p.s i)).ts.length (t i).cl) (FU (t i).an (svP i (p.s i)).tr.ns.length (t i).cn) (FU (t i).ai (svP i (p.s i)).tr.ss.length (t i).ci) (FU (t i).aw (svP i (p.s i)).ws.length (t i).cw)/\NC W (FU (t i).al (svP i (p.s i)).ts.length (t i).cl) (svP i (p.s i)).ts:=by
 have e:∀i,∃t:Sl,i<3->Srv W k (1+10*i) (svP i (p.s i)).up (svP i (p.s i)).id (svP i (p.s i)).ep (svP i (p.s i)).dn (svP i (p.s i)).tr.z (FU t.ad t.nd t.cd) (FU t.al (svP i (p.s i)).ts.length t.cl) (FU t.an (svP i (p.s i)).tr.ns.length t.cn) (FU t.ai (svP i (p.s i)).tr.ss.length t.ci) (FU t.aw (svP i (p.s i)).ws.length t.cw)/\NC W (FU t.al (svP i (p.s i)).ts.length t.cl) (svP i (p.s i)).ts:=fun i=>by
  by_cases hi:i<3
  .obtain⟨ad,nd,cd,al,cl,an,cn,ai,ci,aw,cw,S,hv,_⟩:=h.srv hi rfl;obtain⟨vd,vl,vn,vs,vw,e,_,r2,_⟩:=hv;simp only[EN,F7,EH]at e;exact⟨⟨ad,nd,cd,al,cl,an,cn,ai,ci,aw,cw⟩,fun _=>⟨S,by rw[<-e.2.2.2.2.1]at r2;exact r2⟩⟩
  .exact⟨⟨G5,0,0,G5,0,G5,0,G5,0,G5,0⟩,fun h=>absurd h hi⟩
 exact⟨fun i=>(e i).choose,fun i hi=>(e i).choose_spec hi⟩
noncomputable def peP(p:Pw)(t:Nat->Sl)(i:Nat):Pe:=⟨(svP i (p.s i)).id,(svP i (p.s i)).ep,(t i).al,(t i).cl,(svP i (p.s i)).ts,(svP i (p.s i)).dn⟩
theorem B98(w:FW)(i e:Int)(a:Option Addr)(c:Nat)(ts:List GN)(d:Int):JQ (w.alloc (FV #[I0 i,I0 e,FU a ts.length c,I0 d] 33)) w.heap.size (⟨i,e,a,c,ts,d⟩:Pe):=heap_alloc_new w _
theorem CO1{t:Nat->Sl}(h:(p.s i).up=true):kk (peP p t i)=((i:Int),(p.s i).e,J5 (p.s i).m):=by
 simp only[kk,peP,J3 h]
theorem pK(p:Pw)(k:Nat)(W:FW)(v:FX)(l:List Nat)(hx:WX W k p)(hv:IL W v (l.map fun i:Nat=>(i:Int)))(hl:∀i∈l,i<3)(hln:l.length<=3):
  FZ prog 65 #[wP k,v] W fun e w'=>∃u t,e=.returned u/\GZ w' W.heap.size u (l.map (peP p t))/\rO w' (l.map (peP p t))/\B0 W w':=by
 obtain⟨t,ht⟩:=hx.sl2;have HT:=G8 ht;have HV:=G8 hv;have HL:=G8 hl;have hkl:=hx.lt;obtain⟨i0,hi0,hz0,hz1,hz2⟩:=CW3;obtain⟨a,c,rfl⟩:=GK hv;rw[EI]at HV⊢;clear hx ht hv hl;unfold wP;go_enter func65,ntmps65;go_wp2_with fail
 go_loopg [5,10] l.length (fun kx s5 s10 wr=>∃j:Nat,∃a c,s10=I0 j/\s5=FU a j c/\j<=l.length/\l.length-j<=kx/\Hid (GZ wr W.heap.size (FU a j c) ((l.take j).map (peP p t))/\B0 W wr))
 case atStart=>exact⟨0,G5,0,rfl,rfl,by omega,A8 _,G8 ⟨.inl ⟨rfl,rfl⟩,AA _ _⟩⟩
 case round=>
  obtain⟨j,a2,c2,rfl,rfl,hj,hg,HI⟩:=hrel;by_cases hlt:j<l.length
  .obtain⟨i,hi⟩:∃i,l[j]?=G6 i:=⟨_,AO hlt⟩;have hi3:=G7 HL i (BA hi);have HS:=G8 (show (l.take (j+1)).map (peP p t)=(l.take j).map (peP p t)++[peP p t i] by rw[Q8 hi,List.map_append];rfl);have hlj:((l.take j).map (peP p t)).length=j:=by simp;omega
   obtain⟨b,off,cap,he,hb,hrow,_,_⟩:=MV ((G7 HV).next (G7 HI).2) (by intro h0;rw[List.map_eq_nil_iff]at h0;rw[h0]at hlt;simp at hlt);simp only[EI,AQ]at he;obtain⟨rfl,_,rfl⟩:=he;have d0:=hrow.i0 (i:=j) (x:=(i:Int)) (by rw[List.getElem?_map,hi];rfl);obtain⟨_,_,e2,e3,e4,e5,_⟩:=(G7 HT i hi3).1.next hkl (G7 HI).2;rw[DK 10 i]at e2 e3 e4 e5;have hjj:(j:Int)<(l.length:Int):=by omega
   have hi4:(i:Int)<3:=by omega
   have B2:=G8 (G7 HI).2;have O2:=G8 (G7 HI).1;clear HI hrow hi HV;generalize hs0:svP i (p.s i)=s0 at*;have HP:Hid (peP p t i=⟨s0.id,s0.ep,(t i).al,(t i).cl,s0.ts,s0.dn⟩):=G8 (by rw[peP,hs0]);clear hs0;have O3:=G8 (fun O=>(G7 O2).next (G9 wr O));have S3:=G8 (fun O=>BO (G7 B2).size (G9 wr O).size);go_wp2_with (at_builtin;refine lS rfl _ _ 142 rfl i0 _ 48 underlying142 hi0 hz0 hz1 hz2 rfl (by decide) _ ((l.take j).map (peP p t)) rfl W.heap.size (G7 O3 _) wr.heap.size rfl (⟨s0.id,s0.ep,(t i).al,(t i).cl,s0.ts,s0.dn⟩:Pe) (B98 wr _ _ _ _ _ _) (by rw[hlj];omega) (by rw[hlj];simp only[maxLen];omega) (G7 S3 _) ?_);intro a8 c8 w8 ho8 hg8;have HO:=G8 ho8;have HB:=G8 (lT (GH (G7 B2) (G9 wr _)) hg8 (B97 (G7 O2)));clear ho8 hg8 O3 S3 B2 O2;go_wp2_with fail
   go_roundg (l.length-(j+1))
   case measure=>omega
   case rel=>exact⟨j+1,a8,c8,by simp,rfl,by omega,A8 _,G8 ⟨by rw[G7 HS,G7 HP,List.map_take];exact G7 HO,G7 HB⟩⟩
  .obtain rfl:j=l.length:=by omega
   rw[DW]at HI;go_wp2_with fail;go_ret;exact⟨_,t,rfl,(G7 HI).1,fun q hq=>by
    obtain⟨i,hi,rfl⟩:=EZ.1 hq;exact((G7 HT i (G7 HL i hi)).2).next (G7 HI).2,(G7 HI).2⟩
theorem BS5{m:List GN}{t:GN}(e:Int)(h:Logs (m++[t]))(hl:m.length<=300):ZA 147 (fun x=>#[x,J9 t,.bool true]) [YT e,OX m] [YT e,OX (m++[t])] 0:=by
 have hg:=(Logs.at (a:=m) (b:=[]) h).1;have hx:=rZ e;have h1:=rX h.left hl;have h2:=jE hg;have g0:LQ [YT e,OX m]:=TS hx (by simp;omega);have g1:LQ [YT e,⟨NV,IE m,QV t⟩]:=TS hx (by omega);refine oN [YT e,OX m] [YT e,⟨NV,IE m,QV t⟩] [YT e,OX (m++[t])] t 0 hg (MQ fun v W hv=>?_) (eH fun v W hv=>?_)
 .have:=jW v [YT e,OX m] [YT e] [] (OX m) NV (QV t) W hv (JV g0) g0 (kX _ _ _ _) (by simp only[OX,List.length_nil];omega);simpa [OX]using this
 .have:=YI v [YT e,⟨NV,IE m,QV t⟩] [YT e] [] ⟨NV,IE m,QV t⟩ NV W hv (JV g1) g1 (kX _ _ _ _);simpa [OX,PU]using this
theorem CO2{m:List GN}{e0:Int}(he:zIn e=true)(hm:(IE m).length<=1048576):kT 96 (fun x=>#[x,I0 e]) (epD e0++[OX m]) [YT e,OX m] 0:=by
 by_cases h0:e0=0
 .subst h0;rw[AC9];exact C76 he hm
 .rw[A42 h0];have hx:=aW (KY e 0);have g0:LQ [YT e0,OX m]:=TS (rZ e0) (by simpa using hm);have gl:LQ [OX m]:=bQ (by simpa using hm);have g1:LQ [⟨JI,[],QM (KY e 0)⟩,OX m]:=TS (by simp;omega) (by simpa using hm);refine A33 [YT e0,OX m] [OX m] [⟨JI,[],QM (KY e 0)⟩,OX m] [YT e,OX m] e 0 (U9 he (by decide)).2 (MQ fun v W hv=>?_) (MQ fun v W hv=>?_) (MQ fun v W hv=>?_)
  .exact vK v [YT e0,OX m] [] [OX m] (YT e0) JI W hv (JV g0) g0 (bU _ _ _ _)
  .exact bF v [OX m] [] [OX m] JI (QM (KY e 0)) W hv (JV gl) gl ZJ (by simp) (eX (IE m) []) (by omega)
  .have:=YI v _ [] [OX m] ⟨JI,[],QM (KY e 0)⟩ JI W hv (JV g1) g1 (bU [] (QM (KY e 0)) (IE m) []);simpa [YT]using this
theorem B99{a b:List GN}(ha:Logs a)(hp:∀x∈a,0<x.z){z:Int}(hz:CV8 b (KW a b) z):TJ z a=a.take (KW a b):=by
 rcases hz with⟨h0,rfl⟩|⟨x,h0,hx,rfl⟩
 .rw[h0,List.take_zero]
  cases a with
  |nil=>rfl
  |cons t r=>
   have:=hp t (by simp);unfold TJ;rw[List.takeWhile_cons_of_neg (by simp;omega)]
 .obtain⟨x',y',h1,h2,h3⟩:=kK a b (KW a b-1) (by omega);rw[hx]at h2
  cases h2
  rw[<-h3,C77 ha h1,show KW a b-1+1=KW a b by omega]
theorem CO3(a b:List GN):∃z,CV8 b (KW a b) z:=by
 by_cases h0:KW a b=0
 .exact⟨-1,.inl ⟨h0,rfl⟩⟩
 .obtain⟨x,y,_,h2,_⟩:=kK a b (KW a b-1) (by omega);exact⟨y.z,.inr ⟨y,by omega,h2,rfl⟩⟩
theorem BS6{a b:List GN}(h:∀x∈a,∀y∈b,x.z=y.z->x=y):a.take (KW a b)=b.take (KW a b):=by
 obtain⟨k1,k2⟩:=XK a b
 apply List.ext_getElem?
 intro i;by_cases hi:i<KW a b
 .obtain⟨x,y,h1,h2,h3⟩:=kK a b i hi;rw[List.getElem?_take_of_lt hi,List.getElem?_take_of_lt hi,h1,h2,h x (BA h1) y (BA h2) h3]
 .rw[List.getElem?_eq_none (by simp;omega),List.getElem?_eq_none (by simp;omega)]
theorem BA0(ok:MJ 300 q)(hu:q.up=true)(okb:MJ 300 b)(he:1<=e/\e<=300)(hd:q.dn<=KW q.m b.m)(h1:∀x∈q.m,∀y∈b.m,x.z=y.z->x=y)(v vl:FX)(w:FW)(hv:SvV w v (svP i q))(hvl:NC w vl b.m)(ht:ZY w):
  FZ prog 66 #[v,vl,I0 e] w (eP w (svP i (xQ e b.m q)) 0):=by
 obtain⟨r1,r2⟩:=ok.small;obtain⟨b1,b2⟩:=okb.small;have r3:=UW q.m q.a;obtain⟨z,hz⟩:=CO3 q.m b.m;have hzi:zIn e=true:=PS.2 ⟨by omega,by omega⟩;have hs:=BS6 h1;obtain⟨k1,k2⟩:=XK q.m b.m;have hts:(svP i q).ts=q.m:=by rw[J3 hu]
 have G:NG 95 (fun g=>#[g,I0 z]) (svP i q).fs (epD q.e++[OX (q.m.take (KW q.m b.m))]) 0:=by
  have R:Z9 (epD q.e++[⟨NV,IE (q.m.take q.a),IE (q.m.drop q.a)⟩]) q.m (epD q.e) []:=⟨ZU (by omega),ok.log,.inr ⟨_,[],iP _ _ _,by
   have:=uH ok.log;rw[<-LH,DV];exact this⟩⟩
  have:=BP0 R z;rw[B99 ok.log ok.pos hz]at this;rw[J3 hu];exact this
 have hlk:Logs (q.m.take (KW q.m b.m)):=ok.log.take _;have hrk:(IE (q.m.take (KW q.m b.m))).length<=146100:=rX hlk (by simp;omega);have R:=CO2 (e0:=q.e) hzi (show (IE (q.m.take (KW q.m b.m))).length<=1048576 by omega);have gd:LQ [YT e,OX (q.m.take (KW q.m b.m))]:=TS (rZ e) (by simp;omega);have hbb:b.m=b.m.take (KW q.m b.m)++b.m.drop (KW q.m b.m):=(DV _ _).symm;have step:∀j x,(b.m.drop (KW q.m b.m))[j]?=G6 x->CL7 ⟨true,[YT e,OX (q.m.take (KW q.m b.m)++(b.m.drop (KW q.m b.m)).take j)],i,e,q.m.take (KW q.m b.m)++(b.m.drop (KW q.m b.m)).take j,q.dn,QT q.m q.dn,q.ws⟩ x ⟨true,[YT e,OX (q.m.take (KW q.m b.m)++(b.m.drop (KW q.m b.m)).take (j+1))],i,e,q.m.take (KW q.m b.m)++(b.m.drop (KW q.m b.m)).take (j+1),q.dn,QT q.m q.dn,q.ws⟩:=by
  intro j x hx;have e1:b.m=(q.m.take (KW q.m b.m)++(b.m.drop (KW q.m b.m)).take j)++x::(b.m.drop (KW q.m b.m)).drop (j+1):=by
   rw[hs,BU,<-BP1 hx];exact hbb
  have e2:q.m.take (KW q.m b.m)++(b.m.drop (KW q.m b.m)).take (j+1)=(q.m.take (KW q.m b.m)++(b.m.drop (KW q.m b.m)).take j)++[x]:=by rw[PV hx,BU]
  have hL:=okb.log;rw[e1]at hL;have hg:=hL.good x (by simp);have hL1:Logs ((q.m.take (KW q.m b.m)++(b.m.drop (KW q.m b.m)).take j)++[x]):=by
   have:Logs (((q.m.take (KW q.m b.m)++(b.m.drop (KW q.m b.m)).take j)++[x])++(b.m.drop (KW q.m b.m)).drop (j+1)):=by simpa using hL
   exact this.left
  have hx2:=Y6 hg;have hlen:(q.m.take (KW q.m b.m)++(b.m.drop (KW q.m b.m)).take j).length<=300:=by
   have:=congrArg List.length e1;rw[AP]at this;omega
  have hlast:¬x.z<=J5 (q.m.take (KW q.m b.m)++(b.m.drop (KW q.m b.m)).take j):=by
   intro hle;by_cases hn:q.m.take (KW q.m b.m)++(b.m.drop (KW q.m b.m)).take j=[]
   .rw[hn,WR]at hle;have:=okb.pos x (List.mem_of_mem_drop (BA hx));omega
   .obtain⟨y,hy,hyz⟩:=aH hn;have:=(DL.1 hL1.rise).2.2 y hy x (by simp);omega
  refine⟨hlast,by omega,by omega,BO hlen (by decide),[YT e,OX ((q.m.take (KW q.m b.m)++(b.m.drop (KW q.m b.m)).take j)++[x])],by rw[e2],BS5 e hL1 hlen⟩
 have main:=B60 (svP i q) v vl b.m e w hv hvl (ok.fits hu) (by omega) ht (by rw[hts,J3 hu];show ¬ ((KW q.m b.m:Nat):Int)<(q.dn:Int);omega) z _ _ (by rw[hts];exact hz) G R gd (fun j=>⟨true,[YT e,OX (q.m.take (KW q.m b.m)++(b.m.drop (KW q.m b.m)).take j)],i,e,q.m.take (KW q.m b.m)++(b.m.drop (KW q.m b.m)).take j,q.dn,QT q.m q.dn,q.ws⟩) (by rw[hts,J3 hu];simp) (by rw[hts];exact step);rw[hts]at main;have e3:svP i (xQ e b.m q)=⟨true,[YT e,OX (q.m.take (KW q.m b.m)++(b.m.drop (KW q.m b.m)).take (b.m.drop (KW q.m b.m)).length)],i,e,q.m.take (KW q.m b.m)++(b.m.drop (KW q.m b.m)).take (b.m.drop (KW q.m b.m)).length,q.dn,QT q.m q.dn,q.ws⟩:=by
  have et:QT q.m q.dn=QT b.m q.dn:=by
   rw[<-lI q.m hd,<-lI b.m hd,hs]
  rw[DW,hs,DV,et,J3 (p:=xQ e b.m q) rfl];simp[xQ,A42 (show e≠0 by omega),OX,IE]
 rw[e3];exact main
theorem yE(ok:MJ 300 q)(hu:q.up=true)(okb:MJ 300 b)(hd:KW q.m b.m<q.dn)(v vl:FX)(w:FW)(hv:SvV w v (svP i q))(hvl:NC w vl b.m):
  FZ prog 66 #[v,vl,I0 e] w (oO w 13):=by
 obtain⟨b1,b2⟩:=okb.small;exact AN9 (svP i q) v vl b.m e w hv hvl (ok.fits hu) (by omega) (by rw[J3 hu];show ((KW q.m b.m:Nat):Int)<(q.dn:Int);omega)
structure El(p:Pw):Prop where
 ok:∀i,i<3->MJ 300 (p.s i)
 cl:∀i,i<16->tV 300 p.H i (p.c i)
 en:1<=eN p.s/\eN p.s<=300
 one:∀i j,i<3->j<3->∀x∈(p.s i).m,∀y∈(p.s j).m,x.z=y.z->x=y
 fol:¬ (KC p.s).length<2->AR9 p.s=false->∀i,i<3->MJ 300 (eS p.s i)
 fin:¬ (KC p.s).length<2->AR9 p.s=false->∀i,i<3->MJ 300 ((ML (eS p.s) (KC p.s)).1 i)
theorem MJ.fol{N:Int}(hq:MJ N q)(hb:MJ N b)(he:0<=e/\e<=N)(hd:q.dn<=KW q.m b.m):MJ N (xQ e b.m q):=
 ⟨hb.log,hb.pos,hb.len,A8 _,he.1,he.2,BO hd (XK q.m b.m).2,hb.play,hq.wl,hq.wk,fun h=>by simp[xQ]at h,fun _=>rfl⟩
theorem CX3{q:Pw}(h:RZ q)(hn:q.n<300):El (O8 q):=by
 have hok:∀i,i<3->MJ 300 (q.s i):=fun i hi=>(h.s i hi).more (by omega);refine⟨hok,fun i hi=>(h.c i hi).more (by omega) (fun _ hx=>hx),?_,fun i j hi hj x hx y hy e=>h.a.one x (h.a.hist i hi x (by rw[LW hi];exact hx)) y (h.a.hist j hj y (by rw[LW hj];exact hy)) e,fun h2 hb i hi=>?_,fun h2 hb i hi=>?_⟩
 .have:=CA4 h;show 1<=eN q.s/\eN q.s<=300;omega
 .show MJ 300 (eS q.s i);have hB:=KQ.1 (B85 (s:=q.s) (show 2<=(KC q.s).length from Nat.le_of_not_lt h2));unfold eS
  split
  .rename_i hu
   have:=CA4 h;exact MJ.fol (hok i hi) (hok _ hB.1) (by omega) (B86 (s:=q.s) hb (KQ.2 ⟨hi,hu.1⟩))
  .exact hok i hi
 .exact((pI h hn h2 hb).s i hi).more (by show q.n+1<=300;omega)
theorem AF0(h:∀i,i<3->MJ 300 (s i)):BY5 (QN s) 0:=by
 refine .inl ⟨rfl,fun i k hi=>?_⟩;have hlt:i<(KC s).length:=by have:=(AV.1 hi).1;rwa[cO]at this
 unfold QN at hi;rw[List.getElem?_map,AO hlt]at hi;simp only[Option.map_some,Option.some.injEq]at hi;subst hi;have hm:=List.getElem_mem hlt;obtain⟨h3,_⟩:=KQ.1 hm;have ok:=h _ h3;have h0:=ok.e0;have h1:=ok.e1;unfold AC8;rw[if_neg,if_neg (by simp only;omega),if_neg (by simp only;omega)];intro ha;rw[List.any_eq_true]at ha;obtain⟨q,hq,e⟩:=ha;rw[QN,<-List.map_take]at hq;obtain⟨j,hj,rfl⟩:=EZ.1 hq;have e':j=(KC s)[i]:=by
  have:(j:Int)=((KC s)[i]:Nat):=by simpa using e
  omega
 have hnd:=UZ s;rw[<-DV i (KC s)]at hnd;have hd:(KC s)[i]∈(KC s).drop i:=BA (i:=0) (by rw[List.getElem?_drop];simp[AO hlt]);exact(DL.1 hnd).2.2 j hj _ hd e'
theorem BS7(h:∀i,i<3->MJ 300 (s i))(h2:(KC s).length<2):CW2 (QN s) 0 0 14:=⟨0,AF0 h,.inr ⟨rfl,.inl ⟨by rw[cO];exact h2,rfl,rfl,rfl⟩⟩⟩
theorem BA1(h:El p)(h2:¬ (KC p.s).length<2):CW2 (QN p.s) (MI (QN p.s) (KC p.s).length:Nat) (eN p.s) 0:=
 ⟨0,AF0 h.ok,.inr ⟨rfl,.inr ⟨by rw[cO];omega,.inr ⟨by have:=h.en;unfold eN at this;omega,by rw[cO],rfl,rfl⟩⟩⟩⟩
theorem BA2(h2:¬ (KC s).length<2):MI (QN s) (KC s).length<(KC s).length:=by
 have:=XT (QN s) (KC s).length;omega
theorem CB8(h2:¬ (KC s).length<2):(KC s)[MI (QN s) (KC s).length]?=G6 (eB s):=by
 have:=BA2 h2;rw[eB,List.getD_eq_getElem?_getD,AO this];rfl
def elS(s:Nat->Ps)(j:Nat):Nat->Ps:=fun k=>if k∈(KC s).take j then xQ (eN s) (s (eB s)).m (s k)else s k
def elR(s:Nat->Ps)(j:Nat):Nat->Int:=fun k=>if k∈(KC s).take j then 1 else 0
theorem BS8(s:Nat->Ps):elS s 0=s:=by funext k;simp[elS]
theorem BS9(s:Nat->Ps):elR s 0=fun _=>0:=by funext k;simp[elR]
theorem BT0(h:(KC s)[j]?=G6 i):elS s (j+1)=LP (elS s j) i (xQ (eN s) (s (eB s)).m (s i)):=by
 funext k
 unfold elS LP;rw[Q8 h];by_cases e:k=i
 .subst e;rw[if_pos (by simp),if_pos rfl]
 .rw[if_neg e];congr 1;simp[e]
theorem BT1(h:(KC s)[j]?=G6 i):elR s (j+1)=LP (elR s j) i 1:=by
 funext k
 unfold elR LP;rw[Q8 h];by_cases e:k=i
 .subst e;rw[if_pos (by simp),if_pos rfl]
 .rw[if_neg e];congr 1;simp[e]
theorem CB9(s:Nat->Ps):elS s (KC s).length=eS s:=by
 funext k
 unfold elS eS;rw[DW]
 congr 1
 rw[KQ];exact propext ⟨fun h=>⟨h.2,h.1⟩,fun h=>⟨h.2,h.1⟩⟩
theorem CC0:LP (elR s (KC s).length) (eB s) 2=eR s:=by
 funext k
 unfold elR eR LP;rw[DW];by_cases e:k=eB s
 .rw[if_pos e,if_pos e]
 .rw[if_neg e,if_neg e];show (if k∈KC s then(1:Int)else 0)=_
  congr 1
  rw[KQ];exact propext ⟨fun h=>⟨h.2,h.1⟩,fun h=>⟨h.2,h.1⟩⟩
theorem CC1(h:(KC s)[j]?=G6 i):elS s j i=s i:=by
 unfold elS;rw[if_neg];intro hm;have hnd:=UZ s;rw[<-DV j (KC s)]at hnd;have hd:i∈(KC s).drop j:=BA (i:=0) (by rw[List.getElem?_drop];simpa using h);exact(DL.1 hnd).2.2 i hm i hd rfl
theorem CC3(h:i∈KC s)(hb:KW (s i).m (s (eB s)).m<(s i).dn):AR9 s=true:=by
 unfold AR9;rw[List.any_eq_true];exact⟨i,h,by simpa using hb⟩
theorem CO4(h:∀i∈KC s,(s i).dn<=KW (s i).m (s (eB s)).m):AR9 s=false:=by
 unfold AR9;rw[List.any_eq_false];intro i hi;have:=h i hi;simp;omega
theorem fD(s:Nat->Ps):(KC s).length<=3:=BO (List.length_filter_le _ _) (by simp)
theorem CO5(h:ZY W)(hx:WX W k p):1≠k:=by
 intro e;have h1:=h.cell B53 0 (by decide);have h2:=hx.count;rw[<-e]at h2;rw[h2]at h1;simp[Lib.pow10Tab]at h1
theorem ZY.touch{F:Nat->Prop}(h:ZY W)(ht:Touch F W V)(hF:¬F 1):ZY V:=by
 have hlt:=B54 h;unfold ZY Lib.TabIs World.var? at h⊢;simp only[B53,Option.bind_some]at h⊢;rw[ht.block _ hlt hF];exact h
theorem iQ(h:ZY W)(hx:WX W k p)(ht:Touch (· =k) W V):ZY V:=h.touch ht (CO5 h hx)
structure BxS(w V:FW)(q:Nat)(s:Sv)(vd vl vn vs vw:FX):Prop where
 b:Below w.heap.size w V
 le:w.heap.size<=q
 box:IG V q s.up vd s.id s.ep vl s.dn s.tr.z vn vs vw
theorem CC4{w1:FW}{s:Sv}{vd vl vn vs vw:FX}(h:Below w.heap.size w w1):BxS w (w1.alloc (FV #[.bool s.up,vd,.int .i64 s.id,.int .i64 s.ep,vl,.int .i64 s.dn,.int .i64 s.tr.z,vn,vs,vw] 40)) w1.heap.size s vd vl vn vs vw:=
 ⟨GH h (G9 _ _),h.size,IG.new _ _ _ _ _ _ _ _ _ _ _⟩
theorem CC5{w1:FW}{q:Nat}{s:Sv}{vd vl vn vs vw:FX}(h:Below w.heap.size w w1)(hq:w.heap.size<=q)(hz:IG w1 q false (FU G5 0 0) 0 0 (FU G5 0 0) 0 0 (FU G5 0 0) (FU G5 0 0) (FU G5 0 0)):BxS w (OG w1 q (.bool s.up) vd (.int .i64 s.id) (.int .i64 s.ep) vl (.int .i64 s.dn) (.int .i64 s.tr.z) vn vs vw) q s vd vl vn vs vw:=
 ⟨JL h hq _ _ _ _ _ _ _ _ _ _,hq,kW hz _ _ _ _ _ _ _ _ _ _⟩
def RqB(W:FW)(g:Nat)(r:Rq):Prop:=W.heap[g]?=G6 (FV #[.int .i64 r.o,.int .i64 r.s,.string ⟨r.p.toArray⟩,.string ⟨r.d.toArray⟩,.int .i64 r.v,.int .i64 r.f] 56 (0,0))
theorem RqB.new(w:FW)(r:Rq):RqB (w.alloc (FV #[.int .i64 r.o,.int .i64 r.s,.string ⟨r.p.toArray⟩,.string ⟨r.d.toArray⟩,.int .i64 r.v,.int .i64 r.f] 56)) w.heap.size r:=heap_alloc_new w _
theorem RqB.lt(h:RqB W g r):g<W.heap.size:=(Array.getElem?_eq_some_iff.1 h).1
theorem RqB.next(h:RqB W g r)(hb:Below W.heap.size W V):RqB V g r:=(hb.block g h.lt).trans h
theorem RqB.cells(h:RqB W g r):W.cell? ⟨g,0,G5⟩=G6 (.int .i64 r.o)/\W.cell? ⟨g,1,G5⟩=G6 (.int .i64 r.s)/\W.cell? ⟨g,2,G5⟩=G6 (.string ⟨r.p.toArray⟩)/\W.cell? ⟨g,3,G5⟩=G6 (.string ⟨r.d.toArray⟩)/\W.cell? ⟨g,4,G5⟩=G6 (.int .i64 r.v)/\W.cell? ⟨g,5,G5⟩=G6 (.int .i64 r.f):=by
 unfold RqB at h;refine⟨?_,?_,?_,?_,?_,?_⟩<;>simp[AX,h]
theorem RqB.GU(h:RqB W g r)(j:Nat):W.frozen? ⟨g,j,G5⟩=false:=by
 unfold RqB at h;simp[World.frozen?,h]
theorem RqB.set(h:RqB W g r)(s:Int):RqB (W.setCell ⟨g,1,G5⟩ (.int .i64 s)) g ⟨r.o,s,r.p,r.d,r.v,r.f⟩:=by
 unfold RqB at h⊢;rw[GV _ h];rfl
structure PP(w W:FW)(d:Dd):Prop where
 b:Below w.heap.size w W
 a:TAt W (w.heap.size+1) t0
 d:JQ W w.heap.size d
theorem PP.start(w:FW)(d:Dd):PP w ((w.alloc (FV #[.int .i64 d.k,.int .i64 d.c,.int .i64 d.s,.int .i64 d.q.o,.int .i64 d.q.s,.string ⟨d.q.p.toArray⟩,.string ⟨d.q.d.toArray⟩,.int .i64 d.q.v,.int .i64 d.q.f,.int .i64 d.lo,.int .i64 d.sl,.int .i64 d.ke,.bool d.wt] 58)).alloc (FV #[.int .i64 0,.int .i64 0,.int .i64 0,.string ⟨#[]⟩,.string ⟨#[]⟩,.int .i64 0,.int .i64 0] 79)) d:=by
 exact⟨GH (G9 _ _) (G9 _ _),lG _ _ _,JQ.ZR (heap_alloc_new w _:JQ (w.alloc _) w.heap.size d) (G9 _ _) (by simp)⟩
theorem PP.next(h:PP w W d)(hb:Below W.heap.size W V):PP w V d:=⟨GH h.b hb,h.a.next hb,h.d.ZR hb h.d.ltz⟩
theorem AF2(h:JQ W g d):(W.cell? ⟨g,0,G5⟩=G6 (.int .i64 d.k)/\W.cell? ⟨g,1,G5⟩=G6 (.int .i64 d.c)/\W.cell? ⟨g,2,G5⟩=G6 (.int .i64 d.s)/\W.cell? ⟨g,3,G5⟩=G6 (.int .i64 d.q.o)/\W.cell? ⟨g,4,G5⟩=G6 (.int .i64 d.q.s)/\W.cell? ⟨g,5,G5⟩=G6 (.string ⟨d.q.p.toArray⟩)/\W.cell? ⟨g,6,G5⟩=G6 (.string ⟨d.q.d.toArray⟩))/\W.cell? ⟨g,7,G5⟩=G6 (.int .i64 d.q.v)/\W.cell? ⟨g,8,G5⟩=G6 (.int .i64 d.q.f)/\W.cell? ⟨g,9,G5⟩=G6 (.int .i64 d.lo)/\W.cell? ⟨g,10,G5⟩=G6 (.int .i64 d.sl)/\W.cell? ⟨g,11,G5⟩=G6 (.int .i64 d.ke)/\W.cell? ⟨g,12,G5⟩=G6 (.bool d.wt):=by
 have r:=h.row;simp only[BJ]at r;exact⟨⟨r 0 _ rfl,r 1 _ rfl,r 2 _ rfl,r 3 _ rfl,r 4 _ rfl,r 5 _ rfl,r 6 _ rfl⟩,r 7 _ rfl,r 8 _ rfl,r 9 _ rfl,r 10 _ rfl,r 11 _ rfl,r 12 _ rfl⟩
theorem gI(p:Pw)(d:Dd)(k b:Nat)(W:FW)(hx:WX W k p)(hT:ZY W)(hb:b<3)(hl:ldP p.r=b)(hu:(p.s b).up=true)(hok:MJ 300 (p.s b))(hn:nxE (p.s b).e (J5 (p.s b).m)=0)(hc:0<=d.c/\d.c<16)(hp:d.q.p.length<=140737488355328)(hd:d.q.d.length<=140737488355328):
  FZ prog 53 #[wP k,ddV d] W fun e w'=>e=.returned (.tuple #[J9 (wX p d),.int .i64 (wE p d)])/\Below W.heap.size W w':=by
 have D0:=G8 (PP.start W d);obtain⟨c,hc16,hdc⟩:∃c:Nat,c<16/\d.c=c:=⟨d.c.toNat,by omega,by omega⟩;obtain⟨ad,nd,cd,al,cl,an,cn,ai,ci,aw,cw,SS,hv,_⟩:=hx.srv hb rfl;obtain⟨ca,cc,k0,k1,k2,_⟩:=hx.cl hc16;have hsv:=J3 (i:=b) hu;have CL:=G8 (fun V (hV:Below W.heap.size W V)=>SI p k V (hx.next hV));rw[hl]at CL;have HV:=G8 (fun V (hV:Below W.heap.size W V)=>hv.next hV);have CN:=G8 (fun V (hV:Below W.heap.size W V)=>BQ0 ⟨(svP b (p.s b)).id,(svP b (p.s b)).ep,al,cl,(svP b (p.s b)).ts,(svP b (p.s b)).dn⟩ V (by
  obtain⟨_,_,_,_,_,e,_,r2,_,_,_⟩:=hv.next hV;simp only[EN,F7,EH,true_and,and_true]at e;rw[<-e.2.1]at r2;exact r2))
 have HT:=G8 hT;have hgt:QW (svP b (p.s b)).tr:=by rw[hsv];exact hok.play.good hok.dn
 have CP:=G8 (fun V (hV:Below W.heap.size W V) (z:Int)=>A56 (svP b (p.s b)).tr z (FU an (svP b (p.s b)).tr.ns.length cn) (FU ai (svP b (p.s b)).tr.ss.length ci) (wQ p d) V (by
  obtain⟨_,_,_,_,_,e,_,_,r3,_,_⟩:=hv.next hV;simp only[EN,F7,EH,true_and,and_true]at e;rw[<-e.2.2.1]at r3;exact r3) (by
  obtain⟨_,_,_,_,_,e,_,_,_,r4,_⟩:=hv.next hV;simp only[EN,F7,EH,true_and,and_true]at e;rw[<-e.2.2.2.1]at r4;exact r4) hgt.pwf hp hd ((G7 HT).next hV))
 have HE:Hid (wX p d=AR8 (svP b (p.s b)).tr (nxN (svP b (p.s b)).ep (J5 (svP b (p.s b)).ts)) (wQ p d)/\wE p d=gK (svP b (p.s b)).tr (nxN (svP b (p.s b)).ep (J5 (svP b (p.s b)).ts)) (wQ p d)):=G8 (by
  have hln:ldN p.r=b:=by rw[ldN,hl];simp
  rw[wX,wE,wTr,wZ,hln,hsv];exact⟨rfl,rfl⟩)
 have hne:nxE (svP b (p.s b)).ep (J5 (svP b (p.s b)).ts)=0:=by rw[hsv];exact hn
 rw[hne]at CN;have hdn:(p.c d.c.toNat).s=(p.c c).s:=by rw[hdc];rfl
 have HQ:Hid (wQ p d=⟨d.q.o,(p.c c).s,d.q.p,d.q.d,d.q.v,d.q.f⟩):=G8 (by rw[wQ,hdn]);have HX:=G8 hx;obtain⟨dk,dc,ds,⟨o,s,pp,dd,v,f⟩,lo,sl,ke,wt⟩:=d;simp only at hdc HQ;subst hdc;rw[(G7 HE).1,(G7 HE).2];rw[G7 HQ]at CP⊢;clear HQ HE;generalize hs0:svP b (p.s b)=s0 at*;unfold wP ddV;have HS:=G8 (fun V (hV:Below W.heap.size W V)=>SS.next hx.lt hV);simp only[DK 10 b]at HS;have HC:=G8 (And.intro k0 (And.intro k1 k2));have hk0:=hx.lt;have hb4:(b:Int)<3:=by omega
 have hc4:(c:Int)<16:=by omega
 unfold peV at CN;unfold rqV AF1 J9 at CP;clear SS hv k0 k1 k2 hsv hl hT hgt hn hne hc hp hd hx hs0 hok hu hdn;go_enter func53,ntmps53;go_upto_region 1 with fail;generalize ((W.alloc _).alloc _)=W1 at*;have hkW:k<W1.heap.size:=AY hk0 (G7 D0).b.size;have HKS:Hid (∀V,Below W1.heap.size W1 V->V.cell? ⟨k,1+b*10,G5⟩=G6 (.bool s0.up)/\V.cell? ⟨k,1+b*10+1,G5⟩=G6 (FU ad nd cd)/\V.cell? ⟨k,1+b*10+2,G5⟩=G6 (.int .i64 s0.id)/\V.cell? ⟨k,1+b*10+3,G5⟩=G6 (.int .i64 s0.ep)/\V.cell? ⟨k,1+b*10+4,G5⟩=G6 (FU al s0.ts.length cl)/\V.cell? ⟨k,1+b*10+5,G5⟩=G6 (.int .i64 s0.dn)/\V.cell? ⟨k,1+b*10+6,G5⟩=G6 (.int .i64 s0.tr.z)/\V.cell? ⟨k,1+b*10+7,G5⟩=G6 (FU an s0.tr.ns.length cn)/\V.cell? ⟨k,1+b*10+8,G5⟩=G6 (FU ai s0.tr.ss.length ci)/\V.cell? ⟨k,1+b*10+9,G5⟩=G6 (FU aw s0.ws.length cw)):=G8 fun V hV=>by
  obtain⟨c0,c1,c2,c3,c4,c5,c6,c7,c8,c9⟩:=G7 HS V (GH (G7 D0).b hV);exact⟨c0,c1,c2,c3,c4,c5,c6,c7,c8,c9⟩
 replace CL:=G8 (fun V (hV:Below W1.heap.size W1 V)=>G7 CL V (GH (G7 D0).b hV))
 go_cut [6]from 10 (fun t6 wx=>∃q,t6=.pointer (G6 ⟨q,0,G5⟩)/\Hid (BxS W1 wx q s0 (FU ad nd cd) (FU al s0.ts.length cl) (FU an s0.tr.ns.length cn) (FU ai s0.tr.ss.length ci) (FU aw s0.ws.length cw)))
 case first=>
  have hS0:=G7 HKS _ (AA W1.heap.size W1).drew;refine wp_region_held (S:=fun V:FW=>V.cell? ⟨k,1+b*10,G5⟩=G6 (.bool s0.up)/\V.cell? ⟨k,1+b*10+1,G5⟩=G6 (FU ad nd cd)/\V.cell? ⟨k,1+b*10+2,G5⟩=G6 (.int .i64 s0.id)/\V.cell? ⟨k,1+b*10+3,G5⟩=G6 (.int .i64 s0.ep)/\V.cell? ⟨k,1+b*10+4,G5⟩=G6 (FU al s0.ts.length cl)/\V.cell? ⟨k,1+b*10+5,G5⟩=G6 (.int .i64 s0.dn)/\V.cell? ⟨k,1+b*10+6,G5⟩=G6 (.int .i64 s0.tr.z)/\V.cell? ⟨k,1+b*10+7,G5⟩=G6 (FU an s0.tr.ns.length cn)/\V.cell? ⟨k,1+b*10+8,G5⟩=G6 (FU ai s0.tr.ss.length ci)/\V.cell? ⟨k,1+b*10+9,G5⟩=G6 (FU aw s0.ws.length cw)) (by kernel_rfl) ?_;change wpAnyH _ _ _ _ _ _ _ _ W1.drew;refine tkH 0 hS0 ?_;refine tkH 1 hS0 ?_;refine tkH 3 hS0 ?_;refine tkH 4 hS0 ?_;refine rd2 2 7 (fun K hK=>?_) (fun K hK=>?_)
  .go_simp;refine(G7 CL _ (AA _ _).drew).mono ?_;rintro e w1 ⟨rfl,hb1⟩;have aB1:Hid (Below W1.heap.size W1 w1):=G8 (GH (AA _ _).drew hb1);clear hb1;have hS1:=G7 HKS _ (G7 aB1);refine nxH hK hS1 ?_;clear hK K;refine tkH 5 hS1 ?_;refine tkH 6 hS1 ?_;refine rd1 7 (fun K hK=>?_);go_simp;have hS2:=G7 HKS _ (GH (G7 aB1) (G9 w1 (FV #[.bool false,FU G5 0 0,.int .i64 0,.int .i64 0,FU G5 0 0,.int .i64 0,.int .i64 0,FU G5 0 0,FU G5 0 0,FU G5 0 0] 40)));refine nxH hK hS2 ?_;clear hK K;refine rd1 8 (fun K hK=>?_);go_simp;have hX2:Hid (BxS W1 _ _ s0 (FU ad nd cd) (FU al s0.ts.length cl) (FU an s0.tr.ns.length cn) (FU ai s0.tr.ss.length ci) (FU aw s0.ws.length cw)):=G8 (CC4 (G7 aB1));have hS3:=G7 HKS _ (G7 hX2).b;refine nxH hK hS3 ?_;clear hK K;refine wpAnyH_done (by kernel_rfl) ?_ _;go_wp2_with fail
   go_meet
   exact⟨_,rfl,hX2⟩
  .go_simp;have hS2:=G7 HKS _ (GH (AA W1.heap.size W1).drew (G9 W1.drew (FV #[.bool false,FU G5 0 0,.int .i64 0,.int .i64 0,FU G5 0 0,.int .i64 0,.int .i64 0,FU G5 0 0,FU G5 0 0,FU G5 0 0] 40)));refine nxH hK hS2 ?_;clear hK K;refine rd1 2 (fun K hK=>?_);go_simp;refine(G7 CL _ (GH (AA _ _).drew (G9 _ _))).mono ?_;rintro e w1 ⟨rfl,hb1⟩;have aB1:Hid (Below W1.heap.size W1 w1):=G8 (GH (GH (AA _ _).drew (G9 _ _)) hb1);have aZ1:Hid (IG w1 W1.heap.size false (FU G5 0 0) 0 0 (FU G5 0 0) 0 0 (FU G5 0 0) (FU G5 0 0) (FU G5 0 0)):=G8 ((hb1.block _ (by simp)).trans (heap_alloc_new W1.drew _));clear hb1;have hS1:=G7 HKS _ (G7 aB1);refine nxH hK hS1 ?_;clear hK K;refine tkH 5 hS1 ?_;refine tkH 6 hS1 ?_;refine rd1 8 (fun K hK=>?_);have z0:=(G7 aZ1).GU 0;have z1:=(G7 aZ1).GU 1;have z2:=(G7 aZ1).GU 2;have z3:=(G7 aZ1).GU 3;have z4:=(G7 aZ1).GU 4;have z5:=(G7 aZ1).GU 5;have z6:=(G7 aZ1).GU 6;have z7:=(G7 aZ1).GU 7;have z8:=(G7 aZ1).GU 8;have z9:=(G7 aZ1).GU 9;obtain⟨x0,x1,x2,x3,x4,x5,x6,x7,x8,x9⟩:=(G7 aZ1).cells;go_simp;have hX2:Hid (BxS W1 _ _ s0 (FU ad nd cd) (FU al s0.ts.length cl) (FU an s0.tr.ns.length cn) (FU ai s0.tr.ss.length ci) (FU aw s0.ws.length cw)):=G8 (CC5 (G7 aB1) (A8 _) (G7 aZ1));have hS3:=G7 HKS _ (G7 hX2).b;refine nxH hK hS3 ?_;clear hK K;refine wpAnyH_done (by kernel_rfl) ?_ _;go_wp2_with fail
   go_meet
   exact⟨_,rfl,hX2⟩
 case rest=>
  obtain⟨q,rfl,HQ⟩:=hcut;have D1:=G8 ((G7 D0).next (G7 HQ).b);have B1:=G8 (G7 D1).b;obtain⟨q0,q1,q2,q3,q4,q5,q6,q7,q8,q9⟩:=(G7 HQ).box.cells;clear HKS CL D0;go_wp2_with fail;refine(G7 CN _ (G7 B1)).mono ?_;rintro e w2 ⟨rfl,hb2⟩;have D2:=G8 ((G7 D1).next hb2);have Q2:=G8 ((G7 HQ).box.next hb2);have hq2:=hb2.size;have hql:=(G7 HQ).le;have hqt:=(G7 HQ).box.lt;have hWg:=(Array.getElem?_eq_some_iff.1 (G7 D2).a).1;clear q0 q1 q2 q3 q4 q5 q6 q7 q8 q9 CN D1 B1 HQ hb2;obtain⟨⟨e0,e1,e2,e3,e4,e5,e6⟩,e7,e8,e9,e10,e11,e12⟩:=AF2 (G7 D2).d;go_upto_region 6 with fail;have D3:=G8 ((G7 D2).next (G9 w2 (FV #[.int .i64 o,.int .i64 s,.string ⟨pp.toArray⟩,.string ⟨dd.toArray⟩,.int .i64 v,.int .i64 f] 56)));have Q3:=G8 ((G7 Q2).next (G9 w2 (FV #[.int .i64 o,.int .i64 s,.string ⟨pp.toArray⟩,.string ⟨dd.toArray⟩,.int .i64 v,.int .i64 f] 56)));have G3:=G8 (RqB.new w2 ⟨o,s,pp,dd,v,f⟩);simp only at G3;generalize w2.alloc _=W3 at*;have hg3:w2.heap.size<W3.heap.size:=(G7 G3).lt;generalize hg:w2.heap.size=g at*;clear D2 Q2 e0 e1 e2 e3 e4 e5 e6 e7 e8 e9 e10 e11 e12 hg;obtain⟨⟨_,e1,_,_,_,_,_⟩,_,_,_,_,_,_⟩:=AF2 (G7 D3).d;obtain⟨g0,g1,g2,g3,g4,g5⟩:=(G7 G3).cells;have gf:=(G7 G3).GU 1;have hdl:=(G7 D3).d.ltz;have hkW3:k<W3.heap.size:=AY hk0 (G7 D3).b.size;have y0:W3.cell? ⟨k,34+c*3,G5⟩=G6 (.int .i64 (p.c c).s):=by
   rw[AX,(G7 D3).b.block k hk0,DK c 3];exact(G7 HC).1
  have hgk:g≠k:=by omega
  have hgW:g≠W.heap.size:=by omega
  simp only at e1 g0 g1 g2 g3 g4 g5;go_region;have B4:=G8 (((G7 D3).b.setCell (p:=⟨g,1,G5⟩) (by simp only;omega) (.int .i64 (p.c c).s)).drew);have A4:=G8 (TAt.next (W:=W3.setCell ⟨g,1,G5⟩ (.int .i64 (p.c c).s)) ((Below.heap_setCell W3 ⟨g,1,G5⟩ (.int .i64 (p.c c).s) _ (by simp only;omega)).trans (G7 D3).a) (AA _ _).drew);have Q4:=G8 (((G7 Q3).other (i:=g) (j:=1) (u:=.int .i64 (p.c c).s) (by omega)).next (AA _ _).drew);have G4:=G8 (((G7 G3).set (p.c c).s).next (AA _ _).drew);generalize World.drew _=W4 at*;clear D3 Q3 G3 e1 g0 g1 g2 g3 g4 g5 gf y0 hgk hgW hkW3;obtain⟨q0,q1,q2,q3,q4,q5,q6,q7,q8,q9⟩:=(G7 Q4).cells;obtain⟨g0,g1,g2,g3,g4,g5⟩:=(G7 G4).cells;simp only at g0 g1 g2 g3 g4 g5;go_wp2_with fail;refine(G7 CP _ (G7 B4) _).mono ?_;rintro e w5 ⟨rfl,hb5⟩;have A5:=(G7 A4).next hb5;obtain⟨a0,a1,a2,a3,a4,a5,a6⟩:w5.cell? ⟨W.heap.size+1,0,G5⟩=G6 (.int .i64 0)/\w5.cell? ⟨W.heap.size+1,1,G5⟩=G6 (.int .i64 0)/\w5.cell? ⟨W.heap.size+1,2,G5⟩=G6 (.int .i64 0)/\w5.cell? ⟨W.heap.size+1,3,G5⟩=G6 (.string ⟨#[]⟩)/\w5.cell? ⟨W.heap.size+1,4,G5⟩=G6 (.string ⟨#[]⟩)/\w5.cell? ⟨W.heap.size+1,5,G5⟩=G6 (.int .i64 0)/\w5.cell? ⟨W.heap.size+1,6,G5⟩=G6 (.int .i64 0):=⟨A5.c0,A5.c1,A5.c2,A5.c3,A5.c4,A5.c5,A5.c6⟩;have f0:=A5.f 0;have f1:=A5.f 1;have f2:=A5.f 2;have f3:=A5.f 3;have f4:=A5.f 4;have f5:=A5.f 5;have f6:=A5.f 6;generalize hXX:AR8 _ _ _=X at*;generalize hEE:gK _ _ _=E at*;have HXX:=G8 hXX;have HEE:=G8 hEE;clear hXX hEE;have B5:=G8 (OU X (GH (G7 B4) hb5) (show W.heap.size<=W.heap.size+1 by omega));clear A5 hb5 B4 A4 Q4 G4 CP;unfold put7 at B5;go_wp2_with fail;exact bodyPost_ret (v:=.tuple #[.agg #[.int .i64 X.z,.int .i64 X.o,.int .i64 X.s,.string ⟨X.p.toArray⟩,.string ⟨X.d.toArray⟩,.int .i64 X.v,.int .i64 X.w],.int .i64 E]) (by simp[results,results53,go_sem,a0,a1,a2,a3,a4,a5,a6]) rfl ⟨by rw[G7 HXX,G7 HEE];rfl,G7 B5⟩
