/-
  Part.
-/
import Derived.Test.YthcncjimjclfpaaGreatDoorLOW
set_option maxRecDepth 20000
set_option maxHeartbeats 8000000
namespace Go.Proofs.YthcncjimjclfpaaGreatDoor
open Go.RowKit Go.Proofs.Tryz
open _root_.Nat renaming le_refl->A8,lt_of_lt_of_le->AX,zero_add->BI,le_trans->BM,mul_comm->DC
open Go.RowKit.Below renaming refl->AA
open _root_.List renaming getElem?_eq_getElem->AL,length_append->AO,getElem?_eq_some_iff->AU,mem_of_getElem?->AZ,getElem?_append_right->BA,getElem?_append_left->BK,pairwise_append->DJ,take_append_drop->DN,take_length->DU,length_map->EG,mem_map->EU
open Go.Value.slice renaming injEq->AP
open Go.World renaming cell?->AV
open _root_.Option.some renaming injEq->BD,inj->BN
open Go.Value renaming ownBlock->D8,slice->FQ
open Go.Sem renaming run_bind->DX,run_pure->EM
open Go.Result renaming andThen_ok->DY
open _root_.List.cons renaming injEq->EC
open Go.Value.agg renaming injEq->EK
open _root_.Array.mk renaming injEq->F5
open Go.Obj renaming cells->FT
open Go renaming World->FU,Value->FV,Calls->FW
open _root_.Option renaming none->FX,some->FZ
variable{r:Rq}{j B k q g i:Nat}{w w' W V:FU}{s:Nat->Ps}{E:Int}{e:Ending}{v vd vl vn vs vw:FV}{α:Type}{p:Pw}{d:Dd}
theorem CO3{r:Nat->Int}(hj:j<3)(h:r j=2)(hb:∀m,m<j->r m≠2):ldP r=j:=by
 unfold ldP;rcases(show j=0\/j=1\/j=2 by omega)with rfl|rfl|rfl
 .rw[if_pos h];rfl
 .rw[if_neg (hb 0 (by omega)),if_pos h];rfl
 .rw[if_neg (hb 0 (by omega)),if_neg (hb 1 (by omega)),if_pos h];rfl
theorem C98{r:Nat->Int}(hb:∀m,m<3->r m≠2):ldP r=-1:=by
 unfold ldP;rw[if_neg (hb 0 (by omega)),if_neg (hb 1 (by omega)),if_neg (hb 2 (by omega))]
theorem C99(r:Nat->Int)(k:Nat)(w:FU)(hc:∀i,i<3->w.cell? ⟨k,31+i,FX⟩=FZ (I0 (r i))):
  FW prog 43 #[FQ (FZ ⟨k,31,FX⟩) 3 3,I0 2] w (R0 w (I0 (ldP r))):=by
 have HC:=G6 hc;clear hc;go_enter func43,ntmps43;go_wp2_with fail
 go_loopg [8] 3 (fun kx s8 wr=>∃j:Nat,s8=I0 j/\j<=3/\3-j<=kx/\Hid (∀m,m<j->r m≠2)/\Hid (B0 w wr/\∀i,i<3->wr.cell? ⟨k,31+i,FX⟩=FZ (I0 (r i))))
 case atStart=>exact⟨0,rfl,by omega,A8 _,G6 (fun m hm=>by omega),G6 ⟨AA _ _,G5 HC⟩⟩
 case round=>
  obtain⟨j,rfl,hj,hg,hh,hB⟩:=hrel;by_cases hlt:j<3
  .have d0:=(G5 hB).2 j hlt;have hjj:(j:Int)<3:=by omega
   by_cases h2:r j=2
   .rw[h2]at d0;have HE:=G6 (CO3 hlt h2 (G5 hh));clear h2;go_wp2_with fail
    try go_quiet (fail)
    go_wp2_with fail;go_ret;exact⟨by rw[G5 HE];rfl,(G5 hB).1⟩
   .have HN:=G6 (fun m (hm:m<j+1)=>(show r m≠2 by
     by_cases e:m=j
     .rw[e];exact h2
     .exact G5 hh m (by omega)))
    have h3:¬2=r j:=fun e=>h2 e.symm;go_wp2_with fail
    try go_quiet (fail)
    go_wp2_with fail
    go_roundg (3-(j+1))
    case measure=>omega
    case rel=>exact⟨j+1,rfl,by omega,A8 _,HN,hB⟩
  .obtain rfl:j=3:=by omega
   have HE:=G6 (C98 (G5 hh));go_wp2_with fail;go_ret;exact⟨by rw[G5 HE];rfl,(G5 hB).1⟩
theorem SC(p:Pw)(k:Nat)(W:FU)(hx:WX W k p):FW prog 29 #[wP k] W (R0 W (I0 (ldP p.r))):=by
 have C:=G6 (C99 p.r k W (fun i hi=>hx.role hi));unfold wP;clear hx;go_enter func29,ntmps29;go_wp2_with fail;refine(G5 C).mono ?_;rintro e w1 ⟨rfl,hb⟩;go_wp2_with fail;go_ret;exact⟨rfl,hb⟩
def B97(w:FU)(s:Sv)(E:Int)(e:Ending)(w':FU):Prop:=
 ∃ad nd cd al cl an cn ai ci aw cw,e=.returned (.tuple #[.agg #[.bool s.up,FQ ad nd cd,I0 s.id,I0 s.ep,FQ al s.ts.length cl,I0 s.dn,I0 s.tr.z,FQ an s.tr.ns.length cn,FQ ai s.tr.ss.length ci,FQ aw s.ws.length cw],I0 E])/\
  Hid (SvV w' (.agg #[.bool s.up,FQ ad nd cd,I0 s.id,I0 s.ep,FQ al s.ts.length cl,I0 s.dn,I0 s.tr.z,FQ an s.tr.ns.length cn,FQ ai s.tr.ss.length ci,FQ aw s.ws.length cw]) s/\(s.tr.ss≠[]->∀k,k<w.heap.size->UG (FQ ai s.tr.ss.length ci) k))/\B0 w w'
theorem sH{s:Sv}(h:aS w s E e w')(hs:s.tr.ss=[]):B97 w s E e w':=by
 obtain⟨v,he,hv,hb⟩:=h;obtain⟨ad,nd,cd,al,cl,an,cn,ai,ci,aw,cw,rfl,_⟩:=hv.five;exact⟨ad,nd,cd,al,cl,an,cn,ai,ci,aw,cw,he,G6 ⟨hv,fun h=>absurd hs h⟩,hb⟩
theorem LK(h:OB B v)(hk:k<B):UG v k:=fun b off n c e=>by have:=h b off n c e;omega
theorem BS0{s:Sv}(h:eU w s E e w'):B97 w s E e w':=by
 obtain⟨ad,nd,cd,al,nl,cl,an,nn,cn,ai,ni,ci,aw,nw,cw,he,hs,hb⟩:=h;obtain⟨hv,hf⟩:=G5 hs;obtain⟨ad',nd',cd',al',cl',an',cn',ai',ci',aw',cw',e5,_⟩:=hv.five;simp only[EK,F5,EC,AP,true_and,and_true]at e5;obtain⟨⟨rfl,rfl,rfl⟩,⟨rfl,rfl,rfl⟩,⟨rfl,rfl,rfl⟩,⟨rfl,rfl,rfl⟩,rfl,rfl,rfl⟩:=e5;exact⟨_,_,_,_,_,_,_,_,_,_,_,he,G6 ⟨hv,fun _ k hk=>LK hf hk⟩,hb⟩
structure SBX(w V:FU)(q:Nat)(s:Sv)(vd vl vn vs vw:FV):Prop where
 b:B0 w V
 le:w.heap.size<=q
 box:IG V q s.up vd s.id s.ep vl s.dn s.tr.z vn vs vw
 v:SvV V (.agg #[.bool s.up,vd,I0 s.id,I0 s.ep,vl,I0 s.dn,I0 s.tr.z,vn,vs,vw]) s
 a:s.tr.ss≠[]->∀k,k<w.heap.size->UG vs k
section
variable {w w1 u:FU} {s:Sv} {ad al an ai aw:Option Addr} {nd cd nl cl nn cn ni ci nw cw:Nat}
theorem fC(hb:B0 w w1)(hv:SvV w1 (.agg #[.bool s.up,FQ ad nd cd,I0 s.id,I0 s.ep,FQ al nl cl,I0 s.dn,I0 s.tr.z,FQ an nn cn,FQ ai ni ci,FQ aw nw cw]) s)(ha:s.tr.ss≠[]->∀k,k<u.heap.size->UG (FQ ai ni ci) k)(hu:w.heap.size<=u.heap.size):
  SBX w (w1.alloc (FT #[.bool s.up,FQ ad nd cd,I0 s.id,I0 s.ep,FQ al nl cl,I0 s.dn,I0 s.tr.z,FQ an nn cn,FQ ai ni ci,FQ aw nw cw] 64)) w1.heap.size s (FQ ad nd cd) (FQ al nl cl) (FQ an nn cn) (FQ ai ni ci) (FQ aw nw cw):=
 ⟨G8 hb (G7 _ _),hb.size,IG.new _ _ _ _ _ _ _ _ _ _ _,hv.alloc _,fun h k hk=>ha h k (by omega)⟩
theorem lT(hb:B0 w w1)(hq:w.heap.size<=q)(hz:IG w1 q false (N0) 0 0 (N0) 0 0 (N0) (N0) (N0))(hv:SvV w1 (.agg #[.bool s.up,FQ ad nd cd,I0 s.id,I0 s.ep,FQ al nl cl,I0 s.dn,I0 s.tr.z,FQ an nn cn,FQ ai ni ci,FQ aw nw cw]) s)(ha:s.tr.ss≠[]->∀k,k<u.heap.size->UG (FQ ai ni ci) k)(hu:q<u.heap.size):
  SBX w (P8 w1 q (.bool s.up) (FQ ad nd cd) (I0 s.id) (I0 s.ep) (FQ al nl cl) (I0 s.dn) (I0 s.tr.z) (FQ an nn cn) (FQ ai ni ci) (FQ aw nw cw)) q s (FQ ad nd cd) (FQ al nl cl) (FQ an nn cn) (FQ ai ni ci) (FQ aw nw cw):=by
 refine⟨JL hb hq _ _ _ _ _ _ _ _ _ _,hq,kX hz _ _ _ _ _ _ _ _ _ _,?_,fun h k hk=>ha h k (by omega)⟩;by_cases h:s.tr.ss=[]
 .have hv2:=hv;obtain⟨vd,vl,vn,vs,vw,e,r1,r2,r3,r4,r5⟩:=hv2;simp only[EK,F5,EC,true_and,and_true]at e;obtain⟨rfl,rfl,rfl,rfl,rfl⟩:=e;have hd:=hz.gU;have hx:SvV (P8 w1 q (.bool s.up) (FQ ad nd cd) (I0 s.id) (I0 s.ep) (FQ al nl cl) (I0 s.dn) (I0 s.tr.z) (FQ an nn cn) (FQ ai ni ci) (FQ aw nw cw)) (.agg #[.bool s.up,FQ ad nd cd,I0 s.id,I0 s.ep,FQ al nl cl,I0 s.dn,I0 s.tr.z,FQ an nn cn,N0,FQ aw nw cw]) s:=
   rC hd (fun vd vl vn vs vw e=>by simp only[EK,F5,EC]at e;rw[<-e.2.2.2.2.2.2.2.2.1];exact wF _ _ _) ⟨_,_,_,_,_,rfl,r1,r2,r3,by rw[h];exact IQ.nil _,r5⟩
  obtain⟨vd,vl,vn,vs,vw,e,q1,q2,q3,q4,q5⟩:=hx;simp only[EK,F5,EC,true_and,and_true]at e;obtain⟨rfl,rfl,rfl,rfl,rfl⟩:=e;refine⟨_,_,_,_,_,rfl,q1,q2,q3,?_,q5⟩;rw[h]at r4⊢;rcases r4 with h4|⟨_,_,_,_,_,_,_,h0,_⟩
  .exact .inl h4
  .exact absurd rfl h0
 .exact rC hz.gU (fun vd vl vn vs vw e=>by simp only[EK,F5,EC]at e;rw[<-e.2.2.2.2.2.2.2.2.1];exact ha h q hu) hv
end
def AF6:List FV:=[I0 0,I0 0,.string ⟨#[]⟩,.string ⟨#[]⟩,I0 0,I0 0,I0 0,I0 0,I0 0,I0 0,I0 0,N0]
theorem RpB.at(h:RpB W g)(hv:W.cell? ⟨g,j,FX⟩=FZ v):AF6[j]?=FZ v:=by
 unfold RpB at h;simpa [AV,h,AF6]using hv
theorem XQ{s:ByteArray}(h:AF6[j]?=FZ (.string s)):j=2\/j=3:=by
 by_cases hj:j<12
 .rcases(show j=0\/j=1\/j=2\/j=3\/j=4\/j=5\/j=6\/j=7\/j=8\/j=9\/j=10\/j=11 by omega)with rfl|rfl|rfl|rfl|rfl|rfl|rfl|rfl|rfl|rfl|rfl|rfl<;>simp[AF6]at h⊢
 .rw[List.getElem?_eq_none (by simp[AF6];omega)]at h;cases h
theorem AQ1{s:ByteArray}(h:AF6[j]?=FZ (.string s)):s=⟨#[]⟩:=by
 rcases XQ h with rfl|rfl<;>simpa [AF6]using h.symm
theorem AF7{n:Int}(h:AF6[j]?=FZ (I0 n)):n=0:=by
 by_cases hj:j<12
 .rcases(show j=0\/j=1\/j=2\/j=3\/j=4\/j=5\/j=6\/j=7\/j=8\/j=9\/j=10\/j=11 by omega)with rfl|rfl|rfl|rfl|rfl|rfl|rfl|rfl|rfl|rfl|rfl|rfl<;>simp[AF6]at h<;>omega
 .rw[List.getElem?_eq_none (by simp[AF6];omega)]at h;cases h
theorem B98{b:Bool}:AF6[j]? ≠FZ (.bool b):=by
 intro h;by_cases hj:j<12
 .rcases(show j=0\/j=1\/j=2\/j=3\/j=4\/j=5\/j=6\/j=7\/j=8\/j=9\/j=10\/j=11 by omega)with rfl|rfl|rfl|rfl|rfl|rfl|rfl|rfl|rfl|rfl|rfl|rfl<;>simp[AF6]at h
 .rw[List.getElem?_eq_none (by simp[AF6];omega)]at h;cases h
theorem YH[Lay α]{xs:List α}(hg:RpB W g)(hv:IQ W v xs)(hno:∀x∈xs,∀off,¬ ∀ (j:Nat) u,j<Lay.k α->(Lay.cs x)[j]?=FZ u->AF6[off+j]?=FZ u)(h0:xs≠[]):UG v g:=by
 intro b off n c e;rcases hv with⟨a,cap,_,e0,_⟩|⟨b',off',cap,rfl,_,_,h3,_,h4⟩
 .exact absurd e0 h0
 .simp only[AP,BD,Addr.mk.injEq]at e;rintro rfl;obtain⟨x,r,rfl⟩:=List.exists_cons_of_ne_nil h0;refine hno x (by simp) off' fun j u hj hu=>hg.at ?_;have:=h4 (0*Lay.k α+j) _ ((GV (x::r) 0 x rfl j hj).trans hu);rw[Nat.zero_mul,BI]at this;rw[<-e.1.1];exact this
section
variable {W:FU} {k g:Nat} {v:FV}
theorem BS1{xs:List DF}(hg:RpB W g)(h:IQ W v xs)(h0:xs≠[]):UG v g:=YH hg h (fun x _ off H=>by
 have a:=XQ (H 0 _ (by decide) rfl);have c:=XQ (H 2 _ (by decide) rfl);omega) h0
theorem B99{xs:List GI}(hg:RpB W g)(h:IQ W v xs)(h0:xs≠[]):UG v g:=YH hg h (fun x _ off H=>by
 have a:=XQ (H 3 _ (by decide) rfl);have c:=XQ (H 4 _ (by decide) rfl);omega) h0
theorem BA0{xs:List En}(hg:RpB W g)(h:IQ W v xs)(h0:xs≠[]):UG v g:=YH hg h (fun x _ off H=>B98 (H 2 _ (by decide) rfl)) h0
theorem A53{xs:List Wa}(hg:RpB W g)(h:IQ W v xs)(hs:∀x∈xs,1<=x.s)(h0:xs≠[]):UG v g:=YH hg h (fun x hx off H=>by
 have a:=AF7 (H 0 _ (by decide) rfl);have:=hs x hx;omega) h0
theorem BS2{xs:List Int}(hg:RpB W g)(h:IQ W v xs)(hs:∀x∈xs,1<=x)(h0:xs≠[]):UG v g:=YH hg h (fun x hx off H=>by
 have a:=AF7 (H 0 _ (by decide) rfl);have:=hs x hx;omega) h0
theorem BA1{xs:List Nd}(hg:RpB W g)(h:IQ W v xs)(hs:∀x∈xs,x.p≠[])(h0:xs≠[]):UG v g:=YH hg h (fun x hx off H=>by
 have a:=AQ1 (H 0 _ (by decide) rfl);have:x.p=[]:=by simpa using a
 exact hs x hx this) h0
theorem Row.far[Lay α]{xs:List α}(h:Row W k v xs)(ht:Touch (· =g) W V)(ha:xs≠[]->UG v g):Row V k v xs:=by
 refine⟨?_,h.2⟩;exact(Row.touch (k:=g) ⟨h.1,ha⟩ ht).1
end
theorem CA0{t:Tr}(h:QI t):∀x∈t.ns,x.p≠[]:=fun x hx e=>by
 have:=(h.nod.ok x hx).path;rw[e]at this;exact absurd this (by decide)
theorem BS3{N:Int}{q:Ps}(ok:LX N q):QI (svP i q).tr/\∀x∈(svP i q).ws,1<=x.s:=by
 cases hu:q.up with
 |true=>rw[IY hu];exact⟨ok.play.good ok.dn,fun x hx=>(ok.wk x hx).1⟩
 |false=>rw[TN hu];exact⟨aX,by simp⟩
theorem WX.reply(h:WX W k p)(hp:∀i,i<3->LX 300 (p.s i))(hg:RpB W g)(hk:k≠g)(ht:Touch (· =g) W V):WX V k p:=by
 obtain⟨f,hb,hr⟩:=h;refine⟨f,hb.touch ht hk,hr.n,fun i hi=>?_,hr.r,fun i hi=>⟨(hr.c i hi).s,(hr.c i hi).z,(hr.c i hi).e.far ht (BA0 hg (hr.c i hi).e.1)⟩,hr.d.far ht (B99 hg hr.d.1),hr.h,hr.hk⟩;obtain⟨gt,gw⟩:=BS3 (i:=i) (hp i hi);have s:=hr.s i hi;exact⟨s.up,s.d.far ht (BS1 hg s.d.1),s.id,s.ep,s.l.far ht (B99 hg s.l.1),s.dn,s.z,s.n.far ht (BA1 hg s.n.1 (CA0 gt)),s.i.far ht (BS2 hg s.i.1 fun x hx=>(gt.ses.2 x hx).1),s.w.far ht (A53 hg s.w.1 gw)⟩
theorem bU(W:FU)(g:Nat)(x0 x1 x2 x3 x4 x5 x6 x7 x8 x9 x10 x11:FV):Touch (· =g) W (gV W g x0 x1 x2 x3 x4 x5 x6 x7 x8 x9 x10 x11):=
 (((((((((((JK _ _ _ _).trans (JK _ _ _ _)).trans (JK _ _ _ _)).trans (JK _ _ _ _)).trans (JK _ _ _ _)).trans (JK _ _ _ _)).trans (JK _ _ _ _)).trans (JK _ _ _ _)).trans (JK _ _ _ _)).trans (JK _ _ _ _)).trans (JK _ _ _ _)).trans (JK _ _ _ _)
structure DT(k:Nat)(w W:FU)(d:Dd):Prop where
 t:Touch (· =k) w W
 r:RpB W (w.heap.size+1)
 d:JG W w.heap.size d
section
variable {k:Nat} {w W V:FU} {d:Dd}
theorem DB.dt(h:DB w W d)(k:Nat):DT k w W d:=⟨Touch.of_below h.b,h.r,h.d⟩
theorem DT.touch(h:DT k w W d)(hk:k<w.heap.size)(ht:Touch (· =k) W V):DT k w V d:=
 ⟨h.t.trans ht,h.r.touch ht (by omega),(ht.block _ h.d.ltz (by omega)).trans h.d⟩
theorem DT.next(h:DT k w W d)(hk:k<w.heap.size)(hb:B0 W V):DT k w V d:=h.touch hk (Touch.of_below hb)
theorem DT.cells(h:DT k w W d):(W.cell? ⟨w.heap.size,0,FX⟩=FZ (I0 d.k)/\W.cell? ⟨w.heap.size,1,FX⟩=FZ (I0 d.c)/\W.cell? ⟨w.heap.size,2,FX⟩=FZ (I0 d.s)/\W.cell? ⟨w.heap.size,3,FX⟩=FZ (I0 d.q.o)/\W.cell? ⟨w.heap.size,4,FX⟩=FZ (I0 d.q.s)/\W.cell? ⟨w.heap.size,5,FX⟩=FZ (S0 d.q.p)/\W.cell? ⟨w.heap.size,6,FX⟩=FZ (S0 d.q.d))/\W.cell? ⟨w.heap.size,7,FX⟩=FZ (I0 d.q.v)/\W.cell? ⟨w.heap.size,8,FX⟩=FZ (I0 d.q.f)/\W.cell? ⟨w.heap.size,9,FX⟩=FZ (I0 d.lo)/\W.cell? ⟨w.heap.size,10,FX⟩=FZ (I0 d.sl)/\W.cell? ⟨w.heap.size,11,FX⟩=FZ (I0 d.ke)/\W.cell? ⟨w.heap.size,12,FX⟩=FZ (.bool d.wt):=by
 have r:=h.d.row;simp only[BI]at r;exact⟨⟨r 0 _ rfl,r 1 _ rfl,r 2 _ rfl,r 3 _ rfl,r 4 _ rfl,r 5 _ rfl,r 6 _ rfl⟩,r 7 _ rfl,r 8 _ rfl,r 9 _ rfl,r 10 _ rfl,r 11 _ rfl,r 12 _ rfl⟩
end
theorem sJ{kd:Int}(hk:k<W.heap.size)(h:DT k W V d)(hx:WX V k p)(hp:∀i,i<3->LX 300 (p.s i)):
  Did W k kd (RY 0,p) (.returned (UM 0)) (gV V (W.heap.size+1) (I0 0) (I0 0) (.string ⟨#[]⟩) (.string ⟨#[]⟩) (I0 0) (I0 0) (I0 0) (I0 0) (I0 0) (I0 0) (I0 0) (N0)):=
 ⟨N0,rfl,.inl ⟨rfl,rfl⟩,KC h.t (by omega) _ _ _ _ _ _ _ _ _ _ _ _,fun _=>hx.reply hp h.r (by omega) (bU _ _ _ _ _ _ _ _ _ _ _ _ _ _)⟩
structure Sl where
 ad:Option Addr
 nd:Nat
 cd:Nat
 al:Option Addr
 cl:Nat
 an:Option Addr
 cn:Nat
 ai:Option Addr
 ci:Nat
 aw:Option Addr
 cw:Nat
def yE(s:Sv)(t:Sl):List FV:=[.bool s.up,FQ t.ad t.nd t.cd,I0 s.id,I0 s.ep,FQ t.al s.ts.length t.cl,I0 s.dn,I0 s.tr.z,FQ t.an s.tr.ns.length t.cn,FQ t.ai s.tr.ss.length t.ci,FQ t.aw s.ws.length t.cw]
def yF(s:Nat->Sv)(t:Nat->Sl):Array FV:=(yE (s 0) (t 0)++(yE (s 1) (t 1)++yE (s 2) (t 2))).toArray
theorem WX.sl(h:WX W k p):∃t:Nat->Sl,∀i,i<3->∀q v,(yE (svP i (p.s i)) (t i))[q]?=FZ v->W.cell? ⟨k,1+10*i+q,FX⟩=FZ v:=by
 have e:∀i,∃t:Sl,i<3->∀q v,(yE (svP i (p.s i)) t)[q]?=FZ v->W.cell? ⟨k,1+10*i+q,FX⟩=FZ v:=fun i=>by
  by_cases hi:i<3
  .obtain⟨ad,nd,cd,al,cl,an,cn,ai,ci,aw,cw,S,_,_⟩:=h.srv hi rfl;refine⟨⟨ad,nd,cd,al,cl,an,cn,ai,ci,aw,cw⟩,fun _ q v hq=>?_⟩;have hq10:q<10:=(AU.1 hq).1;rcases(show q=0\/q=1\/q=2\/q=3\/q=4\/q=5\/q=6\/q=7\/q=8\/q=9 by omega)with rfl|rfl|rfl|rfl|rfl|rfl|rfl|rfl|rfl|rfl
   .exact S.c0.trans hq
   .exact S.c1.trans hq
   .exact S.c2.trans hq
   .exact S.c3.trans hq
   .exact S.c4.trans hq
   .exact S.c5.trans hq
   .exact S.c6.trans hq
   .exact S.c7.trans hq
   .exact S.c8.trans hq
   .exact S.c9.trans hq
  .exact⟨⟨FX,0,0,FX,0,FX,0,FX,0,FX,0⟩,fun h=>absurd h hi⟩
 exact⟨fun i=>(e i).choose,fun i hi=>(e i).choose_spec hi⟩
theorem CX9(s:Nat->Sv)(t:Nat->Sl):∀u:FU,(Instr.index 79 (.agg (yF s t)) (I0 0)).run prog u=.ok (.agg (yE (s 0) (t 0)).toArray) u:=fun _=>by kernel_rfl
theorem CY0(s:Nat->Sv)(t:Nat->Sl):∀u:FU,(Instr.index 79 (.agg (yF s t)) (I0 1)).run prog u=.ok (.agg (yE (s 1) (t 1)).toArray) u:=fun _=>by kernel_rfl
theorem CY1(s:Nat->Sv)(t:Nat->Sl):∀u:FU,(Instr.index 79 (.agg (yF s t)) (I0 2)).run prog u=.ok (.agg (yE (s 2) (t 2)).toArray) u:=fun _=>by kernel_rfl
theorem CA1(s:Nat->Sv)(t:Nat->Sl)(m:Nat)(hm:m<3)(u:FU):(Instr.index 79 (.agg (yF s t)) (I0 m)).run prog u=.ok (.agg (yE (s m) (t m)).toArray) u:=by
 rcases(show m=0\/m=1\/m=2 by omega)with rfl|rfl|rfl
 .exact CX9 s t u
 .exact CY0 s t u
 .exact CY1 s t u
theorem AQ2(w:FU)(k:Nat)(s:Nat->Sv)(t:Nat->Sl)(hc:∀i,i<3->∀q v,(yE (s i) (t i))[q]?=FZ v->w.cell? ⟨k,1+10*i+q,FX⟩=FZ v):
  (Instr.loadAt 79 (.pointer (FZ ⟨k,1,FX⟩))).run prog w=.ok (.agg (yF s t)) w:=by
 have hl:=run_loadCells_list (P:=prog) (w:=w) ⟨k,1,FX⟩ (yF s t).toList (fun j v hj=>by
  rw[Addr.add_lit];show w.cell? ⟨k,1+j,FX⟩=FZ v;have hj':(yE (s 0) (t 0)++(yE (s 1) (t 1)++yE (s 2) (t 2)))[j]?=FZ v:=hj;have l0:(yE (s 0) (t 0)).length=10:=rfl;have l1:(yE (s 1) (t 1)).length=10:=rfl;by_cases h0:j<10
  .rw[BK (by omega)]at hj';exact hc 0 (by omega) j v hj'
  .rw[BA (by omega),l0]at hj';by_cases h1:j<20
   .rw[BK (by omega)]at hj';have:=hc 1 (by omega) (j-10) v hj';rwa[show 1+10*1+(j-10)=1+j by omega]at this
   .rw[BA (by omega),l1]at hj';have:=hc 2 (by omega) (j-10-10) v hj';rwa[show 1+10*2+(j-10-10)=1+j by omega]at this)
 have h30:(yF s t).toList.length=30:=rfl;rw[h30]at hl;simp only[Instr.loadAt,Instr.sureAddr,DX,EM,Result.andThen];unfold loadVar;simp only[DX,isAgg79,sizeOf79,Result.andThen,if_true];rw[hl];rfl
theorem sK{w:FU}{ops:Array Oper}{rest:List Oper}{o:Oper}{a:Act}{Q:Exit->Act->FU->Prop}(hgd:o.guard=FX)(x:Operand)(ho:o.op=.load 79 x)(k:Nat)(s:Nat->Sv)(t:Nat->Sl)
  (hx:a.eval x=.pointer (FZ ⟨k,1,FX⟩)) (hc:∀i,i<3->∀q v,(yE (s i) (t i))[q]?=FZ v->w.cell? ⟨k,1+10*i+q,FX⟩=FZ v)
  (h:wpList prog ops Q rest (a.put o.dst (.agg (yF s t))) w):wpList prog ops Q (o::rest) a w:=by
 refine wpList_plain hgd fun K hK=>?_;have hr:=AQ2 w k s t hc;unfold Oper.wp execOp;simp only[ho,DX,EM,DY,hx,hr];exact hK _ _ h
def vot(s:Nat->Ps)(j:Nat):List Int:=(([0,1,2].take j).filter fun i=>(s i).up).map fun i:Nat=>(i:Int)
theorem CA6(hj:j<3)(h:(s j).up=true):vot s (j+1)=vot s j++[(j:Int)]:=by
 rcases(show j=0\/j=1\/j=2 by omega)with rfl|rfl|rfl<;>simp[vot,List.filter_cons,h]<;>(repeat' split)<;>simp
theorem CO8(hj:j<3)(h:(s j).up=false):vot s (j+1)=vot s j:=by
 rcases(show j=0\/j=1\/j=2 by omega)with rfl|rfl|rfl<;>simp[vot,List.filter_cons,h]
theorem CA7(s:Nat->Ps)(j:Nat):(vot s j).length<=3:=by
 rw[vot,EG];exact BM (List.length_filter_le _ _) (by simp;omega)
theorem CA8(s:Nat->Ps):vot s 3=(JQ s).map fun i:Nat=>(i:Int):=rfl
theorem BS7(i:Nat)(q:Ps):(svP i q).up=q.up:=by
 cases h:q.up
 .rw[TN h]
 .rw[IY h]
theorem lV{U:FU}(h:B0 W V)(hg:V.grownBy U v.ownBlock)(hn:∀g,v.ownBlock=FZ g->W.heap.size<=g):B0 W U:=
 ⟨hg.os.trans h.os,hg.tape.trans h.tape,hg.output.trans h.output,BM h.size hg.size,fun b hb=>(hg.block b (AX hb h.size) (fun e=>by have:=hn b e.symm;omega)).trans (h.block b hb)⟩
theorem BA3[Lay α]{xs:List α}(h:GZ W B v xs):∀g,v.ownBlock=FZ g->B<=g:=fun g hg=>by
 rcases h with⟨rfl,_⟩|⟨g',cap,rfl,hB,_⟩
 .simp[D8]at hg
 .simp only[D8,BD]at hg;omega
theorem pO(p:Pw)(k:Nat)(W:FU)(hx:WX W k p):FW prog 70 #[wP k] W fun e w'=>∃v,e=.returned v/\GZ w' W.heap.size v ((JQ p.s).map fun i:Nat=>(i:Int))/\B0 W w':=by
 obtain⟨t,ht⟩:=hx.sl;have HT:=G6 ht;have IX:=G6 (fun(m:Nat) (hm:m<3) (u:FU)=>CA1 (fun i=>svP i (p.s i)) t m hm u);obtain⟨i0,hi0,hz0,hz1,hz2⟩:=A12;clear hx ht;unfold wP;go_enter func70,ntmps70;go_wp2_with (refine sK rfl _ rfl k (fun i=>svP i (p.s i)) t rfl (G5 HT) ?_);clear HT
 go_loopg [3,10] 3 (fun kx s3 s10 wr=>∃j:Nat,∃a c,s10=I0 j/\s3=FQ a (vot p.s j).length c/\j<=3/\3-j<=kx/\Hid (GZ wr W.heap.size (FQ a (vot p.s j).length c) (vot p.s j)/\B0 W wr))
 case atStart=>exact⟨0,FX,0,rfl,rfl,by omega,A8 _,G6 ⟨.inl ⟨rfl,rfl⟩,AA _ _⟩⟩
 case round=>
  obtain⟨j,a,c,rfl,rfl,hj,hg,HI⟩:=hrel;by_cases hlt:j<3
  .have IXm:=G5 IX j hlt;have hl:=CA7 p.s j;have hjj:(j:Int)<3:=by omega
   have eu:=BS7 j (p.s j);unfold yE at IXm;generalize svP j (p.s j)=s0 at*;generalize t j=tj at*;obtain⟨up,fs,id,ep,ts,dn,tr,ws⟩:=s0;simp only at eu IXm;subst eu;by_cases hu:(p.s j).up=true
   .have HS:=G6 (CA6 hlt hu);rw[hu]at IXm;clear hu;go_upto_region 5 with fail;have B2:=G6 (G8 (G5 HI).2 (G7 wr (FT #[.bool true,FQ tj.ad tj.nd tj.cd,I0 id,I0 ep,FQ tj.al ts.length tj.cl,I0 dn,I0 tr.z,FQ tj.an tr.ns.length tj.cn,FQ tj.ai tr.ss.length tj.ci,FQ tj.aw ws.length tj.cw] 64)));have O2:=G6 ((G5 HI).1.next (G7 wr (FT #[.bool true,FQ tj.ad tj.nd tj.cd,I0 id,I0 ep,FQ tj.al ts.length tj.cl,I0 dn,I0 tr.z,FQ tj.an tr.ns.length tj.cn,FQ tj.ai tr.ss.length tj.ci,FQ tj.aw ws.length tj.cw] 64)));have E2:=(heap_alloc_new wr (FT #[.bool true,FQ tj.ad tj.nd tj.cd,I0 id,I0 ep,FQ tj.al ts.length tj.cl,I0 dn,I0 tr.z,FQ tj.an tr.ns.length tj.cn,FQ tj.ai tr.ss.length tj.ci,FQ tj.aw ws.length tj.cw] 64));generalize wr.alloc _=W2 at*;have e0:W2.cell? ⟨wr.heap.size,0,FX⟩=FZ (.bool true):=by simp[AV,E2]
    clear HI IXm IX E2;have O3:=G6 (fun O=>(G5 O2).next (G7 W2 O));have S3:=G6 (fun O=>BM (G5 B2).size (G7 W2 O).size);go_wp2_with (at_builtin;refine lU rfl _ _ 59 rfl i0 _ 8 underlying59 hi0 hz0 hz1 hz2 rfl (by decide) _ (vot p.s j) rfl W.heap.size (G5 O3 _) W2.heap.size rfl (j:Int) (rF W2 j) (by omega) (by simp only[maxLen];omega) (G5 S3 _) ?_);intro a8 c8 w8 ho8 hg8;have HO:=G6 ho8;have HB:=G6 (lV (G8 (G5 B2) (G7 W2 _)) hg8 (BA3 (G5 O2)));clear ho8 hg8 O3 S3 B2 O2;go_wp2_with fail
    go_roundg (3-(j+1))
    case measure=>omega
    case rel=>exact⟨j+1,a8,c8,by simp,by rw[G5 HS,AO];rfl,by omega,A8 _,G6 ⟨by rw[G5 HS,AO];exact G5 HO,G5 HB⟩⟩
   .have HS:=G6 (CO8 hlt (by simpa using hu));rw[show (p.s j).up=false by simpa using hu]at IXm;clear hu;go_upto_region 5 with fail;have B2:=G6 (G8 (G5 HI).2 (G7 wr (FT #[.bool false,FQ tj.ad tj.nd tj.cd,I0 id,I0 ep,FQ tj.al ts.length tj.cl,I0 dn,I0 tr.z,FQ tj.an tr.ns.length tj.cn,FQ tj.ai tr.ss.length tj.ci,FQ tj.aw ws.length tj.cw] 64)));have O2:=G6 ((G5 HI).1.next (G7 wr (FT #[.bool false,FQ tj.ad tj.nd tj.cd,I0 id,I0 ep,FQ tj.al ts.length tj.cl,I0 dn,I0 tr.z,FQ tj.an tr.ns.length tj.cn,FQ tj.ai tr.ss.length tj.ci,FQ tj.aw ws.length tj.cw] 64)));have E2:=(heap_alloc_new wr (FT #[.bool false,FQ tj.ad tj.nd tj.cd,I0 id,I0 ep,FQ tj.al ts.length tj.cl,I0 dn,I0 tr.z,FQ tj.an tr.ns.length tj.cn,FQ tj.ai tr.ss.length tj.ci,FQ tj.aw ws.length tj.cw] 64));generalize wr.alloc _=W2 at*;have e0:W2.cell? ⟨wr.heap.size,0,FX⟩=FZ (.bool false):=by simp[AV,E2]
    clear HI IXm IX E2;go_wp2_with fail
    go_roundg (3-(j+1))
    case measure=>omega
    case rel=>exact⟨j+1,a,c,by simp,by rw[G5 HS],by omega,A8 _,G6 ⟨by rw[G5 HS];exact G5 O2,G5 B2⟩⟩
  .obtain rfl:j=3:=by omega
   go_wp2_with fail;go_ret;exact⟨_,rfl,by rw[<-CA8];exact(G5 HI).1,(G5 HI).2⟩
theorem WX.sl2(h:WX W k p):∃t:Nat->Sl,∀i,i<3->Srv W k (1+10*i) (svP i (p.s i)).up (svP i (p.s i)).id (svP i (p.s i)).ep (svP i (p.s i)).dn (svP i (p.s i)).tr.z (FQ (t i).ad (t i).nd (t i).cd) (FQ (t i).al (svP i (p.s i)).ts.length (t i).cl) (FQ (t i).an (svP i (p.s i)).tr.ns.length (t i).cn) (FQ (t i).ai (svP i (p.s i)).tr.ss.length (t i).ci) (FQ (t i).aw (svP i (p.s i)).ws.length (t i).cw)/\NV W (FQ (t i).al (svP i (p.s i)).ts.length (t i).cl) (svP i (p.s i)).ts:=by
 have e:∀i,∃t:Sl,i<3->Srv W k (1+10*i) (svP i (p.s i)).up (svP i (p.s i)).id (svP i (p.s i)).ep (svP i (p.s i)).dn (svP i (p.s i)).tr.z (FQ t.ad t.nd t.cd) (FQ t.al (svP i (p.s i)).ts.length t.cl) (FQ t.an (svP i (p.s i)).tr.ns.length t.cn) (FQ t.ai (svP i (p.s i)).tr.ss.length t.ci) (FQ t.aw (svP i (p.s i)).ws.length t.cw)/\NV W (FQ t.al (svP i (p.s i)).ts.length t.cl) (svP i (p.s i)).ts:=fun i=>by
  by_cases hi:i<3
  .obtain⟨ad,nd,cd,al,cl,an,cn,ai,ci,aw,cw,S,hv,_⟩:=h.srv hi rfl;obtain⟨vd,vl,vn,vs,vw,e,_,r2,_⟩:=hv;simp only[EK,F5,EC]at e;exact⟨⟨ad,nd,cd,al,cl,an,cn,ai,ci,aw,cw⟩,fun _=>⟨S,by rw[<-e.2.2.2.2.1]at r2;exact r2⟩⟩
  .exact⟨⟨FX,0,0,FX,0,FX,0,FX,0,FX,0⟩,fun h=>absurd h hi⟩
 exact⟨fun i=>(e i).choose,fun i hi=>(e i).choose_spec hi⟩
noncomputable def peP(p:Pw)(t:Nat->Sl)(i:Nat):Pe:=⟨(svP i (p.s i)).id,(svP i (p.s i)).ep,(t i).al,(t i).cl,(svP i (p.s i)).ts,(svP i (p.s i)).dn⟩
theorem BA4(w:FU)(i e:Int)(a:Option Addr)(c:Nat)(ts:List GI)(d:Int):JG (w.alloc (FT #[I0 i,I0 e,FQ a ts.length c,I0 d] 57)) w.heap.size (⟨i,e,a,c,ts,d⟩:Pe):=heap_alloc_new w _
theorem CO9{t:Nat->Sl}(h:(p.s i).up=true):kk (peP p t i)=((i:Int),(p.s i).e,J3 (p.s i).m):=by
 simp only[kk,peP,IY h]
theorem pR(p:Pw)(k:Nat)(W:FU)(v:FV)(l:List Nat)(hx:WX W k p)(hv:IQ W v (l.map fun i:Nat=>(i:Int)))(hl:∀i∈l,i<3)(hln:l.length<=3):
  FW prog 72 #[wP k,v] W fun e w'=>∃u t,e=.returned u/\GZ w' W.heap.size u (l.map (peP p t))/\rU w' (l.map (peP p t))/\B0 W w':=by
 obtain⟨t,ht⟩:=hx.sl2;have HT:=G6 ht;have HV:=G6 hv;have HL:=G6 hl;have hkl:=hx.lt;obtain⟨i0,hi0,hz0,hz1,hz2⟩:=CX4;obtain⟨a,c,rfl⟩:=GK hv;rw[EG]at HV⊢;clear hx ht hv hl;unfold wP;go_enter func72,ntmps72;go_wp2_with fail
 go_loopg [5,10] l.length (fun kx s5 s10 wr=>∃j:Nat,∃a c,s10=I0 j/\s5=FQ a j c/\j<=l.length/\l.length-j<=kx/\Hid (GZ wr W.heap.size (FQ a j c) ((l.take j).map (peP p t))/\B0 W wr))
 case atStart=>exact⟨0,FX,0,rfl,rfl,by omega,A8 _,G6 ⟨.inl ⟨rfl,rfl⟩,AA _ _⟩⟩
 case round=>
  obtain⟨j,a2,c2,rfl,rfl,hj,hg,HI⟩:=hrel;by_cases hlt:j<l.length
  .obtain⟨i,hi⟩:∃i,l[j]?=FZ i:=⟨_,AL hlt⟩;have hi3:=G5 HL i (AZ hi);have HS:=G6 (show (l.take (j+1)).map (peP p t)=(l.take j).map (peP p t)++[peP p t i] by rw[PY hi,List.map_append];rfl);have hlj:((l.take j).map (peP p t)).length=j:=by simp;omega
   obtain⟨b,off,cap,he,hb,hrow,_,_⟩:=NZ ((G5 HV).next (G5 HI).2) (by intro h0;rw[List.map_eq_nil_iff]at h0;rw[h0]at hlt;simp at hlt);simp only[EG,AP]at he;obtain⟨rfl,_,rfl⟩:=he;have d0:=hrow.i0 (i:=j) (x:=(i:Int)) (by rw[List.getElem?_map,hi];rfl);obtain⟨_,_,e2,e3,e4,e5,_⟩:=(G5 HT i hi3).1.next hkl (G5 HI).2;rw[DC 10 i]at e2 e3 e4 e5;have hjj:(j:Int)<(l.length:Int):=by omega
   have hi4:(i:Int)<3:=by omega
   have B2:=G6 (G5 HI).2;have O2:=G6 (G5 HI).1;clear HI hrow hi HV;generalize hs0:svP i (p.s i)=s0 at*;have HP:Hid (peP p t i=⟨s0.id,s0.ep,(t i).al,(t i).cl,s0.ts,s0.dn⟩):=G6 (by rw[peP,hs0]);clear hs0;have O3:=G6 (fun O=>(G5 O2).next (G7 wr O));have S3:=G6 (fun O=>BM (G5 B2).size (G7 wr O).size);go_wp2_with (at_builtin;refine lU rfl _ _ 150 rfl i0 _ 48 underlying150 hi0 hz0 hz1 hz2 rfl (by decide) _ ((l.take j).map (peP p t)) rfl W.heap.size (G5 O3 _) wr.heap.size rfl (⟨s0.id,s0.ep,(t i).al,(t i).cl,s0.ts,s0.dn⟩:Pe) (BA4 wr _ _ _ _ _ _) (by rw[hlj];omega) (by rw[hlj];simp only[maxLen];omega) (G5 S3 _) ?_);intro a8 c8 w8 ho8 hg8;have HO:=G6 ho8;have HB:=G6 (lV (G8 (G5 B2) (G7 wr _)) hg8 (BA3 (G5 O2)));clear ho8 hg8 O3 S3 B2 O2;go_wp2_with fail
   go_roundg (l.length-(j+1))
   case measure=>omega
   case rel=>exact⟨j+1,a8,c8,by simp,rfl,by omega,A8 _,G6 ⟨by rw[G5 HS,G5 HP,List.map_take];exact G5 HO,G5 HB⟩⟩
  .obtain rfl:j=l.length:=by omega
   rw[DU]at HI;go_wp2_with fail;go_ret;exact⟨_,t,rfl,(G5 HI).1,fun q hq=>by
    obtain⟨i,hi,rfl⟩:=EU.1 hq;exact((G5 HT i (G5 HL i hi)).2).next (G5 HI).2,(G5 HI).2⟩
structure El(p:Pw):Prop where
 ok:∀i,i<3->LX 300 (p.s i)
 cl:∀i,i<16->uD 300 p.H i (p.c i)
 en:1<=eN p.s/\eN p.s<=300
 one:∀i j,i<3->j<3->∀x∈(p.s i).m,∀y∈(p.s j).m,x.z=y.z->x=y
 fol:¬ (JQ p.s).length<2->A46 p.s=false->∀i,i<3->LX 300 (eS p.s i)
 fin:¬ (JQ p.s).length<2->A46 p.s=false->∀i,i<3->LX 300 ((L6 (eS p.s) (JQ p.s)).1 i)
theorem LX.fol{N:Int}{q b:Ps}{e:Int}(hq:LX N q)(hb:LX N b)(he:0<=e/\e<=N)(hd:q.dn<=KY q.m b.m):LX N (pF e b.m q):=
 ⟨hb.log,hb.pos,hb.len,A8 _,he.1,he.2,BM hd (VE q.m b.m).2,hb.play,hq.wl,hq.wk,fun h=>by simp[pF]at h,fun _=>rfl⟩
theorem CY2{q:Pw}(h:QY q)(hn:q.n<300):El (KN q):=by
 have hok:∀i,i<3->LX 300 (q.s i):=fun i hi=>(h.s i hi).more (by omega);refine⟨hok,fun i hi=>(h.c i hi).more (by omega) (fun _ hx=>hx),?_,fun i j hi hj x hx y hy e=>h.a.one x (h.a.hist i hi x (by rw[LH hi];exact hx)) y (h.a.hist j hj y (by rw[LH hj];exact hy)) e,fun h2 hb i hi=>?_,fun h2 hb i hi=>?_⟩
 .have:=BQ9 h;show 1<=eN q.s/\eN q.s<=300;omega
 .show LX 300 (eS q.s i);have hB:=KJ.1 (AE5 (s:=q.s) (show 2<=(JQ q.s).length from Nat.le_of_not_lt h2));unfold eS
  split
  .rename_i hu
   have:=BQ9 h;exact LX.fol (hok i hi) (hok _ hB.1) (by omega) (A50 (s:=q.s) hb (KJ.2 ⟨hi,hu.1⟩))
  .exact hok i hi
 .exact((pJ h hn h2 hb).s i hi).more (by show q.n+1<=300;omega)
theorem AG0(h:∀i,i<3->LX 300 (s i)):BZ0 (QN s) 0:=by
 refine .inl ⟨rfl,fun i k hi=>?_⟩;have hlt:i<(JQ s).length:=by have:=(AU.1 hi).1;rwa[bJ]at this
 unfold QN at hi;rw[List.getElem?_map,AL hlt]at hi;simp only[Option.map_some,BD]at hi;subst hi;have hm:=List.getElem_mem hlt;obtain⟨h3,_⟩:=KJ.1 hm;have ok:=h _ h3;have h0:=ok.e0;have h1:=ok.e1;unfold AD7;rw[if_neg,if_neg (by simp only;omega),if_neg (by simp only;omega)];intro ha;rw[List.any_eq_true]at ha;obtain⟨q,hq,e⟩:=ha;rw[QN,<-List.map_take]at hq;obtain⟨j,hj,rfl⟩:=EU.1 hq;have e':j=(JQ s)[i]:=by
  have:(j:Int)=((JQ s)[i]:Nat):=by simpa using e
  omega
 have hnd:=QS s;rw[<-DN i (JQ s)]at hnd;have hd:(JQ s)[i]∈(JQ s).drop i:=AZ (i:=0) (by rw[List.getElem?_drop];simp[AL hlt]);exact(DJ.1 hnd).2.2 j hj _ hd e'
theorem BS8(h:∀i,i<3->LX 300 (s i))(h2:(JQ s).length<2):CX3 (QN s) 0 0 14:=⟨0,AG0 h,.inr ⟨rfl,.inl ⟨by rw[bJ];exact h2,rfl,rfl,rfl⟩⟩⟩
theorem BA5(h:El p)(h2:¬ (JQ p.s).length<2):CX3 (QN p.s) (MJ (QN p.s) (JQ p.s).length:Nat) (eN p.s) 0:=
 ⟨0,AG0 h.ok,.inr ⟨rfl,.inr ⟨by rw[bJ];omega,.inr ⟨by have:=h.en;unfold eN at this;omega,by rw[bJ],rfl,rfl⟩⟩⟩⟩
theorem BA6(h2:¬ (JQ s).length<2):MJ (QN s) (JQ s).length<(JQ s).length:=by
 have:=XH (QN s) (JQ s).length;omega
theorem CA9(h2:¬ (JQ s).length<2):(JQ s)[MJ (QN s) (JQ s).length]?=FZ (eB s):=by
 have:=BA6 h2;rw[eB,List.getD_eq_getElem?_getD,AL this];rfl
def elS(s:Nat->Ps)(j:Nat):Nat->Ps:=fun k=>if k∈(JQ s).take j then pF (eN s) (s (eB s)).m (s k)else s k
def elR(s:Nat->Ps)(j:Nat):Nat->Int:=fun k=>if k∈(JQ s).take j then 1 else 0
theorem BS9(s:Nat->Ps):elS s 0=s:=by funext k;simp[elS]
theorem BT0(s:Nat->Ps):elR s 0=fun _=>0:=by funext k;simp[elR]
theorem BT1(h:(JQ s)[j]?=FZ i):elS s (j+1)=KU (elS s j) i (pF (eN s) (s (eB s)).m (s i)):=by
 funext k
 unfold elS KU;rw[PY h];by_cases e:k=i
 .subst e;rw[if_pos (by simp),if_pos rfl]
 .rw[if_neg e];congr 1;simp[e]
theorem BT2(h:(JQ s)[j]?=FZ i):elR s (j+1)=KU (elR s j) i 1:=by
 funext k
 unfold elR KU;rw[PY h];by_cases e:k=i
 .subst e;rw[if_pos (by simp),if_pos rfl]
 .rw[if_neg e];congr 1;simp[e]
theorem CB0(s:Nat->Ps):elS s (JQ s).length=eS s:=by
 funext k
 unfold elS eS;rw[DU]
 congr 1
 rw[KJ];exact propext ⟨fun h=>⟨h.2,h.1⟩,fun h=>⟨h.2,h.1⟩⟩
theorem CB1:KU (elR s (JQ s).length) (eB s) 2=eR s:=by
 funext k
 unfold elR eR KU;rw[DU];by_cases e:k=eB s
 .rw[if_pos e,if_pos e]
 .rw[if_neg e,if_neg e];show (if k∈JQ s then(1:Int)else 0)=_
  congr 1
  rw[KJ];exact propext ⟨fun h=>⟨h.2,h.1⟩,fun h=>⟨h.2,h.1⟩⟩
theorem CB3(h:(JQ s)[j]?=FZ i):elS s j i=s i:=by
 unfold elS;rw[if_neg];intro hm;have hnd:=QS s;rw[<-DN j (JQ s)]at hnd;have hd:i∈(JQ s).drop j:=AZ (i:=0) (by rw[List.getElem?_drop];simpa using h);exact(DJ.1 hnd).2.2 i hm i hd rfl
theorem CB5(h:i∈JQ s)(hb:KY (s i).m (s (eB s)).m<(s i).dn):A46 s=true:=by
 unfold A46;rw[List.any_eq_true];exact⟨i,h,by simpa using hb⟩
theorem CP0(h:∀i∈JQ s,(s i).dn<=KY (s i).m (s (eB s)).m):A46 s=false:=by
 unfold A46;rw[List.any_eq_false];intro i hi;have:=h i hi;simp;omega
theorem fF(s:Nat->Ps):(JQ s).length<=3:=BM (List.length_filter_le _ _) (by simp)
theorem CP1(h:ZG W)(hx:WX W k p):1≠k:=by
 intro e;have h1:=h.cell B60 0 (by decide);have h2:=hx.count;rw[<-e]at h2;rw[h2]at h1;simp[Lib.pow10Tab]at h1
theorem ZG.touch{F:Nat->Prop}(h:ZG W)(ht:Touch F W V)(hF:¬F 1):ZG V:=by
 have hlt:=A35 h;unfold ZG Lib.TabIs World.var? at h⊢;simp only[B60,Option.bind_some]at h⊢;rw[ht.block _ hlt hF];exact h
theorem bW(h:ZG W)(hx:WX W k p)(ht:Touch (· =k) W V):ZG V:=h.touch ht (CP1 h hx)
structure BxS(w V:FU)(q:Nat)(s:Sv)(vd vl vn vs vw:FV):Prop where
 b:Below w.heap.size w V
 le:w.heap.size<=q
 box:IG V q s.up vd s.id s.ep vl s.dn s.tr.z vn vs vw
theorem CB6{w1:FU}{s:Sv}(h:Below w.heap.size w w1):BxS w (w1.alloc (FT #[.bool s.up,vd,.int .i64 s.id,.int .i64 s.ep,vl,.int .i64 s.dn,.int .i64 s.tr.z,vn,vs,vw] 64)) w1.heap.size s vd vl vn vs vw:=
 ⟨G8 h (G7 _ _),h.size,IG.new _ _ _ _ _ _ _ _ _ _ _⟩
theorem CB7{w1:FU}{s:Sv}(h:Below w.heap.size w w1)(hq:w.heap.size<=q)(hz:IG w1 q false (FQ FX 0 0) 0 0 (FQ FX 0 0) 0 0 (FQ FX 0 0) (FQ FX 0 0) (FQ FX 0 0)):BxS w (P8 w1 q (.bool s.up) vd (.int .i64 s.id) (.int .i64 s.ep) vl (.int .i64 s.dn) (.int .i64 s.tr.z) vn vs vw) q s vd vl vn vs vw:=
 ⟨JL h hq _ _ _ _ _ _ _ _ _ _,hq,kX hz _ _ _ _ _ _ _ _ _ _⟩
def RqB(W:FU)(g:Nat)(r:Rq):Prop:=W.heap[g]?=FZ (FT #[.int .i64 r.o,.int .i64 r.s,.string ⟨r.p.toArray⟩,.string ⟨r.d.toArray⟩,.int .i64 r.v,.int .i64 r.f] 29 (0,0))
theorem RqB.new(w:FU)(r:Rq):RqB (w.alloc (FT #[.int .i64 r.o,.int .i64 r.s,.string ⟨r.p.toArray⟩,.string ⟨r.d.toArray⟩,.int .i64 r.v,.int .i64 r.f] 29)) w.heap.size r:=heap_alloc_new w _
theorem RqB.lt(h:RqB W g r):g<W.heap.size:=(Array.getElem?_eq_some_iff.1 h).1
theorem RqB.next(h:RqB W g r)(hb:Below W.heap.size W V):RqB V g r:=(hb.block g h.lt).trans h
theorem RqB.cells(h:RqB W g r):W.cell? ⟨g,0,FX⟩=FZ (.int .i64 r.o)/\W.cell? ⟨g,1,FX⟩=FZ (.int .i64 r.s)/\W.cell? ⟨g,2,FX⟩=FZ (.string ⟨r.p.toArray⟩)/\W.cell? ⟨g,3,FX⟩=FZ (.string ⟨r.d.toArray⟩)/\W.cell? ⟨g,4,FX⟩=FZ (.int .i64 r.v)/\W.cell? ⟨g,5,FX⟩=FZ (.int .i64 r.f):=by
 unfold RqB at h;refine⟨?_,?_,?_,?_,?_,?_⟩<;>simp[AV,h]
theorem RqB.GN(h:RqB W g r)(j:Nat):W.frozen? ⟨g,j,FX⟩=false:=by
 unfold RqB at h;simp[World.frozen?,h]
theorem RqB.set(h:RqB W g r)(s:Int):RqB (W.setCell ⟨g,1,FX⟩ (.int .i64 s)) g ⟨r.o,s,r.p,r.d,r.v,r.f⟩:=by
 unfold RqB at h⊢;rw[GL _ h];rfl
structure PP(w W:FU)(d:Dd):Prop where
 b:Below w.heap.size w W
 a:TAt W (w.heap.size+1) t0
 d:JG W w.heap.size d
theorem PP.start(w:FU)(d:Dd):PP w ((w.alloc (FT #[.int .i64 d.k,.int .i64 d.c,.int .i64 d.s,.int .i64 d.q.o,.int .i64 d.q.s,.string ⟨d.q.p.toArray⟩,.string ⟨d.q.d.toArray⟩,.int .i64 d.q.v,.int .i64 d.q.f,.int .i64 d.lo,.int .i64 d.sl,.int .i64 d.ke,.bool d.wt] 31)).alloc (FT #[.int .i64 0,.int .i64 0,.int .i64 0,.string ⟨#[]⟩,.string ⟨#[]⟩,.int .i64 0,.int .i64 0] 93)) d:=by
 exact⟨G8 (G7 _ _) (G7 _ _),bT _ _ _,JG.TW (heap_alloc_new w _:JG (w.alloc _) w.heap.size d) (G7 _ _) (by simp)⟩
theorem PP.next(h:PP w W d)(hb:Below W.heap.size W V):PP w V d:=⟨G8 h.b hb,h.a.next hb,h.d.TW hb h.d.ltz⟩
theorem AG2(h:JG W g d):(W.cell? ⟨g,0,FX⟩=FZ (.int .i64 d.k)/\W.cell? ⟨g,1,FX⟩=FZ (.int .i64 d.c)/\W.cell? ⟨g,2,FX⟩=FZ (.int .i64 d.s)/\W.cell? ⟨g,3,FX⟩=FZ (.int .i64 d.q.o)/\W.cell? ⟨g,4,FX⟩=FZ (.int .i64 d.q.s)/\W.cell? ⟨g,5,FX⟩=FZ (.string ⟨d.q.p.toArray⟩)/\W.cell? ⟨g,6,FX⟩=FZ (.string ⟨d.q.d.toArray⟩))/\W.cell? ⟨g,7,FX⟩=FZ (.int .i64 d.q.v)/\W.cell? ⟨g,8,FX⟩=FZ (.int .i64 d.q.f)/\W.cell? ⟨g,9,FX⟩=FZ (.int .i64 d.lo)/\W.cell? ⟨g,10,FX⟩=FZ (.int .i64 d.sl)/\W.cell? ⟨g,11,FX⟩=FZ (.int .i64 d.ke)/\W.cell? ⟨g,12,FX⟩=FZ (.bool d.wt):=by
 have r:=h.row;simp only[BI]at r;exact⟨⟨r 0 _ rfl,r 1 _ rfl,r 2 _ rfl,r 3 _ rfl,r 4 _ rfl,r 5 _ rfl,r 6 _ rfl⟩,r 7 _ rfl,r 8 _ rfl,r 9 _ rfl,r 10 _ rfl,r 11 _ rfl,r 12 _ rfl⟩
theorem gI(p:Pw)(d:Dd)(k b:Nat)(W:FU)(hx:WX W k p)(hT:ZG W)(hb:b<3)(hl:ldP p.r=b)(hu:(p.s b).up=true)(hok:LX 300 (p.s b))(hn:nxE (p.s b).e (J3 (p.s b).m)=0)(hc:0<=d.c/\d.c<16)(hp:d.q.p.length<=140737488355328)(hd:d.q.d.length<=140737488355328):
  FW prog 60 #[wP k,ddV d] W fun e w'=>e=.returned (.tuple #[J7 (wX p d),.int .i64 (wE p d)])/\Below W.heap.size W w':=by
 have D0:=G6 (PP.start W d);obtain⟨c,hc16,hdc⟩:∃c:Nat,c<16/\d.c=c:=⟨d.c.toNat,by omega,by omega⟩;obtain⟨ad,nd,cd,al,cl,an,cn,ai,ci,aw,cw,SS,hv,_⟩:=hx.srv hb rfl;obtain⟨ca,cc,k0,k1,k2,_⟩:=hx.cl hc16;have hsv:=IY (i:=b) hu;have CL:=G6 (fun V (hV:Below W.heap.size W V)=>SC p k V (hx.next hV));rw[hl]at CL;have HV:=G6 (fun V (hV:Below W.heap.size W V)=>hv.next hV);have CN:=G6 (fun V (hV:Below W.heap.size W V)=>BQ3 ⟨(svP b (p.s b)).id,(svP b (p.s b)).ep,al,cl,(svP b (p.s b)).ts,(svP b (p.s b)).dn⟩ V (by
  obtain⟨_,_,_,_,_,e,_,r2,_,_,_⟩:=hv.next hV;simp only[EK,F5,EC,true_and,and_true]at e;rw[<-e.2.1]at r2;exact r2))
 have HT:=G6 hT;have hgt:QI (svP b (p.s b)).tr:=by rw[hsv];exact hok.play.good hok.dn
 have CP:=G6 (fun V (hV:Below W.heap.size W V) (z:Int)=>A59 (svP b (p.s b)).tr z (FQ an (svP b (p.s b)).tr.ns.length cn) (FQ ai (svP b (p.s b)).tr.ss.length ci) (wQ p d) V (by
  obtain⟨_,_,_,_,_,e,_,_,r3,_,_⟩:=hv.next hV;simp only[EK,F5,EC,true_and,and_true]at e;rw[<-e.2.2.1]at r3;exact r3) (by
  obtain⟨_,_,_,_,_,e,_,_,_,r4,_⟩:=hv.next hV;simp only[EK,F5,EC,true_and,and_true]at e;rw[<-e.2.2.2.1]at r4;exact r4) hgt.pwf hp hd ((G5 HT).next hV))
 have HE:Hid (wX p d=AS9 (svP b (p.s b)).tr (nxN (svP b (p.s b)).ep (J3 (svP b (p.s b)).ts)) (wQ p d)/\wE p d=gK (svP b (p.s b)).tr (nxN (svP b (p.s b)).ep (J3 (svP b (p.s b)).ts)) (wQ p d)):=G6 (by
  have hln:ldN p.r=b:=by rw[ldN,hl];simp
  rw[wX,wE,wTr,wZ,hln,hsv];exact⟨rfl,rfl⟩)
 have hne:nxE (svP b (p.s b)).ep (J3 (svP b (p.s b)).ts)=0:=by rw[hsv];exact hn
 rw[hne]at CN;have hdn:(p.c d.c.toNat).s=(p.c c).s:=by rw[hdc];rfl
 have HQ:Hid (wQ p d=⟨d.q.o,(p.c c).s,d.q.p,d.q.d,d.q.v,d.q.f⟩):=G6 (by rw[wQ,hdn]);have HX:=G6 hx;obtain⟨dk,dc,ds,⟨o,s,pp,dd,v,f⟩,lo,sl,ke,wt⟩:=d;simp only at hdc HQ;subst hdc;rw[(G5 HE).1,(G5 HE).2];rw[G5 HQ]at CP⊢;clear HQ HE;generalize hs0:svP b (p.s b)=s0 at*;unfold wP ddV;have HS:=G6 (fun V (hV:Below W.heap.size W V)=>SS.next hx.lt hV);simp only[DC 10 b]at HS;have HC:=G6 (And.intro k0 (And.intro k1 k2));have hk0:=hx.lt;have hb4:(b:Int)<3:=by omega
 have hc4:(c:Int)<16:=by omega
 unfold peV at CN;unfold rqV AG1 J7 at CP;clear SS hv k0 k1 k2 hsv hl hT hgt hn hne hc hp hd hx hs0 hok hu hdn;go_enter func60,ntmps60;go_upto_region 1 with fail;generalize ((W.alloc _).alloc _)=W1 at*;have hkW:k<W1.heap.size:=AX hk0 (G5 D0).b.size;have HKS:Hid (∀V,Below W1.heap.size W1 V->V.cell? ⟨k,1+b*10,FX⟩=FZ (.bool s0.up)/\V.cell? ⟨k,1+b*10+1,FX⟩=FZ (FQ ad nd cd)/\V.cell? ⟨k,1+b*10+2,FX⟩=FZ (.int .i64 s0.id)/\V.cell? ⟨k,1+b*10+3,FX⟩=FZ (.int .i64 s0.ep)/\V.cell? ⟨k,1+b*10+4,FX⟩=FZ (FQ al s0.ts.length cl)/\V.cell? ⟨k,1+b*10+5,FX⟩=FZ (.int .i64 s0.dn)/\V.cell? ⟨k,1+b*10+6,FX⟩=FZ (.int .i64 s0.tr.z)/\V.cell? ⟨k,1+b*10+7,FX⟩=FZ (FQ an s0.tr.ns.length cn)/\V.cell? ⟨k,1+b*10+8,FX⟩=FZ (FQ ai s0.tr.ss.length ci)/\V.cell? ⟨k,1+b*10+9,FX⟩=FZ (FQ aw s0.ws.length cw)):=G6 fun V hV=>by
  obtain⟨c0,c1,c2,c3,c4,c5,c6,c7,c8,c9⟩:=G5 HS V (G8 (G5 D0).b hV);exact⟨c0,c1,c2,c3,c4,c5,c6,c7,c8,c9⟩
 replace CL:=G6 (fun V (hV:Below W1.heap.size W1 V)=>G5 CL V (G8 (G5 D0).b hV))
 go_cut [6]from 10 (fun t6 wx=>∃q,t6=.pointer (FZ ⟨q,0,FX⟩)/\Hid (BxS W1 wx q s0 (FQ ad nd cd) (FQ al s0.ts.length cl) (FQ an s0.tr.ns.length cn) (FQ ai s0.tr.ss.length ci) (FQ aw s0.ws.length cw)))
 case first=>
  have hS0:=G5 HKS _ (AA W1.heap.size W1).drew;refine wp_region_held (S:=fun V:FU=>V.cell? ⟨k,1+b*10,FX⟩=FZ (.bool s0.up)/\V.cell? ⟨k,1+b*10+1,FX⟩=FZ (FQ ad nd cd)/\V.cell? ⟨k,1+b*10+2,FX⟩=FZ (.int .i64 s0.id)/\V.cell? ⟨k,1+b*10+3,FX⟩=FZ (.int .i64 s0.ep)/\V.cell? ⟨k,1+b*10+4,FX⟩=FZ (FQ al s0.ts.length cl)/\V.cell? ⟨k,1+b*10+5,FX⟩=FZ (.int .i64 s0.dn)/\V.cell? ⟨k,1+b*10+6,FX⟩=FZ (.int .i64 s0.tr.z)/\V.cell? ⟨k,1+b*10+7,FX⟩=FZ (FQ an s0.tr.ns.length cn)/\V.cell? ⟨k,1+b*10+8,FX⟩=FZ (FQ ai s0.tr.ss.length ci)/\V.cell? ⟨k,1+b*10+9,FX⟩=FZ (FQ aw s0.ws.length cw)) (by kernel_rfl) ?_;change wpAnyH _ _ _ _ _ _ _ _ W1.drew;refine tkH 0 hS0 ?_;refine tkH 1 hS0 ?_;refine tkH 3 hS0 ?_;refine tkH 4 hS0 ?_;refine rd2 2 7 (fun K hK=>?_) (fun K hK=>?_)
  .go_simp;refine(G5 CL _ (AA _ _).drew).mono ?_;rintro e w1 ⟨rfl,hb1⟩;have aB1:Hid (Below W1.heap.size W1 w1):=G6 (G8 (AA _ _).drew hb1);clear hb1;have hS1:=G5 HKS _ (G5 aB1);refine nxH hK hS1 ?_;clear hK K;refine tkH 5 hS1 ?_;refine tkH 6 hS1 ?_;refine rd1 7 (fun K hK=>?_);go_simp;have hS2:=G5 HKS _ (G8 (G5 aB1) (G7 w1 (FT #[.bool false,FQ FX 0 0,.int .i64 0,.int .i64 0,FQ FX 0 0,.int .i64 0,.int .i64 0,FQ FX 0 0,FQ FX 0 0,FQ FX 0 0] 64)));refine nxH hK hS2 ?_;clear hK K;refine rd1 8 (fun K hK=>?_);go_simp;have hX2:Hid (BxS W1 _ _ s0 (FQ ad nd cd) (FQ al s0.ts.length cl) (FQ an s0.tr.ns.length cn) (FQ ai s0.tr.ss.length ci) (FQ aw s0.ws.length cw)):=G6 (CB6 (G5 aB1));have hS3:=G5 HKS _ (G5 hX2).b;refine nxH hK hS3 ?_;clear hK K;refine wpAnyH_done (by kernel_rfl) ?_ _;go_wp2_with fail
   go_meet
   exact⟨_,rfl,hX2⟩
  .go_simp;have hS2:=G5 HKS _ (G8 (AA W1.heap.size W1).drew (G7 W1.drew (FT #[.bool false,FQ FX 0 0,.int .i64 0,.int .i64 0,FQ FX 0 0,.int .i64 0,.int .i64 0,FQ FX 0 0,FQ FX 0 0,FQ FX 0 0] 64)));refine nxH hK hS2 ?_;clear hK K;refine rd1 2 (fun K hK=>?_);go_simp;refine(G5 CL _ (G8 (AA _ _).drew (G7 _ _))).mono ?_;rintro e w1 ⟨rfl,hb1⟩;have aB1:Hid (Below W1.heap.size W1 w1):=G6 (G8 (G8 (AA _ _).drew (G7 _ _)) hb1);have aZ1:Hid (IG w1 W1.heap.size false (FQ FX 0 0) 0 0 (FQ FX 0 0) 0 0 (FQ FX 0 0) (FQ FX 0 0) (FQ FX 0 0)):=G6 ((hb1.block _ (by simp)).trans (heap_alloc_new W1.drew _));clear hb1;have hS1:=G5 HKS _ (G5 aB1);refine nxH hK hS1 ?_;clear hK K;refine tkH 5 hS1 ?_;refine tkH 6 hS1 ?_;refine rd1 8 (fun K hK=>?_);have z0:=(G5 aZ1).GN 0;have z1:=(G5 aZ1).GN 1;have z2:=(G5 aZ1).GN 2;have z3:=(G5 aZ1).GN 3;have z4:=(G5 aZ1).GN 4;have z5:=(G5 aZ1).GN 5;have z6:=(G5 aZ1).GN 6;have z7:=(G5 aZ1).GN 7;have z8:=(G5 aZ1).GN 8;have z9:=(G5 aZ1).GN 9;obtain⟨x0,x1,x2,x3,x4,x5,x6,x7,x8,x9⟩:=(G5 aZ1).cells;go_simp;have hX2:Hid (BxS W1 _ _ s0 (FQ ad nd cd) (FQ al s0.ts.length cl) (FQ an s0.tr.ns.length cn) (FQ ai s0.tr.ss.length ci) (FQ aw s0.ws.length cw)):=G6 (CB7 (G5 aB1) (A8 _) (G5 aZ1));have hS3:=G5 HKS _ (G5 hX2).b;refine nxH hK hS3 ?_;clear hK K;refine wpAnyH_done (by kernel_rfl) ?_ _;go_wp2_with fail
   go_meet
   exact⟨_,rfl,hX2⟩
 case rest=>
  obtain⟨q,rfl,HQ⟩:=hcut;have D1:=G6 ((G5 D0).next (G5 HQ).b);have B1:=G6 (G5 D1).b;obtain⟨q0,q1,q2,q3,q4,q5,q6,q7,q8,q9⟩:=(G5 HQ).box.cells;clear HKS CL D0;go_wp2_with fail;refine(G5 CN _ (G5 B1)).mono ?_;rintro e w2 ⟨rfl,hb2⟩;have D2:=G6 ((G5 D1).next hb2);have Q2:=G6 ((G5 HQ).box.next hb2);have hq2:=hb2.size;have hql:=(G5 HQ).le;have hqt:=(G5 HQ).box.lt;have hWg:=(Array.getElem?_eq_some_iff.1 (G5 D2).a).1;clear q0 q1 q2 q3 q4 q5 q6 q7 q8 q9 CN D1 B1 HQ hb2;obtain⟨⟨e0,e1,e2,e3,e4,e5,e6⟩,e7,e8,e9,e10,e11,e12⟩:=AG2 (G5 D2).d;go_upto_region 6 with fail;have D3:=G6 ((G5 D2).next (G7 w2 (FT #[.int .i64 o,.int .i64 s,.string ⟨pp.toArray⟩,.string ⟨dd.toArray⟩,.int .i64 v,.int .i64 f] 29)));have Q3:=G6 ((G5 Q2).next (G7 w2 (FT #[.int .i64 o,.int .i64 s,.string ⟨pp.toArray⟩,.string ⟨dd.toArray⟩,.int .i64 v,.int .i64 f] 29)));have G3:=G6 (RqB.new w2 ⟨o,s,pp,dd,v,f⟩);simp only at G3;generalize w2.alloc _=W3 at*;have hg3:w2.heap.size<W3.heap.size:=(G5 G3).lt;generalize hg:w2.heap.size=g at*;clear D2 Q2 e0 e1 e2 e3 e4 e5 e6 e7 e8 e9 e10 e11 e12 hg;obtain⟨⟨_,e1,_,_,_,_,_⟩,_,_,_,_,_,_⟩:=AG2 (G5 D3).d;obtain⟨g0,g1,g2,g3,g4,g5⟩:=(G5 G3).cells;have gf:=(G5 G3).GN 1;have hdl:=(G5 D3).d.ltz;have hkW3:k<W3.heap.size:=AX hk0 (G5 D3).b.size;have y0:W3.cell? ⟨k,34+c*3,FX⟩=FZ (.int .i64 (p.c c).s):=by
   rw[AV,(G5 D3).b.block k hk0,DC c 3];exact(G5 HC).1
  have hgk:g≠k:=by omega
  have hgW:g≠W.heap.size:=by omega
  simp only at e1 g0 g1 g2 g3 g4 g5;go_region;have B4:=G6 (((G5 D3).b.setCell (p:=⟨g,1,FX⟩) (by simp only;omega) (.int .i64 (p.c c).s)).drew);have A4:=G6 (TAt.next (W:=W3.setCell ⟨g,1,FX⟩ (.int .i64 (p.c c).s)) ((Below.heap_setCell W3 ⟨g,1,FX⟩ (.int .i64 (p.c c).s) _ (by simp only;omega)).trans (G5 D3).a) (AA _ _).drew);have Q4:=G6 (((G5 Q3).other (i:=g) (j:=1) (u:=.int .i64 (p.c c).s) (by omega)).next (AA _ _).drew);have G4:=G6 (((G5 G3).set (p.c c).s).next (AA _ _).drew);generalize World.drew _=W4 at*;clear D3 Q3 G3 e1 g0 g1 g2 g3 g4 g5 gf y0 hgk hgW hkW3;obtain⟨q0,q1,q2,q3,q4,q5,q6,q7,q8,q9⟩:=(G5 Q4).cells;obtain⟨g0,g1,g2,g3,g4,g5⟩:=(G5 G4).cells;simp only at g0 g1 g2 g3 g4 g5;go_wp2_with fail;refine(G5 CP _ (G5 B4) _).mono ?_;rintro e w5 ⟨rfl,hb5⟩;have A5:=(G5 A4).next hb5;obtain⟨a0,a1,a2,a3,a4,a5,a6⟩:w5.cell? ⟨W.heap.size+1,0,FX⟩=FZ (.int .i64 0)/\w5.cell? ⟨W.heap.size+1,1,FX⟩=FZ (.int .i64 0)/\w5.cell? ⟨W.heap.size+1,2,FX⟩=FZ (.int .i64 0)/\w5.cell? ⟨W.heap.size+1,3,FX⟩=FZ (.string ⟨#[]⟩)/\w5.cell? ⟨W.heap.size+1,4,FX⟩=FZ (.string ⟨#[]⟩)/\w5.cell? ⟨W.heap.size+1,5,FX⟩=FZ (.int .i64 0)/\w5.cell? ⟨W.heap.size+1,6,FX⟩=FZ (.int .i64 0):=⟨A5.c0,A5.c1,A5.c2,A5.c3,A5.c4,A5.c5,A5.c6⟩;have f0:=A5.f 0;have f1:=A5.f 1;have f2:=A5.f 2;have f3:=A5.f 3;have f4:=A5.f 4;have f5:=A5.f 5;have f6:=A5.f 6;generalize hXX:AS9 _ _ _=X at*;generalize hEE:gK _ _ _=E at*;have HXX:=G6 hXX;have HEE:=G6 hEE;clear hXX hEE;have B5:=G6 (OT X (G8 (G5 B4) hb5) (show W.heap.size<=W.heap.size+1 by omega));clear A5 hb5 B4 A4 Q4 G4 CP;unfold put7 at B5;go_wp2_with fail;exact bodyPost_ret (v:=.tuple #[.agg #[.int .i64 X.z,.int .i64 X.o,.int .i64 X.s,.string ⟨X.p.toArray⟩,.string ⟨X.d.toArray⟩,.int .i64 X.v,.int .i64 X.w],.int .i64 E]) (by simp[results,results60,go_sem,a0,a1,a2,a3,a4,a5,a6]) rfl ⟨by rw[G5 HXX,G5 HEE];rfl,G5 B5⟩
structure Off(f:Nat->FV)(p:Pw)(g:Nat):Prop where
 d:∀i,i<3->(svP i (p.s i)).fs≠[]->UG (f (1+10*i+1)) g
 l:∀i,i<3->(svP i (p.s i)).ts≠[]->UG (f (1+10*i+4)) g
 n:∀i,i<3->(svP i (p.s i)).tr.ns≠[]->UG (f (1+10*i+7)) g
 i:∀i,i<3->(svP i (p.s i)).tr.ss≠[]->UG (f (1+10*i+8)) g
 w:∀i,i<3->(svP i (p.s i)).ws≠[]->UG (f (1+10*i+9)) g
 c:∀i,i<16->(p.c i).es≠[]->UG (f (34+3*i+2)) g
 a:p.D≠[]->UG (f 82) g
def WXO(W:FU)(k:Nat)(p:Pw)(v:FV):Prop:=∃f,WB W k f/\WdR W k f p/\∀g,v.ownBlock=FZ g->Off f p g
theorem WXO.x(h:WXO W k p v):WX W k p:=by
 obtain⟨f,h1,h2,_⟩:=h;exact⟨f,h1,h2⟩
theorem A60{f:Nat->FV}(h:WdR W k f p)(hg:W.heap.size<=g):Off f p g:=
 ⟨fun i hi h0=>(Row.new (h.s i hi).d.1 hg).2 h0,fun i hi h0=>(Row.new (h.s i hi).l.1 hg).2 h0,fun i hi h0=>(Row.new (h.s i hi).n.1 hg).2 h0,fun i hi h0=>(Row.new (h.s i hi).i.1 hg).2 h0,fun i hi h0=>(Row.new (h.s i hi).w.1 hg).2 h0,fun i hi h0=>(Row.new (h.c i hi).e.1 hg).2 h0,fun h0=>(Row.new h.d.1 hg).2 h0⟩
theorem WX.off(h:WX W k p):WXO W k p (N0):=by
 obtain⟨f,h1,h2⟩:=h;exact⟨f,h1,h2,fun g hg=>by simp[D8]at hg⟩
theorem WXO.far(h:WXO W k p v)(hv:v.ownBlock=FZ g)(hk:k≠g)(ht:Touch (· =g) W V):WXO V k p v:=by
 obtain⟨f,hb,hr,ho⟩:=h;have o:=ho g hv;refine⟨f,hb.touch ht hk,⟨hr.n,fun i hi=>?_,hr.r,fun i hi=>⟨(hr.c i hi).s,(hr.c i hi).z,(hr.c i hi).e.far ht (o.c i hi)⟩,hr.d.far ht o.a,hr.h,hr.hk⟩,ho⟩;have s:=hr.s i hi;exact⟨s.up,s.d.far ht (o.d i hi),s.id,s.ep,s.l.far ht (o.l i hi),s.dn,s.z,s.n.far ht (o.n i hi),s.i.far ht (o.i i hi),s.w.far ht (o.w i hi)⟩
theorem WXO.next(h:WXO W k p v)(hb:B0 W V):WXO V k p v:=by
 obtain⟨f,h1,h2,h3⟩:=h;exact⟨f,h1.next hb,h2.next hb,h3⟩
theorem WXO.grown{v':FV}(h:WXO W k p v)(hk:∀g,v.ownBlock=FZ g->k≠g)(hg:W.grownBy V v.ownBlock)(hn:∀g,v'.ownBlock=FZ g->v.ownBlock=FZ g\/W.heap.size<=g):WXO V k p v':=by
 have h1:WXO V k p v/\∀f,WB W k f->WdR W k f p->∀g,W.heap.size<=g->Off f p g:=⟨by
  cases e:v.ownBlock with
  |none=>exact h.next (by rw[e]at hg;exact⟨hg.os,hg.tape,hg.output,hg.size,fun b hb=>hg.block b hb (by simp)⟩)
  |some g=>exact h.far e (hk g e) ⟨hg.os,hg.tape,hg.output,hg.size,fun b hb hne=>hg.block b hb (by rw[e];intro e';exact hne (BN e'))⟩,fun f _ hr g hg=>A60 hr hg⟩
 obtain⟨f,hb,hr,ho⟩:=h;obtain⟨f1,hb1,hr1,ho1⟩:=h1.1;have ef:∀j,j<83->f1 j=f j:=fun j hj=>by
  have c1:=hb1.cell hj;have c2:=hb.cell hj;have:V.cell? ⟨k,j,FX⟩=W.cell? ⟨k,j,FX⟩:=by
   rw[AV,AV,hg.block k hb.lt (fun e=>hk k e.symm rfl)]
  rw[this,c2]at c1;exact(BN c1).symm
 refine⟨f1,hb1,hr1,fun g hg'=>?_⟩;rcases hn g hg' with e|e
 .exact ho1 g e
 .have o:=A60 hr e;exact⟨fun i hi h0=>by rw[ef _ (by omega)];exact o.d i hi h0,fun i hi h0=>by rw[ef _ (by omega)];exact o.l i hi h0,fun i hi h0=>by rw[ef _ (by omega)];exact o.n i hi h0,fun i hi h0=>by rw[ef _ (by omega)];exact o.i i hi h0,fun i hi h0=>by rw[ef _ (by omega)];exact o.w i hi h0,fun i hi h0=>by rw[ef _ (by omega)];exact o.c i hi h0,fun h0=>by rw[ef _ (by omega)];exact o.a h0⟩
structure Fr5(B:Nat)(vd vl vn vs vw:FV):Prop where
 d:∀g,g<B->UG vd g
 l:∀g,g<B->UG vl g
 n:∀g,g<B->UG vn g
 i:∀g,g<B->UG vs g
 w:∀g,g<B->UG vw g
theorem WXO.pK(h:WXO W k p v)(hi:i<3){q:Ps}{s:Sv}(hq:svP i q=s)(hv:SvV W (.agg #[.bool s.up,vd,I0 s.id,I0 s.ep,vl,I0 s.dn,I0 s.tr.z,vn,vs,vw]) s)(hf:Fr5 B vd vl vn vs vw)(hk:k<B)(hg:∀g,v.ownBlock=FZ g->g<B):
  WXO (yY W k (1+10*i) (.bool s.up) vd (I0 s.id) (I0 s.ep) vl (I0 s.dn) (I0 s.tr.z) vn vs vw) k ⟨p.n,KU p.s i q,p.r,p.c,p.D,p.H,p.h⟩ v:=by
 obtain⟨f,hb,hr,ho⟩:=h;have hA:SvA W k (CG4 (.bool s.up) vd (I0 s.id) (I0 s.ep) vl (I0 s.dn) (I0 s.tr.z) vn vs vw) s:=SvA.of (hr.gU hb) hv (fun _=>hf.i k hk) rfl rfl rfl rfl rfl rfl rfl rfl rfl rfl;refine⟨_,hb.yY (o:=1+10*i) (by omega) _ _ _ _ _ _ _ _ _ _,WdR.touch (W:=W) ?_ (XO _ _ _ _ _ _ _ _ _ _ _ _ _),fun g e=>?_⟩
 .refine⟨by rw[JC (by omega)];exact hr.n,fun j hj=>?_,fun j hj=>by rw[JC (by omega)];exact hr.r j hj,fun j hj=>(hr.c j hj).congr fun q hq=>by rw[JC (by omega)],by rw[JC (by omega)];exact hr.d,fun j hj h0=>?_,hr.hk⟩
  .by_cases e:j=i
   .subst e;simp only[IC,hq];exact hA.congr fun q hq=>by rw[O8 hq]
   .simp only[GH _ _ e];exact(hr.s j hj).congr fun q hq=>by rw[JC (by omega)]
  .by_cases e:j=i
   .subst e;rw[O8 (by omega)];exact fun b hb=>hf.i b (Nat.lt_of_le_of_lt (BM hb hr.hk) hk)
   .simp only[GH _ _ e]at h0;rw[JC (by omega)];exact hr.h j hj h0
 .have o:=ho g e;have hgB:=hg g e;refine⟨fun j hj h0=>?_,fun j hj h0=>?_,fun j hj h0=>?_,fun j hj h0=>?_,fun j hj h0=>?_,fun j hj h0=>by rw[JC (by omega)];exact o.c j hj h0,fun h0=>by rw[JC (by omega)];exact o.a h0⟩
  all_goals
   by_cases e:j=i
   .subst e;rw[O8 (by omega)]
    first|exact hf.d g hgB|exact hf.l g hgB|exact hf.n g hgB|exact hf.i g hgB|exact hf.w g hgB
   .rw[JC (by omega)];simp only[GH _ _ e]at h0
    first|exact o.d j hj h0|exact o.l j hj h0|exact o.n j hj h0|exact o.i j hj h0|exact o.w j hj h0
def CB8(w:FU)(s:Sv)(T:List Nt)(e:Ending)(w':FU):Prop:=
 ∃ad nd cd al cl an cn ai ci aw cw aN cN,e=.returned (.tuple #[.agg #[.bool s.up,FQ ad nd cd,I0 s.id,I0 s.ep,FQ al s.ts.length cl,I0 s.dn,I0 s.tr.z,FQ an s.tr.ns.length cn,FQ ai s.tr.ss.length ci,FQ aw s.ws.length cw],FQ aN T.length cN,I0 0])/\
  Hid (SvV w' (.agg #[.bool s.up,FQ ad nd cd,I0 s.id,I0 s.ep,FQ al s.ts.length cl,I0 s.dn,I0 s.tr.z,FQ an s.tr.ns.length cn,FQ ai s.tr.ss.length ci,FQ aw s.ws.length cw]) s/\Fr5 w.heap.size (FQ ad nd cd) (FQ al s.ts.length cl) (FQ an s.tr.ns.length cn) (FQ ai s.tr.ss.length ci) (FQ aw s.ws.length cw)/\IQ w' (FQ aN T.length cN) T/\∀g,g<w.heap.size->UG (FQ aN T.length cN) g)/\B0 w w'
theorem BT3{s:Sv}{T:List Nt}(h:kV w s T 0 e w')(hf:FrS w e):CB8 w s T e w':=by
 obtain⟨v,aN,cN,rfl,hs,hn,hb⟩:=h;obtain⟨ad,nd,cd,al,cl,an,cn,ai,ci,aw,cw,rfl,_⟩:=hs.five;obtain⟨f8,f1,f4,f7,f9,fy⟩:=hf _ _ _ _ _ _ _ _ _ _ _ _ rfl;exact⟨ad,nd,cd,al,cl,an,cn,ai,ci,aw,cw,aN,cN,rfl,G6 ⟨hs,⟨fun g hg=>LK f1 hg,fun g hg=>LK f4 hg,fun g hg=>LK f7 hg,fun g hg=>LK f8 hg,fun g hg=>LK f9 hg⟩,hn,fun g hg=>LK fy hg⟩,hb⟩
theorem yJ:∀ (l:List Nat) (s:Nat->Ps) (i:Nat),L6 s (l++[i])=(KU (L6 s l).1 i (fZ i ((L6 s l).1 i)),(L6 s l).2++(YF i ((L6 s l).1 i)).2)
 |[],s,i=>by simp[L6]
 |j::l,s,i=>by
  show ((L6 (KU s j (fZ j (s j))) (l++[i])).1,(YF j (s j)).2++(L6 (KU s j (fZ j (s j))) (l++[i])).2)=_;rw[yJ l _ i];simp[L6]
theorem sN:∀ (l:List Nat) (s:Nat->Ps),l.Nodup->(∀i∈l,(s i).up=true)->(∀i∈l,((s i).ws.length:Int)<=300)->(L6 s l).2.length<=l.length*300
 |[],s,_,_,_=>by simp[L6]
 |j::l,s,hn,hu,hw=>by
  obtain⟨h1,h2⟩:=List.nodup_cons.1 hn;have hj:=(B77 (i:=j) (hu j (by simp))).2.1;have hwj:=hw j (by simp);have same:∀i∈l,KU s j (fZ j (s j)) i=s i:=fun i hi=>GH _ _ (by rintro rfl;exact h1 hi);have ih:=sN l (KU s j (fZ j (s j))) h2 (fun i hi=>by rw[same i hi];exact hu i (by simp[hi])) (fun i hi=>by rw[same i hi];exact hw i (by simp[hi]));show ((YF j (s j)).2++_).length<=_;rw[AO,List.length_cons];omega
theorem AQ5(W:FU)(ty:TypeId)(B:Nat)(v u:FV)(N T:List Nt)(hv:GZ W B v N)(hu:IQ W u T)(hl:(N.length+T.length)*32<=140737488355328)(hB:B<=W.heap.size):
  ∃v' w',(Builtin.append_ #[35,35] ty #[v,u]).run prog W=.ok v' w'/\GZ w' B v' (N++T)/\W.grownBy w' v.ownBlock/\∀g,v'.ownBlock=FZ g->v.ownBlock=FZ g\/W.heap.size<=g:=by
 obtain⟨i0,hi0,hz0,hz1,hz2⟩:=AZ0;have main:∀ (a:Addr) (c:Nat),(∀j x,(G9 T)[j]?=FZ x->W.cell? (a.add j)=FZ x)->∃v' w',(Builtin.append_ #[35,35] ty #[v,FQ (FZ a) T.length c]).run prog W=.ok v' w'/\GZ w' B v' (N++T)/\W.grownBy w' v.ownBlock/\∀g,v'.ownBlock=FZ g->v.ownBlock=FZ g\/W.heap.size<=g:=fun a c hc=>by
  obtain⟨v',w',h1,h2,h3,_,h5⟩:=run_append_own_at (P:=prog) W B 35 ty 252 i0 _ 3 32 underlying35 hi0 hz0 hz1 hz2 rfl (by decide) v N.length (G9 N) hv.row a T.length c (G9 T) (GX T) hc (JO T) (by simp only[maxLen];omega) hl hB;refine⟨v',w',h1,GZ.LG (by rw[AO,H7];exact h2),h3,fun g hg=>?_⟩;rcases h5 with e|e
  .rw[e]at hg;exact .inl hg
  .rw[e]at hg;simp only[BD]at hg;exact .inr (by omega)
 rcases hu with⟨a,cap,rfl,rfl,_⟩|⟨b,off,cap,rfl,_,_,_,_,hr⟩
 .cases a with
  |some a=>exact main a cap (fun j x hj=>by simp[G9]at hj)
  |none=>
   refine⟨v,W,?_,by rw[List.append_nil];exact hv,⟨rfl,rfl,rfl,A8 _,fun _ _ _=>rfl⟩,fun g hg=>.inl hg⟩;have hown:=hv.row;rcases hown.2 with⟨rfl,_⟩|⟨g,cap',cur,rfl,_,_,hnc,_⟩
   .simp[Builtin.append_,run_underlying underlying35,sizeOf,typeInfo,hi0,Builtin.lenOf,Builtin.firstCells]
   .simp[Builtin.append_,run_underlying underlying35,sizeOf,typeInfo,hi0,Builtin.lenOf,Builtin.firstCells,hnc,storeCells]
 .exact main ⟨b,off,FX⟩ cap (fun j x hj=>by rw[Addr.add_lit];exact hr j x hj)
theorem sO{w:FU}{ops:Array Oper}{rest:List Oper}{o:Oper}{a:Act}{Q:Exit->Act->FU->Prop}(hgd:o.guard=FX)(s x:Operand)
  (ho:o.op=.call {callee:=.builtin .append,args:=#[s,x],argTypes:=#[35,35]})
  (B:Nat) (v u:FV) (N T:List Nt) (hs:a.eval s=v) (hx:a.eval x=u) (hv:GZ w B v N) (hu:IQ w u T) (hl:(N.length+T.length)*32<=140737488355328) (hB:B<=w.heap.size)
  (h:∀a' c' w',GZ w' B (FQ a' (N++T).length c') (N++T)->w.grownBy w' v.ownBlock->(∀g,(Value.slice a' (N++T).length c').ownBlock=FZ g->v.ownBlock=FZ g\/w.heap.size<=g)->wpList prog ops Q rest (a.put o.dst (FQ a' (N++T).length c')) w'):wpList prog ops Q (o::rest) a w:=by
 refine wpList_plain hgd fun K hK=>?_;obtain⟨v',w',hr,h2,h3,h4⟩:=AQ5 w o.type B v u N T hv hu hl hB;obtain⟨a',c',rfl⟩:=IK h2;unfold Oper.wp execOp;simp only[ho,resolve,invoke,builtin,DX,EM,DY,List.map_toArray,List.map_cons,List.map_nil,hs,hx,hr];exact hK _ _ (h a' c' w' h2 h3 h4)
noncomputable def spS(p:Pw)(d:Dd)(j:Nat):Nat->Ps:=fun k=>if k<j then wSv p d k else p.s k
def spR(p:Pw)(d:Dd)(j:Nat):Nat->Int:=fun k=>if k<j then wRo p d k else p.r k
def spL(p:Pw)(d:Dd)(j:Nat):List Int:=(([0,1,2].take j).filter fun i=>wS p d i).map fun i:Nat=>(i:Int)
section
variable {p:Pw} {d:Dd} {j:Nat}
theorem BA9:spS p d 0=p.s/\spR p d 0=p.r:=by constructor<;>funext k<;>simp[spS,spR]
theorem BZ7(h:wT p d j=false):spS p d (j+1)=spS p d j:=by
 funext k
 unfold spS;by_cases e:k=j
 .subst e;rw[if_pos (by omega),if_neg (by omega),wSv,if_neg (by simp[h])]
 .simp only[show (k<j+1)↔(k<j) by omega]
theorem CB9(h:wT p d j=true):spS p d (j+1)=KU (spS p d j) j (TD (wX p d) (wS p d j) (p.s j)):=by
 funext k
 unfold spS KU;by_cases e:k=j
 .subst e;rw[if_pos (by omega),if_pos rfl,wSv,if_pos h]
 .rw[if_neg e];simp only[show (k<j+1)↔(k<j) by omega]
theorem CP2:spS p d j j=p.s j:=by rw[spS,if_neg (by omega)]
theorem CP3:spR p d j j=p.r j:=by rw[spR,if_neg (by omega)]
theorem CP4(h:wT p d j=false):spR p d (j+1)=KU (spR p d j) j 0:=by
 funext k
 unfold spR KU;by_cases e:k=j
 .subst e;rw[if_pos (by omega),if_pos rfl,wRo,if_neg (by simp[h])]
 .rw[if_neg e];simp only[show (k<j+1)↔(k<j) by omega]
theorem AG3(h:wRo p d j=p.r j):spR p d (j+1)=spR p d j:=by
 funext k
 unfold spR;by_cases e:k=j
 .subst e;rw[if_pos (by omega),if_neg (by omega),h]
 .simp only[show (k<j+1)↔(k<j) by omega]
theorem CC0(hj:j<3)(h:wS p d j=true):spL p d (j+1)=spL p d j++[(j:Int)]:=by
 rcases(show j=0\/j=1\/j=2 by omega)with rfl|rfl|rfl<;>simp[spL,List.filter_cons,h]<;>(repeat' split)<;>simp
theorem BB0(hj:j<3)(h:wS p d j=false):spL p d (j+1)=spL p d j:=by
 rcases(show j=0\/j=1\/j=2 by omega)with rfl|rfl|rfl<;>simp[spL,List.filter_cons,h]
theorem CC1:(spL p d j).length<=3:=by
 rw[spL,EG];exact BM (List.length_filter_le _ _) (by simp;omega)
theorem BZ8(i:Nat)(hi:i<3):spS p d 3 i=wSv p d i/\spR p d 3 i=wRo p d i:=by rw[spS,spR,if_pos hi,if_pos hi];exact⟨rfl,rfl⟩
theorem CC3:spL p d 3=(wL p d).map fun i:Nat=>(i:Int):=rfl
theorem CC4(h:p.r j=0):wT p d j=false/\wS p d j=false:=by simp[wS,wT,h]
theorem CC5(h:p.r j=1)(hb:AD9 d.lo j=true):wT p d j=false/\wS p d j=false:=by simp[wS,wT,h,hb]
theorem cO(h:p.r j=1)(hb:AD9 d.lo j=false):wT p d j=true/\wS p d j= !AD9 d.sl j:=by simp[wS,wT,h,hb]
theorem BB1(h:p.r j=2):wT p d j=true/\wS p d j=true:=by simp[wS,wT,h]
theorem CP5(h:wT p d j=false):wRo p d j=0:=by rw[wRo,if_neg (by simp[h])]
theorem CC6(h:wT p d j=true):wRo p d j=p.r j:=by rw[wRo,if_pos h]
end
theorem WX.CP6(h:WX W k p){r:Nat->Int}(hs:∀i,i<3->p.s i=s i)(hr:∀i,i<3->p.r i=r i):WX W k ⟨p.n,s,r,p.c,p.D,p.H,p.h⟩:=by
 obtain⟨f,hb,h⟩:=h;exact⟨f,hb,h.n,fun i hi=>by show SvA W k _ (svP i (s i));rw[<-hs i hi];exact h.s i hi,fun i hi=>by show f (31+i)=I0 (r i);rw[<-hr i hi];exact h.r i hi,h.c,h.d,fun i hi h0=>h.h i hi (by rw[hs i hi];exact h0),h.hk⟩
theorem WX.hist(h:WX W k p)(H:List GI):WX W k ⟨p.n,p.s,p.r,p.c,p.D,H,p.h⟩:=by
 obtain⟨f,hb,h⟩:=h;exact⟨f,hb,h.n,h.s,h.r,h.c,h.d,h.h,h.hk⟩
theorem WXO.VI(h:WXO W k p v)(hi:i<3)(x:Int):WXO (W.setCell ⟨k,31+i,FX⟩ (I0 x)) k ⟨p.n,p.s,KU p.r i x,p.c,p.D,p.H,p.h⟩ v:=by
 obtain⟨f,hb,hr,ho⟩:=h;refine⟨_,hb.set (j:=31+i) (by omega) _,WdR.touch (W:=W) ?_ (JK _ _ _ _),fun g e=>?_⟩
 .refine⟨by rw[GH _ _ (by omega)];exact hr.n,fun j hj=>(hr.s j hj).congr fun q hq=>by rw[GH _ _ (by omega)],fun j hj=>?_,fun j hj=>(hr.c j hj).congr fun q hq=>by rw[GH _ _ (by omega)],by rw[GH _ _ (by omega)];exact hr.d,fun j hj h0=>by rw[GH _ _ (by omega)];exact hr.h j hj h0,hr.hk⟩;by_cases e:j=i
  .subst e;rw[IC];simp only[IC]
  .rw[GH _ _ (by omega)];simp only[GH _ _ e];exact hr.r j hj
 .have o:=ho g e;exact⟨fun j hj h0=>by rw[GH _ _ (by omega)];exact o.d j hj h0,fun j hj h0=>by rw[GH _ _ (by omega)];exact o.l j hj h0,fun j hj h0=>by rw[GH _ _ (by omega)];exact o.n j hj h0,fun j hj h0=>by rw[GH _ _ (by omega)];exact o.i j hj h0,fun j hj h0=>by rw[GH _ _ (by omega)];exact o.w j hj h0,fun j hj h0=>by rw[GH _ _ (by omega)];exact o.c j hj h0,fun h0=>by rw[GH _ _ (by omega)];exact o.a h0⟩
def BB2(w:FU)(s:Sv)(E:Int)(e:Ending)(w':FU):Prop:=
 ∃ad nd cd al cl an cn ai ci aw cw,e=.returned (.tuple #[.agg #[.bool s.up,FQ ad nd cd,I0 s.id,I0 s.ep,FQ al s.ts.length cl,I0 s.dn,I0 s.tr.z,FQ an s.tr.ns.length cn,FQ ai s.tr.ss.length ci,FQ aw s.ws.length cw],I0 E])/\
  Hid (SvV w' (.agg #[.bool s.up,FQ ad nd cd,I0 s.id,I0 s.ep,FQ al s.ts.length cl,I0 s.dn,I0 s.tr.z,FQ an s.tr.ns.length cn,FQ ai s.tr.ss.length ci,FQ aw s.ws.length cw]) s/\Fr5 w.heap.size (FQ ad nd cd) (FQ al s.ts.length cl) (FQ an s.tr.ns.length cn) (FQ ai s.tr.ss.length ci) (FQ aw s.ws.length cw))/\B0 w w'
theorem BT4{s:Sv}(h:eU w s E e w')(hf:FrT w e):BB2 w s E e w':=by
 obtain⟨ad,nd,cd,al,nl,cl,an,nn,cn,ai,ni,ci,aw,nw,cw,rfl,hs,hb⟩:=h;obtain⟨hv,h8⟩:=G5 hs;obtain⟨f1,f4,f7,f9⟩:=hf _ _ _ _ _ _ _ _ _ _ _ rfl;obtain⟨ad',nd',cd',al',cl',an',cn',ai',ci',aw',cw',e5,_⟩:=hv.five;simp only[EK,F5,EC,AP,true_and,and_true]at e5;obtain⟨⟨rfl,rfl,rfl⟩,⟨rfl,rfl,rfl⟩,⟨rfl,rfl,rfl⟩,⟨rfl,rfl,rfl⟩,rfl,rfl,rfl⟩:=e5;exact⟨_,_,_,_,_,_,_,_,_,_,_,rfl,G6 ⟨hv,⟨fun g hg=>LK f1 hg,fun g hg=>LK f4 hg,fun g hg=>LK f7 hg,fun g hg=>LK h8 hg,fun g hg=>LK f9 hg⟩⟩,hb⟩
theorem yK{α:Type}[Lay α]{w:FU}{ops:Array Oper}{rest:List Oper}{o:Oper}{a:Act}{Q:Exit->Act->FU->Prop}(hgd:o.guard=FX)(s x:Operand)(T:TypeId)
  (ho:o.op=.call {callee:=.builtin .append,args:=#[s,x],argTypes:=#[T,T]})
  (i0:TypeInfo) (z:FV) (bytes:Nat) (hU:prog.underlying T=FZ (.slice (Lay.ty α))) (hi0:prog.info? (Lay.ty α)=FZ i0) (hz0:i0.zero=FZ z) (hz1:i0.size=Lay.k α) (hz2:i0.bytes=bytes) (hzs:z.cells.size=Lay.k α) (hk0:0<Lay.k α)
  (v:FV) (ns:List α) (hs:a.eval s=v) (B:Nat) (hown:GZ w B v ns) (q:Nat) (hx:a.eval x=FQ (FZ ⟨q,0,FX⟩) 1 1) (t:α) (hnews:JG w q t) (hl:(ns.length+1)*bytes<=140737488355328) (hm:ns.length+1<=maxLen) (hB:B<=w.heap.size)
  (h:∀a' c' w',GZ w' B (FQ a' (ns.length+1) c') (ns++[t])->w.grownBy w' v.ownBlock->(∀g,(Value.slice a' (ns.length+1) c').ownBlock=FZ g->v.ownBlock=FZ g\/w.heap.size<=g)->wpList prog ops Q rest (a.put o.dst (FQ a' (ns.length+1) c')) w'):
  wpList prog ops Q (o::rest) a w:=by
 refine wpList_plain hgd fun K hK=>?_;obtain⟨v',w',hr,h2,h3,_,h5⟩:=run_append_own_at (P:=prog) w B T o.type (Lay.ty α) i0 z (Lay.k α) bytes hU hi0 hz0 hz1 hz2 hzs hk0 v ns.length (G9 ns) hown.row ⟨q,0,FX⟩ 1 1 (Lay.cs t) (by rw[Lay.len,Nat.one_mul]) (RN hnews) (Lay.one t) hm hl hB;have h2':GZ w' B v' (ns++[t]):=GZ.LG (by rw[AO,JF];exact h2);have h6:∀g,v'.ownBlock=FZ g->v.ownBlock=FZ g\/w.heap.size<=g:=fun g hg=>by
  rcases h5 with e|e
  .rw[e]at hg;exact .inl hg
  .rw[e]at hg;simp only[BD]at hg;exact .inr (by omega)
 obtain⟨a',c',rfl,_⟩:=h2'.slice;rw[AO,List.length_singleton]at h2' hr h6;unfold Oper.wp execOp;simp only[ho,resolve,invoke,builtin,DX,EM,DY,List.map_toArray,List.map_cons,List.map_nil,hs,hx,hr];exact hK _ _ (h a' c' w' h2' h3 h6)
theorem CC7(r:Nat->Int)(m:Nat)(hm:m<3)(u:FU):(Instr.index 81 (.agg #[I0 (r 0),I0 (r 1),I0 (r 2)]) (I0 m)).run prog u=.ok (I0 (r m)) u:=by
 rcases(show m=0\/m=1\/m=2 by omega)with rfl|rfl|rfl<;>kernel_rfl
theorem pU(d:Dd)(W:FU):FW prog 34 #[ddV d] W (R0 W (I0 (U0 d))):=by
 have HB:=G6 (fun o=>G7 W o);have C:=G6 (fun i m V=>XP i m V);obtain⟨dk,dc,ds,⟨o,s,pp,dd,v,f⟩,lo,sl,ke,wt⟩:=d;unfold ddV;by_cases h1:dk=1
 .subst h1
  cases hc:lG dc 16 with
  |true=>
   rw[show U0 ⟨1,dc,ds,⟨o,s,pp,dd,v,f⟩,lo,sl,ke,wt⟩=0 by simp[U0,hc]];go_enter func34,ntmps34;go_wp2_with fail;refine(G5 C _ _ _).mono ?_;rintro e w1 ⟨rfl,rfl⟩;simp only[hc];go_wp2_with fail;go_ret;exact⟨rfl,G5 HB _⟩
  |false=>
   rw[show U0 ⟨1,dc,ds,⟨o,s,pp,dd,v,f⟩,lo,sl,ke,wt⟩=3 by simp[U0,hc]];go_enter func34,ntmps34;go_wp2_with fail;refine(G5 C _ _ _).mono ?_;rintro e w1 ⟨rfl,rfl⟩;simp only[hc];go_wp2_with fail;go_ret;exact⟨rfl,G5 HB _⟩
 .by_cases h2:dk=2
  .subst h2
   cases hc:lG dc 16 with
   |true=>
    cases hs:lG ds 3 with
    |true=>
     rw[show U0 ⟨2,dc,ds,⟨o,s,pp,dd,v,f⟩,lo,sl,ke,wt⟩=0 by simp[U0,hc,hs]];go_enter func34,ntmps34;go_wp2_with fail;refine(G5 C _ _ _).mono ?_;rintro e w1 ⟨rfl,rfl⟩;simp only[hc];go_wp2_with fail;refine(G5 C _ _ _).mono ?_;rintro e w1 ⟨rfl,rfl⟩;simp only[hs];go_wp2_with fail;go_ret;exact⟨rfl,G5 HB _⟩
    |false=>
     rw[show U0 ⟨2,dc,ds,⟨o,s,pp,dd,v,f⟩,lo,sl,ke,wt⟩=3 by simp[U0,hc,hs]];go_enter func34,ntmps34;go_wp2_with fail;refine(G5 C _ _ _).mono ?_;rintro e w1 ⟨rfl,rfl⟩;simp only[hc];go_wp2_with fail;refine(G5 C _ _ _).mono ?_;rintro e w1 ⟨rfl,rfl⟩;simp only[hs];go_wp2_with fail;go_ret;exact⟨rfl,G5 HB _⟩
   |false=>
    rw[show U0 ⟨2,dc,ds,⟨o,s,pp,dd,v,f⟩,lo,sl,ke,wt⟩=3 by simp[U0,hc]];go_enter func34,ntmps34;go_wp2_with fail;refine(G5 C _ _ _).mono ?_;rintro e w1 ⟨rfl,rfl⟩;simp only[hc];go_wp2_with fail;go_ret;exact⟨rfl,G5 HB _⟩
  .by_cases h3:dk=3\/dk=4
   .rcases h3 with rfl|rfl
    all_goals
     cases hs:lG ds 3 with
     |true=>
      rw[show U0 ⟨_,dc,ds,⟨o,s,pp,dd,v,f⟩,lo,sl,ke,wt⟩=0 by simp[U0,hs]];go_enter func34,ntmps34;go_wp2_with fail;refine(G5 C _ _ _).mono ?_;rintro e w1 ⟨rfl,rfl⟩;simp only[hs];go_wp2_with fail;go_ret;exact⟨rfl,G5 HB _⟩
     |false=>
      rw[show U0 ⟨_,dc,ds,⟨o,s,pp,dd,v,f⟩,lo,sl,ke,wt⟩=3 by simp[U0,hs]];go_enter func34,ntmps34;go_wp2_with fail;refine(G5 C _ _ _).mono ?_;rintro e w1 ⟨rfl,rfl⟩;simp only[hs];go_wp2_with fail;go_ret;exact⟨rfl,G5 HB _⟩
   .by_cases h5:dk=5
    .subst h5;rw[show U0 ⟨5,dc,ds,⟨o,s,pp,dd,v,f⟩,lo,sl,ke,wt⟩=0 by simp[U0]];go_enter func34,ntmps34;go_wp2_with fail;go_ret;exact⟨rfl,G5 HB _⟩
    .have h33:¬dk=3:=fun e=>h3 (.inl e);have h34:¬dk=4:=fun e=>h3 (.inr e);rw[show U0 ⟨dk,dc,ds,⟨o,s,pp,dd,v,f⟩,lo,sl,ke,wt⟩=4 by simp[U0,h1,h2,h33,h34,h5]];clear h3;go_enter func34,ntmps34;go_wp2_with fail;go_ret;exact⟨rfl,G5 HB _⟩
theorem BT5(n:Int):bits .and .i64 n 1=n%2:=by
 show IntKind.i64.wrap ((BitVec.ofInt 64 n&&&BitVec.ofInt 64 1).toNat:Int)=_;rw[BitVec.toNat_and,show (BitVec.ofInt 64 1).toNat=1 by decide,Nat.and_one_is_mod,BitVec.toNat_ofInt,IntKind.wrap_i64];omega
theorem CC8(n:Int)(i:Nat)(hi:i<3)(w:FU):FW prog 93 #[I0 n,I0 i] w fun e w'=>e=.returned (.bool (AD9 n i))/\w'=w:=by
 have e:∀m:Int,(bits .and .i64 m 1==1)=decide (m%2=1):=fun m=>by rw[BT5];rfl
 have E:=G6 e;clear e;unfold AD9;rcases(show i=0\/i=1\/i=2 by omega)with rfl|rfl|rfl
 .go_enter func93,ntmps93;go_wp2_with fail;go_ret;exact⟨by show Ending.returned (.bool (bits .and .i64 n 1==1))=_;rw[G5 E,show n/2^0=n by simp],rfl⟩
 .go_enter func93,ntmps93;go_wp2_with fail;go_ret;exact⟨by show Ending.returned (.bool (bits .and .i64 (n/2) 1==1))=_;rw[G5 E];rfl,rfl⟩
 .go_enter func93,ntmps93;go_wp2_with fail;go_ret;exact⟨by show Ending.returned (.bool (bits .and .i64 (n/4) 1==1))=_;rw[G5 E];rfl,rfl⟩
structure AQ7(w W:FU)(q:Nat)(n:Nd):Prop where
 b:B0 w W
 le:w.heap.size<=q
 one:JG W q n
theorem sQ(p d:List UInt8)(c m q v k o n:Int)(hb:B0 w W):AQ7 w (W.alloc (FT #[S0 p,S0 d,I0 c,I0 m,I0 q,I0 v,I0 k,I0 o,I0 n] 49)) W.heap.size ⟨p,d,c,m,q,v,k,o,n⟩:=
 ⟨G8 hb (G7 _ _),hb.size,rE W ⟨p,d,c,m,q,v,k,o,n⟩⟩
theorem cZ{b:Nat}(p d:List UInt8)(c m q v k o n:Int)(hb:B0 w W)(hq:w.heap.size<=b)(hz:JG W b TU):
  AQ7 w (((((((((W.setCell ⟨b,0,FX⟩ (S0 p)).setCell ⟨b,1,FX⟩ (S0 d)).setCell ⟨b,2,FX⟩ (I0 c)).setCell ⟨b,3,FX⟩ (I0 m)).setCell ⟨b,4,FX⟩ (I0 q)).setCell ⟨b,5,FX⟩ (I0 v)).setCell ⟨b,6,FX⟩ (I0 k)).setCell ⟨b,7,FX⟩ (I0 o)).setCell ⟨b,8,FX⟩ (I0 n)) b ⟨p,d,c,m,q,v,k,o,n⟩:=by
 refine⟨((((((((hb.setCell hq _).setCell hq _).setCell hq _).setCell hq _).setCell hq _).setCell hq _).setCell hq _).setCell hq _).setCell hq _,hq,?_⟩;have h0:W.heap[b]?=FZ (FT #[.string ⟨#[]⟩,.string ⟨#[]⟩,I0 0,I0 0,I0 0,I0 0,I0 0,I0 0,I0 0] 49 (0,0)):=hz;unfold JG;rw[GL _ (GL _ (GL _ (GL _ (GL _ (GL _ (GL _ (GL _ (GL _ h0))))))))];simp;exact⟨rfl,rfl⟩
theorem dA(h:JG W q TU):(W.cell? ⟨q,0,FX⟩=FZ (.string ⟨#[]⟩)/\W.cell? ⟨q,1,FX⟩=FZ (.string ⟨#[]⟩)/\W.cell? ⟨q,2,FX⟩=FZ (I0 0)/\W.cell? ⟨q,3,FX⟩=FZ (I0 0)/\W.cell? ⟨q,4,FX⟩=FZ (I0 0)/\W.cell? ⟨q,5,FX⟩=FZ (I0 0)/\W.cell? ⟨q,6,FX⟩=FZ (I0 0)/\W.cell? ⟨q,7,FX⟩=FZ (I0 0)/\W.cell? ⟨q,8,FX⟩=FZ (I0 0))/\W.frozen? ⟨q,0,FX⟩=false/\W.frozen? ⟨q,1,FX⟩=false/\W.frozen? ⟨q,2,FX⟩=false/\W.frozen? ⟨q,3,FX⟩=false/\W.frozen? ⟨q,4,FX⟩=false/\W.frozen? ⟨q,5,FX⟩=false/\W.frozen? ⟨q,6,FX⟩=false/\W.frozen? ⟨q,7,FX⟩=false/\W.frozen? ⟨q,8,FX⟩=false:=
 ⟨⟨h.JJ 0 _ rfl,h.JJ 1 _ rfl,h.JJ 2 _ rfl,h.JJ 3 _ rfl,h.JJ 4 _ rfl,h.JJ 5 _ rfl,h.JJ 6 _ rfl,h.JJ 7 _ rfl,h.JJ 8 _ rfl⟩,h.J6 0,h.J6 1,h.J6 2,h.J6 3,h.J6 4,h.J6 5,h.J6 6,h.J6 7,h.J6 8⟩
structure C01(w W:FU)(q:Nat)(s z:Int)(v:FV)(es:List En):Prop where
 b:B0 w W
 le:w.heap.size<=q
 box:NK W q s z v
 v:IQ W v es
theorem AG4{s z:Int}{es:List En}(h:B0 w W)(ho:GZ W B v es):C01 w (W.alloc (FT #[I0 s,I0 z,v] 46)) W.heap.size s z v es:=
 ⟨G8 h (G7 _ _),h.size,NK.new W s z v,(ho.next (G7 _ _)).seq⟩
theorem AG5{v0:FV}{s z:Int}{es:List En}(h:B0 w W)(hk:w.heap.size<=k)(hz:NK W k 0 0 v0)(ho:GZ W B v es)(hB:k<B):C01 w (((W.setCell ⟨k,0,FX⟩ (I0 s)).setCell ⟨k,1,FX⟩ (I0 z)).setCell ⟨k,2,FX⟩ v) k s z v es:=
 ⟨((h.setCell hk _).setCell hk _).setCell hk _,hk,(hz.set0.set1).set2,(((ho.OQ hB _).OQ hB _).OQ hB _).seq⟩
def QZ(s z:Nat->Int)(a:Nat->Option Addr)(n c:Nat->Nat):Array FV:=#[I0 (s 0),I0 (z 0),FQ (a 0) (n 0) (c 0),I0 (s 1),I0 (z 1),FQ (a 1) (n 1) (c 1),I0 (s 2),I0 (z 2),FQ (a 2) (n 2) (c 2),I0 (s 3),I0 (z 3),FQ (a 3) (n 3) (c 3),I0 (s 4),I0 (z 4),FQ (a 4) (n 4) (c 4),I0 (s 5),I0 (z 5),FQ (a 5) (n 5) (c 5),I0 (s 6),I0 (z 6),FQ (a 6) (n 6) (c 6),I0 (s 7),I0 (z 7),FQ (a 7) (n 7) (c 7),I0 (s 8),I0 (z 8),FQ (a 8) (n 8) (c 8),I0 (s 9),I0 (z 9),FQ (a 9) (n 9) (c 9),I0 (s 10),I0 (z 10),FQ (a 10) (n 10) (c 10),I0 (s 11),I0 (z 11),FQ (a 11) (n 11) (c 11),I0 (s 12),I0 (z 12),FQ (a 12) (n 12) (c 12),I0 (s 13),I0 (z 13),FQ (a 13) (n 13) (c 13),I0 (s 14),I0 (z 14),FQ (a 14) (n 14) (c 14),I0 (s 15),I0 (z 15),FQ (a 15) (n 15) (c 15)]
theorem ix_0(s z:Nat->Int)(a:Nat->Option Addr)(n c:Nat->Nat):∀u:FU,(Instr.index 82 (.agg (QZ s z a n c)) (I0 0)).run prog u=.ok (.agg #[I0 (s 0),I0 (z 0),FQ (a 0) (n 0) (c 0)]) u:=fun _=>by kernel_rfl
theorem ix_1(s z:Nat->Int)(a:Nat->Option Addr)(n c:Nat->Nat):∀u:FU,(Instr.index 82 (.agg (QZ s z a n c)) (I0 1)).run prog u=.ok (.agg #[I0 (s 1),I0 (z 1),FQ (a 1) (n 1) (c 1)]) u:=fun _=>by kernel_rfl
theorem ix_2(s z:Nat->Int)(a:Nat->Option Addr)(n c:Nat->Nat):∀u:FU,(Instr.index 82 (.agg (QZ s z a n c)) (I0 2)).run prog u=.ok (.agg #[I0 (s 2),I0 (z 2),FQ (a 2) (n 2) (c 2)]) u:=fun _=>by kernel_rfl
theorem ix_3(s z:Nat->Int)(a:Nat->Option Addr)(n c:Nat->Nat):∀u:FU,(Instr.index 82 (.agg (QZ s z a n c)) (I0 3)).run prog u=.ok (.agg #[I0 (s 3),I0 (z 3),FQ (a 3) (n 3) (c 3)]) u:=fun _=>by kernel_rfl
theorem ix_4(s z:Nat->Int)(a:Nat->Option Addr)(n c:Nat->Nat):∀u:FU,(Instr.index 82 (.agg (QZ s z a n c)) (I0 4)).run prog u=.ok (.agg #[I0 (s 4),I0 (z 4),FQ (a 4) (n 4) (c 4)]) u:=fun _=>by kernel_rfl
theorem ix_5(s z:Nat->Int)(a:Nat->Option Addr)(n c:Nat->Nat):∀u:FU,(Instr.index 82 (.agg (QZ s z a n c)) (I0 5)).run prog u=.ok (.agg #[I0 (s 5),I0 (z 5),FQ (a 5) (n 5) (c 5)]) u:=fun _=>by kernel_rfl
theorem ix_6(s z:Nat->Int)(a:Nat->Option Addr)(n c:Nat->Nat):∀u:FU,(Instr.index 82 (.agg (QZ s z a n c)) (I0 6)).run prog u=.ok (.agg #[I0 (s 6),I0 (z 6),FQ (a 6) (n 6) (c 6)]) u:=fun _=>by kernel_rfl
theorem ix_7(s z:Nat->Int)(a:Nat->Option Addr)(n c:Nat->Nat):∀u:FU,(Instr.index 82 (.agg (QZ s z a n c)) (I0 7)).run prog u=.ok (.agg #[I0 (s 7),I0 (z 7),FQ (a 7) (n 7) (c 7)]) u:=fun _=>by kernel_rfl
theorem ix_8(s z:Nat->Int)(a:Nat->Option Addr)(n c:Nat->Nat):∀u:FU,(Instr.index 82 (.agg (QZ s z a n c)) (I0 8)).run prog u=.ok (.agg #[I0 (s 8),I0 (z 8),FQ (a 8) (n 8) (c 8)]) u:=fun _=>by kernel_rfl
theorem ix_9(s z:Nat->Int)(a:Nat->Option Addr)(n c:Nat->Nat):∀u:FU,(Instr.index 82 (.agg (QZ s z a n c)) (I0 9)).run prog u=.ok (.agg #[I0 (s 9),I0 (z 9),FQ (a 9) (n 9) (c 9)]) u:=fun _=>by kernel_rfl
theorem CY3(s z:Nat->Int)(a:Nat->Option Addr)(n c:Nat->Nat):∀u:FU,(Instr.index 82 (.agg (QZ s z a n c)) (I0 10)).run prog u=.ok (.agg #[I0 (s 10),I0 (z 10),FQ (a 10) (n 10) (c 10)]) u:=fun _=>by kernel_rfl
theorem CY4(s z:Nat->Int)(a:Nat->Option Addr)(n c:Nat->Nat):∀u:FU,(Instr.index 82 (.agg (QZ s z a n c)) (I0 11)).run prog u=.ok (.agg #[I0 (s 11),I0 (z 11),FQ (a 11) (n 11) (c 11)]) u:=fun _=>by kernel_rfl
theorem CY5(s z:Nat->Int)(a:Nat->Option Addr)(n c:Nat->Nat):∀u:FU,(Instr.index 82 (.agg (QZ s z a n c)) (I0 12)).run prog u=.ok (.agg #[I0 (s 12),I0 (z 12),FQ (a 12) (n 12) (c 12)]) u:=fun _=>by kernel_rfl
theorem CY6(s z:Nat->Int)(a:Nat->Option Addr)(n c:Nat->Nat):∀u:FU,(Instr.index 82 (.agg (QZ s z a n c)) (I0 13)).run prog u=.ok (.agg #[I0 (s 13),I0 (z 13),FQ (a 13) (n 13) (c 13)]) u:=fun _=>by kernel_rfl
theorem CY7(s z:Nat->Int)(a:Nat->Option Addr)(n c:Nat->Nat):∀u:FU,(Instr.index 82 (.agg (QZ s z a n c)) (I0 14)).run prog u=.ok (.agg #[I0 (s 14),I0 (z 14),FQ (a 14) (n 14) (c 14)]) u:=fun _=>by kernel_rfl
theorem CY8(s z:Nat->Int)(a:Nat->Option Addr)(n c:Nat->Nat):∀u:FU,(Instr.index 82 (.agg (QZ s z a n c)) (I0 15)).run prog u=.ok (.agg #[I0 (s 15),I0 (z 15),FQ (a 15) (n 15) (c 15)]) u:=fun _=>by kernel_rfl
theorem CQ1(s z:Nat->Int)(a:Nat->Option Addr)(n c:Nat->Nat)(m:Nat)(hm:m<16)(u:FU):(Instr.index 82 (.agg (QZ s z a n c)) (I0 m)).run prog u=.ok (.agg #[I0 (s m),I0 (z m),FQ (a m) (n m) (c m)]) u:=by
 rcases(show m=0\/m=1\/m=2\/m=3\/m=4\/m=5\/m=6\/m=7\/m=8\/m=9\/m=10\/m=11\/m=12\/m=13\/m=14\/m=15 by omega)with rfl|rfl|rfl|rfl|rfl|rfl|rfl|rfl|rfl|rfl|rfl|rfl|rfl|rfl|rfl|rfl
 .exact ix_0 s z a n c u
 .exact ix_1 s z a n c u
 .exact ix_2 s z a n c u
 .exact ix_3 s z a n c u
 .exact ix_4 s z a n c u
 .exact ix_5 s z a n c u
 .exact ix_6 s z a n c u
 .exact ix_7 s z a n c u
 .exact ix_8 s z a n c u
 .exact ix_9 s z a n c u
 .exact CY3 s z a n c u
 .exact CY4 s z a n c u
 .exact CY5 s z a n c u
 .exact CY6 s z a n c u
 .exact CY7 s z a n c u
 .exact CY8 s z a n c u
theorem WX.BU1(h:WX W k p){c:Nat->Cl}(he:∀i,i<16->p.c i=c i):WX W k ⟨p.n,p.s,p.r,c,p.D,p.H,p.h⟩:=by
 obtain⟨f,hb,hr⟩:=h;exact⟨f,hb,hr.n,hr.s,hr.r,fun i hi=>by have:=hr.c i hi;rw[he i hi]at this;exact this,hr.d,hr.h,hr.hk⟩
def sS(c:Nat->Cl)(l:List Nt)(m:Nat):Nat->Cl:=fun i=>if i<m then ZH c l i else c i
theorem BC2(c:Nat->Cl)(l:List Nt)(hi:i<16):sS c l 16 i=ZH c l i:=by rw[sS,if_pos hi]
theorem pX(c:Nat->Cl)(l:List Nt)(m i:Nat):KU (sS c l m) m ⟨(c m).s,(c m).z,QX (c m).s l (c m).es⟩ i=sS c l (m+1) i:=by
 by_cases e:i=m
 .subst e;rw[IC,sS,if_pos (by omega)];rfl
 .rw[GH _ _ e,sS,sS];by_cases h:i<m
  .rw[if_pos h,if_pos (by omega)]
  .rw[if_neg h,if_neg (by omega)]
structure TlI(W wr wx:FU)(k:Nat)(p:Pw)(R1:Nat->Ps)(NN:List Nt)(vn:FV)(m:Nat):Prop where
 x:WX wx k ⟨p.n,R1,p.r,sS p.c NN m,p.D,p.H,p.h⟩
 n:GZ wx W.heap.size vn NN
 t:Touch (· =k) W wx
 r:Touch (· =k) wr wx
