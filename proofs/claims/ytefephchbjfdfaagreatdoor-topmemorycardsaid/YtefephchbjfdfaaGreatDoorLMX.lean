/-
  Part.
-/
import Derived.Test.YtefephchbjfdfaaGreatDoorLMW
set_option maxRecDepth 20000
set_option maxHeartbeats 8000000
namespace Go.Proofs.YtefephchbjfdfaaGreatDoor
open Go.RowKit Go.Proofs.Tryz
open _root_.Nat renaming le_refl->AA,lt_of_lt_of_le->AY,le_trans->BP,mul_comm->DL,add_assoc->EM
open Go.RowKit.Below renaming refl->AB
open _root_.List renaming getElem?_eq_getElem->AO,length_append->AP,getElem?_eq_some_iff->AV,mem_of_getElem?->BA,getElem?_append_right->BD,getElem?_append_left->BN,append_assoc->BZ,pairwise_append->DN,take_append_drop->DW,take_length->DX,length_map->EJ,mem_map->F5
open Go.Value renaming ownBlock->DK,slice->FV
open Go.Sem renaming run_bind->EG,run_pure->ER
open Go.Result renaming andThen_ok->EH
open _root_.List.cons renaming injEq->EI
open Go.Value.agg renaming injEq->EO
open _root_.Array.mk renaming injEq->F8
open Go.Obj renaming cells->FW
open Go renaming World->FX,Value->FZ,Calls->G5
open _root_.Option renaming none->G6,some->G8
variable{r:Rq}{j k B i g:Nat}{W V w:FX}{p:Pw}{s:Nat->Ps}{v:FZ}{e z:Int}{b q:Ps}
theorem CN6{r:Nat->Int}(hj:j<3)(h:r j=2)(hb:∀m,m<j->r m≠2):ldP r=j:=by
 unfold ldP;rcases(show j=0\/j=1\/j=2 by omega)with rfl|rfl|rfl
 .rw[if_pos h];rfl
 .rw[if_neg (hb 0 (by omega)),if_pos h];rfl
 .rw[if_neg (hb 0 (by omega)),if_neg (hb 1 (by omega)),if_pos h];rfl
theorem CA0{r:Nat->Int}(hb:∀m,m<3->r m≠2):ldP r=-1:=by
 unfold ldP;rw[if_neg (hb 0 (by omega)),if_neg (hb 1 (by omega)),if_neg (hb 2 (by omega))]
theorem CA1(r:Nat->Int)(k:Nat)(w:FX)(hc:∀i,i<3->w.cell? ⟨k,31+i,G6⟩=G8 (I0 (r i))):
  G5 prog 45 #[FV (G8 ⟨k,31,G6⟩) 3 3,I0 2] w (R0 w (I0 (ldP r))):=by
 have HC:=GH hc;clear hc;go_enter func45,ntmps45;go_wp2_with fail
 go_loopg [8] 3 (fun kx s8 wr=>∃j:Nat,s8=I0 j/\j<=3/\3-j<=kx/\Hid (∀m,m<j->r m≠2)/\Hid (B0 w wr/\∀i,i<3->wr.cell? ⟨k,31+i,G6⟩=G8 (I0 (r i))))
 case atStart=>exact⟨0,rfl,by omega,AA _,GH (fun m hm=>by omega),GH ⟨AB _ _,G9 HC⟩⟩
 case round=>
  obtain⟨j,rfl,hj,hg,hh,hB⟩:=hrel;by_cases hlt:j<3
  .have d0:=(G9 hB).2 j hlt;have hjj:(j:Int)<3:=by omega
   by_cases h2:r j=2
   .rw[h2]at d0;have HE:=GH (CN6 hlt h2 (G9 hh));clear h2;go_wp2_with fail
    try go_quiet (fail)
    go_wp2_with fail;go_ret;exact⟨by rw[G9 HE];rfl,(G9 hB).1⟩
   .have HN:=GH (fun m (hm:m<j+1)=>(show r m≠2 by
     by_cases e:m=j
     .rw[e];exact h2
     .exact G9 hh m (by omega)))
    have h3:¬2=r j:=fun e=>h2 e.symm;go_wp2_with fail
    try go_quiet (fail)
    go_wp2_with fail
    go_roundg (3-(j+1))
    case measure=>omega
    case rel=>exact⟨j+1,rfl,by omega,AA _,HN,hB⟩
  .obtain rfl:j=3:=by omega
   have HE:=GH (CA0 (G9 hh));go_wp2_with fail;go_ret;exact⟨by rw[G9 HE];rfl,(G9 hB).1⟩
theorem TA(p:Pw)(k:Nat)(W:FX)(hx:WX W k p):G5 prog 33 #[wP k] W (R0 W (I0 (ldP p.r))):=by
 have C:=GH (CA1 p.r k W (fun i hi=>hx.role hi));unfold wP;clear hx;go_enter func33,ntmps33;go_wp2_with fail;refine(G9 C).mono ?_;rintro e w1 ⟨rfl,hb⟩;go_wp2_with fail;go_ret;exact⟨rfl,hb⟩
structure Sl where
 ad:Option Addr
 nd:Nat
 cd:Nat
 al:Option Addr
 cl:Nat
 an:Option Addr
 cn:Nat
 ai:Option Addr
 ci:Nat
 aw:Option Addr
 cw:Nat
def yF(s:Sv)(t:Sl):List FZ:=[.bool s.up,FV t.ad t.nd t.cd,I0 s.id,I0 s.ep,FV t.al s.ts.length t.cl,I0 s.dn,I0 s.tr.z,FV t.an s.tr.ns.length t.cn,FV t.ai s.tr.ss.length t.ci,FV t.aw s.ws.length t.cw]
def yG(s:Nat->Sv)(t:Nat->Sl):Array FZ:=(yF (s 0) (t 0)++(yF (s 1) (t 1)++yF (s 2) (t 2))).toArray
theorem WX.sl(h:WX W k p):∃t:Nat->Sl,∀i,i<3->∀q v,(yF (svP i (p.s i)) (t i))[q]?=G8 v->W.cell? ⟨k,1+10*i+q,G6⟩=G8 v:=by
 have e:∀i,∃t:Sl,i<3->∀q v,(yF (svP i (p.s i)) t)[q]?=G8 v->W.cell? ⟨k,1+10*i+q,G6⟩=G8 v:=fun i=>by
  by_cases hi:i<3
  .obtain⟨ad,nd,cd,al,cl,an,cn,ai,ci,aw,cw,S,_,_⟩:=h.srv hi rfl;refine⟨⟨ad,nd,cd,al,cl,an,cn,ai,ci,aw,cw⟩,fun _ q v hq=>?_⟩;have hq10:q<10:=(AV.1 hq).1;rcases(show q=0\/q=1\/q=2\/q=3\/q=4\/q=5\/q=6\/q=7\/q=8\/q=9 by omega)with rfl|rfl|rfl|rfl|rfl|rfl|rfl|rfl|rfl|rfl
   .exact S.c0.trans hq
   .exact S.c1.trans hq
   .exact S.c2.trans hq
   .exact S.c3.trans hq
   .exact S.c4.trans hq
   .exact S.c5.trans hq
   .exact S.c6.trans hq
   .exact S.c7.trans hq
   .exact S.c8.trans hq
   .exact S.c9.trans hq
  .exact⟨⟨G6,0,0,G6,0,G6,0,G6,0,G6,0⟩,fun h=>absurd h hi⟩
 exact⟨fun i=>(e i).choose,fun i hi=>(e i).choose_spec hi⟩
theorem CW6(s:Nat->Sv)(t:Nat->Sl):∀u:FX,(Instr.index 78 (.agg (yG s t)) (I0 0)).run prog u=.ok (.agg (yF (s 0) (t 0)).toArray) u:=fun _=>by kernel_rfl
theorem CW7(s:Nat->Sv)(t:Nat->Sl):∀u:FX,(Instr.index 78 (.agg (yG s t)) (I0 1)).run prog u=.ok (.agg (yF (s 1) (t 1)).toArray) u:=fun _=>by kernel_rfl
theorem CW8(s:Nat->Sv)(t:Nat->Sl):∀u:FX,(Instr.index 78 (.agg (yG s t)) (I0 2)).run prog u=.ok (.agg (yF (s 2) (t 2)).toArray) u:=fun _=>by kernel_rfl
theorem CA2(s:Nat->Sv)(t:Nat->Sl)(m:Nat)(hm:m<3)(u:FX):(Instr.index 78 (.agg (yG s t)) (I0 m)).run prog u=.ok (.agg (yF (s m) (t m)).toArray) u:=by
 rcases(show m=0\/m=1\/m=2 by omega)with rfl|rfl|rfl
 .exact CW6 s t u
 .exact CW7 s t u
 .exact CW8 s t u
theorem AP6(w:FX)(k:Nat)(s:Nat->Sv)(t:Nat->Sl)(hc:∀i,i<3->∀q v,(yF (s i) (t i))[q]?=G8 v->w.cell? ⟨k,1+10*i+q,G6⟩=G8 v):
  (Instr.loadAt 78 (.pointer (G8 ⟨k,1,G6⟩))).run prog w=.ok (.agg (yG s t)) w:=by
 have hl:=run_loadCells_list (P:=prog) (w:=w) ⟨k,1,G6⟩ (yG s t).toList (fun j v hj=>by
  rw[Addr.add_lit];show w.cell? ⟨k,1+j,G6⟩=G8 v;have hj':(yF (s 0) (t 0)++(yF (s 1) (t 1)++yF (s 2) (t 2)))[j]?=G8 v:=hj;have l0:(yF (s 0) (t 0)).length=10:=rfl;have l1:(yF (s 1) (t 1)).length=10:=rfl;by_cases h0:j<10
  .rw[BN (by omega)]at hj';exact hc 0 (by omega) j v hj'
  .rw[BD (by omega),l0]at hj';by_cases h1:j<20
   .rw[BN (by omega)]at hj';have:=hc 1 (by omega) (j-10) v hj';rwa[show 1+10*1+(j-10)=1+j by omega]at this
   .rw[BD (by omega),l1]at hj';have:=hc 2 (by omega) (j-10-10) v hj';rwa[show 1+10*2+(j-10-10)=1+j by omega]at this)
 have h30:(yG s t).toList.length=30:=rfl;rw[h30]at hl;simp only[Instr.loadAt,Instr.sureAddr,EG,ER,Result.andThen];unfold loadVar;simp only[EG,isAgg78,sizeOf78,Result.andThen,if_true];rw[hl];rfl
theorem sS{w:FX}{ops:Array Oper}{rest:List Oper}{o:Oper}{a:Act}{Q:Exit->Act->FX->Prop}(hgd:o.guard=G6)(x:Operand)(ho:o.op=.load 78 x)(k:Nat)(s:Nat->Sv)(t:Nat->Sl)
  (hx:a.eval x=.pointer (G8 ⟨k,1,G6⟩)) (hc:∀i,i<3->∀q v,(yF (s i) (t i))[q]?=G8 v->w.cell? ⟨k,1+10*i+q,G6⟩=G8 v)
  (h:wpList prog ops Q rest (a.put o.dst (.agg (yG s t))) w):wpList prog ops Q (o::rest) a w:=by
 refine wpList_plain hgd fun K hK=>?_;have hr:=AP6 w k s t hc;unfold Oper.wp execOp;simp only[ho,EG,ER,EH,hx,hr];exact hK _ _ h
def vot(s:Nat->Ps)(j:Nat):List Int:=(([0,1,2].take j).filter fun i=>(s i).up).map fun i:Nat=>(i:Int)
theorem CA7(hj:j<3)(h:(s j).up=true):vot s (j+1)=vot s j++[(j:Int)]:=by
 rcases(show j=0\/j=1\/j=2 by omega)with rfl|rfl|rfl<;>simp[vot,List.filter_cons,h]<;>(repeat' split)<;>simp
theorem CO1(hj:j<3)(h:(s j).up=false):vot s (j+1)=vot s j:=by
 rcases(show j=0\/j=1\/j=2 by omega)with rfl|rfl|rfl<;>simp[vot,List.filter_cons,h]
theorem CA8(s:Nat->Ps)(j:Nat):(vot s j).length<=3:=by
 rw[vot,EJ];exact BP (List.length_filter_le _ _) (by simp;omega)
theorem CA9(s:Nat->Ps):vot s 3=(KD s).map fun i:Nat=>(i:Int):=rfl
theorem BR6(i:Nat)(q:Ps):(svP i q).up=q.up:=by
 cases h:q.up
 .rw[SN h]
 .rw[J5 h]
theorem lS{U:FX}(h:B0 W V)(hg:V.grownBy U v.ownBlock)(hn:∀g,v.ownBlock=G8 g->W.heap.size<=g):B0 W U:=
 ⟨hg.os.trans h.os,hg.tape.trans h.tape,hg.output.trans h.output,BP h.size hg.size,fun b hb=>(hg.block b (AY hb h.size) (fun e=>by have:=hn b e.symm;omega)).trans (h.block b hb)⟩
theorem B89{α:Type}[Lay α]{xs:List α}(h:I5 W B v xs):∀g,v.ownBlock=G8 g->B<=g:=fun g hg=>by
 rcases h with⟨rfl,_⟩|⟨g',cap,rfl,hB,_⟩
 .simp[DK]at hg
 .simp only[DK,Option.some.injEq]at hg;omega
theorem pI(p:Pw)(k:Nat)(W:FX)(hx:WX W k p):G5 prog 57 #[wP k] W fun e w'=>∃v,e=.returned v/\I5 w' W.heap.size v ((KD p.s).map fun i:Nat=>(i:Int))/\B0 W w':=by
 obtain⟨t,ht⟩:=hx.sl;have HT:=GH ht;have IX:=GH (fun(m:Nat) (hm:m<3) (u:FX)=>CA2 (fun i=>svP i (p.s i)) t m hm u);obtain⟨i0,hi0,hz0,hz1,hz2⟩:=A13;clear hx ht;unfold wP;go_enter func57,ntmps57;go_wp2_with (refine sS rfl _ rfl k (fun i=>svP i (p.s i)) t rfl (G9 HT) ?_);clear HT
 go_loopg [3,10] 3 (fun kx s3 s10 wr=>∃j:Nat,∃a c,s10=I0 j/\s3=FV a (vot p.s j).length c/\j<=3/\3-j<=kx/\Hid (I5 wr W.heap.size (FV a (vot p.s j).length c) (vot p.s j)/\B0 W wr))
 case atStart=>exact⟨0,G6,0,rfl,rfl,by omega,AA _,GH ⟨.inl ⟨rfl,rfl⟩,AB _ _⟩⟩
 case round=>
  obtain⟨j,a,c,rfl,rfl,hj,hg,HI⟩:=hrel;by_cases hlt:j<3
  .have IXm:=G9 IX j hlt;have hl:=CA8 p.s j;have hjj:(j:Int)<3:=by omega
   have eu:=BR6 j (p.s j);unfold yF at IXm;generalize svP j (p.s j)=s0 at*;generalize t j=tj at*;obtain⟨up,fs,id,ep,ts,dn,tr,ws⟩:=s0;simp only at eu IXm;subst eu;by_cases hu:(p.s j).up=true
   .have HS:=GH (CA7 hlt hu);rw[hu]at IXm;clear hu;go_upto_region 5 with fail;have B2:=GH (GK (G9 HI).2 (GI wr (FW #[.bool true,FV tj.ad tj.nd tj.cd,I0 id,I0 ep,FV tj.al ts.length tj.cl,I0 dn,I0 tr.z,FV tj.an tr.ns.length tj.cn,FV tj.ai tr.ss.length tj.ci,FV tj.aw ws.length tj.cw] 55)));have O2:=GH ((G9 HI).1.next (GI wr (FW #[.bool true,FV tj.ad tj.nd tj.cd,I0 id,I0 ep,FV tj.al ts.length tj.cl,I0 dn,I0 tr.z,FV tj.an tr.ns.length tj.cn,FV tj.ai tr.ss.length tj.ci,FV tj.aw ws.length tj.cw] 55)));have E2:=(heap_alloc_new wr (FW #[.bool true,FV tj.ad tj.nd tj.cd,I0 id,I0 ep,FV tj.al ts.length tj.cl,I0 dn,I0 tr.z,FV tj.an tr.ns.length tj.cn,FV tj.ai tr.ss.length tj.ci,FV tj.aw ws.length tj.cw] 55));generalize wr.alloc _=W2 at*;have e0:W2.cell? ⟨wr.heap.size,0,G6⟩=G8 (.bool true):=by simp[World.cell?,E2]
    clear HI IXm IX E2;have O3:=GH (fun O=>(G9 O2).next (GI W2 O));have S3:=GH (fun O=>BP (G9 B2).size (GI W2 O).size);go_wp2_with (at_builtin;refine lQ rfl _ _ 50 rfl i0 _ 8 underlying50 hi0 hz0 hz1 hz2 rfl (by decide) _ (vot p.s j) rfl W.heap.size (G9 O3 _) W2.heap.size rfl (j:Int) (rH W2 j) (by omega) (by simp only[maxLen];omega) (G9 S3 _) ?_);intro a8 c8 w8 ho8 hg8;have HO:=GH ho8;have HB:=GH (lS (GK (G9 B2) (GI W2 _)) hg8 (B89 (G9 O2)));clear ho8 hg8 O3 S3 B2 O2;go_wp2_with fail
    go_roundg (3-(j+1))
    case measure=>omega
    case rel=>exact⟨j+1,a8,c8,by simp,by rw[G9 HS,AP];rfl,by omega,AA _,GH ⟨by rw[G9 HS,AP];exact G9 HO,G9 HB⟩⟩
   .have HS:=GH (CO1 hlt (by simpa using hu));rw[show (p.s j).up=false by simpa using hu]at IXm;clear hu;go_upto_region 5 with fail;have B2:=GH (GK (G9 HI).2 (GI wr (FW #[.bool false,FV tj.ad tj.nd tj.cd,I0 id,I0 ep,FV tj.al ts.length tj.cl,I0 dn,I0 tr.z,FV tj.an tr.ns.length tj.cn,FV tj.ai tr.ss.length tj.ci,FV tj.aw ws.length tj.cw] 55)));have O2:=GH ((G9 HI).1.next (GI wr (FW #[.bool false,FV tj.ad tj.nd tj.cd,I0 id,I0 ep,FV tj.al ts.length tj.cl,I0 dn,I0 tr.z,FV tj.an tr.ns.length tj.cn,FV tj.ai tr.ss.length tj.ci,FV tj.aw ws.length tj.cw] 55)));have E2:=(heap_alloc_new wr (FW #[.bool false,FV tj.ad tj.nd tj.cd,I0 id,I0 ep,FV tj.al ts.length tj.cl,I0 dn,I0 tr.z,FV tj.an tr.ns.length tj.cn,FV tj.ai tr.ss.length tj.ci,FV tj.aw ws.length tj.cw] 55));generalize wr.alloc _=W2 at*;have e0:W2.cell? ⟨wr.heap.size,0,G6⟩=G8 (.bool false):=by simp[World.cell?,E2]
    clear HI IXm IX E2;go_wp2_with fail
    go_roundg (3-(j+1))
    case measure=>omega
    case rel=>exact⟨j+1,a,c,by simp,by rw[G9 HS],by omega,AA _,GH ⟨by rw[G9 HS];exact G9 O2,G9 B2⟩⟩
  .obtain rfl:j=3:=by omega
   go_wp2_with fail;go_ret;exact⟨_,rfl,by rw[<-CA9];exact(G9 HI).1,(G9 HI).2⟩
theorem WX.sl2(h:WX W k p):∃t:Nat->Sl,∀i,i<3->Srv W k (1+10*i) (svP i (p.s i)).up (svP i (p.s i)).id (svP i (p.s i)).ep (svP i (p.s i)).dn (svP i (p.s i)).tr.z (FV (t i).ad (t i).nd (t i).cd) (FV (t i).al (svP i (p.s i)).ts.length (t i).cl) (FV (t i).an (svP i (p.s i)).tr.ns.length (t i).cn) (FV (t i).ai (svP i (p.s i)).tr.ss.length (t i).ci) (FV (t i).aw (svP i (p.s i)).ws.length (t i).cw)/\NQ W (FV (t i).al (svP i (p.s i)).ts.length (t i).cl) (svP i (p.s i)).ts:=by
 have e:∀i,∃t:Sl,i<3->Srv W k (1+10*i) (svP i (p.s i)).up (svP i (p.s i)).id (svP i (p.s i)).ep (svP i (p.s i)).dn (svP i (p.s i)).tr.z (FV t.ad t.nd t.cd) (FV t.al (svP i (p.s i)).ts.length t.cl) (FV t.an (svP i (p.s i)).tr.ns.length t.cn) (FV t.ai (svP i (p.s i)).tr.ss.length t.ci) (FV t.aw (svP i (p.s i)).ws.length t.cw)/\NQ W (FV t.al (svP i (p.s i)).ts.length t.cl) (svP i (p.s i)).ts:=fun i=>by
  by_cases hi:i<3
  .obtain⟨ad,nd,cd,al,cl,an,cn,ai,ci,aw,cw,S,hv,_⟩:=h.srv hi rfl;obtain⟨vd,vl,vn,vs,vw,e,_,r2,_⟩:=hv;simp only[EO,F8,EI]at e;exact⟨⟨ad,nd,cd,al,cl,an,cn,ai,ci,aw,cw⟩,fun _=>⟨S,by rw[<-e.2.2.2.2.1]at r2;exact r2⟩⟩
  .exact⟨⟨G6,0,0,G6,0,G6,0,G6,0,G6,0⟩,fun h=>absurd h hi⟩
 exact⟨fun i=>(e i).choose,fun i hi=>(e i).choose_spec hi⟩
noncomputable def peP(p:Pw)(t:Nat->Sl)(i:Nat):Pe:=⟨(svP i (p.s i)).id,(svP i (p.s i)).ep,(t i).al,(t i).cl,(svP i (p.s i)).ts,(svP i (p.s i)).dn⟩
theorem B90(w:FX)(i e:Int)(a:Option Addr)(c:Nat)(ts:List GV)(d:Int):JU (w.alloc (FW #[I0 i,I0 e,FV a ts.length c,I0 d] 48)) w.heap.size (⟨i,e,a,c,ts,d⟩:Pe):=heap_alloc_new w _
theorem CO2{t:Nat->Sl}(h:(p.s i).up=true):kk (peP p t i)=((i:Int),(p.s i).e,J7 (p.s i).m):=by
 simp only[kk,peP,J5 h]
theorem pJ(p:Pw)(k:Nat)(W:FX)(v:FZ)(l:List Nat)(hx:WX W k p)(hv:IV W v (l.map fun i:Nat=>(i:Int)))(hl:∀i∈l,i<3)(hln:l.length<=3):
  G5 prog 59 #[wP k,v] W fun e w'=>∃u t,e=.returned u/\I5 w' W.heap.size u (l.map (peP p t))/\rU w' (l.map (peP p t))/\B0 W w':=by
 obtain⟨t,ht⟩:=hx.sl2;have HT:=GH ht;have HV:=GH hv;have HL:=GH hl;have hkl:=hx.lt;obtain⟨i0,hi0,hz0,hz1,hz2⟩:=CW1;obtain⟨a,c,rfl⟩:=GU hv;rw[EJ]at HV⊢;clear hx ht hv hl;unfold wP;go_enter func59,ntmps59;go_wp2_with fail
 go_loopg [5,10] l.length (fun kx s5 s10 wr=>∃j:Nat,∃a c,s10=I0 j/\s5=FV a j c/\j<=l.length/\l.length-j<=kx/\Hid (I5 wr W.heap.size (FV a j c) ((l.take j).map (peP p t))/\B0 W wr))
 case atStart=>exact⟨0,G6,0,rfl,rfl,by omega,AA _,GH ⟨.inl ⟨rfl,rfl⟩,AB _ _⟩⟩
 case round=>
  obtain⟨j,a2,c2,rfl,rfl,hj,hg,HI⟩:=hrel;by_cases hlt:j<l.length
  .obtain⟨i,hi⟩:∃i,l[j]?=G8 i:=⟨_,AO hlt⟩;have hi3:=G9 HL i (BA hi);have HS:=GH (show (l.take (j+1)).map (peP p t)=(l.take j).map (peP p t)++[peP p t i] by rw[QH hi,List.map_append];rfl);have hlj:((l.take j).map (peP p t)).length=j:=by simp;omega
   obtain⟨b,off,cap,he,hb,hrow,_,_⟩:=N8 ((G9 HV).next (G9 HI).2) (by intro h0;rw[List.map_eq_nil_iff]at h0;rw[h0]at hlt;simp at hlt);simp only[EJ,Value.slice.injEq]at he;obtain⟨rfl,_,rfl⟩:=he;have d0:=hrow.i0 (i:=j) (x:=(i:Int)) (by rw[List.getElem?_map,hi];rfl);obtain⟨_,_,e2,e3,e4,e5,_⟩:=(G9 HT i hi3).1.next hkl (G9 HI).2;rw[DL 10 i]at e2 e3 e4 e5;have hjj:(j:Int)<(l.length:Int):=by omega
   have hi4:(i:Int)<3:=by omega
   have B2:=GH (G9 HI).2;have O2:=GH (G9 HI).1;clear HI hrow hi HV;generalize hs0:svP i (p.s i)=s0 at*;have HP:Hid (peP p t i=⟨s0.id,s0.ep,(t i).al,(t i).cl,s0.ts,s0.dn⟩):=GH (by rw[peP,hs0]);clear hs0;have O3:=GH (fun O=>(G9 O2).next (GI wr O));have S3:=GH (fun O=>BP (G9 B2).size (GI wr O).size);go_wp2_with (at_builtin;refine lQ rfl _ _ 137 rfl i0 _ 48 underlying137 hi0 hz0 hz1 hz2 rfl (by decide) _ ((l.take j).map (peP p t)) rfl W.heap.size (G9 O3 _) wr.heap.size rfl (⟨s0.id,s0.ep,(t i).al,(t i).cl,s0.ts,s0.dn⟩:Pe) (B90 wr _ _ _ _ _ _) (by rw[hlj];omega) (by rw[hlj];simp only[maxLen];omega) (G9 S3 _) ?_);intro a8 c8 w8 ho8 hg8;have HO:=GH ho8;have HB:=GH (lS (GK (G9 B2) (GI wr _)) hg8 (B89 (G9 O2)));clear ho8 hg8 O3 S3 B2 O2;go_wp2_with fail
   go_roundg (l.length-(j+1))
   case measure=>omega
   case rel=>exact⟨j+1,a8,c8,by simp,rfl,by omega,AA _,GH ⟨by rw[G9 HS,G9 HP,List.map_take];exact G9 HO,G9 HB⟩⟩
  .obtain rfl:j=l.length:=by omega
   rw[DX]at HI;go_wp2_with fail;go_ret;exact⟨_,t,rfl,(G9 HI).1,fun q hq=>by
    obtain⟨i,hi,rfl⟩:=F5.1 hq;exact((G9 HT i (G9 HL i hi)).2).next (G9 HI).2,(G9 HI).2⟩
theorem BR7{m:List GV}{t:GV}(e:Int)(h:Logs (m++[t]))(hl:m.length<=300):ZA 152 (fun x=>#[x,JC t,.bool true]) [YS e,PL m] [YS e,PL (m++[t])] 0:=by
 have hg:=(Logs.at (a:=m) (b:=[]) h).1;have hx:=sG e;have h1:=sD h.left hl;have h2:=jE hg;have g0:LV [YS e,PL m]:=U1 hx (by simp;omega);have g1:LV [YS e,⟨OE,IJ m,RI t⟩]:=U1 hx (by omega);refine oN [YS e,PL m] [YS e,⟨OE,IJ m,RI t⟩] [YS e,PL (m++[t])] t 0 hg (MX fun v W hv=>?_) (eU fun v W hv=>?_)
 .have:=jW v [YS e,PL m] [YS e] [] (PL m) OE (RI t) W hv (JX g0) g0 (kX _ _ _ _) (by simp only[PL,List.length_nil];omega);simpa [PL]using this
 .have:=YJ v [YS e,⟨OE,IJ m,RI t⟩] [YS e] [] ⟨OE,IJ m,RI t⟩ OE W hv (JX g1) g1 (kX _ _ _ _);simpa [PL,QB]using this
theorem CO3{m:List GV}{e0:Int}(he:zIn e=true)(hm:(IJ m).length<=1048576):kT 100 (fun x=>#[x,I0 e]) (epD e0++[PL m]) [YS e,PL m] 0:=by
 by_cases h0:e0=0
 .subst h0;rw[AD3];exact C72 he hm
 .rw[A45 h0];have hx:=aX (L9 e 0);have g0:LV [YS e0,PL m]:=U1 (sG e0) (by simpa using hm);have gl:LV [PL m]:=bT (by simpa using hm);have g1:LV [⟨JL,[],QX (L9 e 0)⟩,PL m]:=U1 (by simp;omega) (by simpa using hm);refine A36 [YS e0,PL m] [PL m] [⟨JL,[],QX (L9 e 0)⟩,PL m] [YS e,PL m] e 0 (UD he (by decide)).2 (MX fun v W hv=>?_) (MX fun v W hv=>?_) (MX fun v W hv=>?_)
  .exact vV v [YS e0,PL m] [] [PL m] (YS e0) JL W hv (JX g0) g0 (bY _ _ _ _)
  .exact bG v [PL m] [] [PL m] JL (QX (L9 e 0)) W hv (JX gl) gl ZK (by simp) (eY (IJ m) []) (by omega)
  .have:=YJ v _ [] [PL m] ⟨JL,[],QX (L9 e 0)⟩ JL W hv (JX g1) g1 (bY [] (QX (L9 e 0)) (IJ m) []);simpa [YS]using this
theorem B91{a b:List GV}(ha:Logs a)(hp:∀x∈a,0<x.z)(hz:CV6 b (L6 a b) z):TN z a=a.take (L6 a b):=by
 rcases hz with⟨h0,rfl⟩|⟨x,h0,hx,rfl⟩
 .rw[h0,List.take_zero]
  cases a with
  |nil=>rfl
  |cons t r=>
   have:=hp t (by simp);unfold TN;rw[List.takeWhile_cons_of_neg (by simp;omega)]
 .obtain⟨x',y',h1,h2,h3⟩:=kK a b (L6 a b-1) (by omega);rw[hx]at h2
  cases h2
  rw[<-h3,C73 ha h1,show L6 a b-1+1=L6 a b by omega]
theorem CO4(a b:List GV):∃z,CV6 b (L6 a b) z:=by
 by_cases h0:L6 a b=0
 .exact⟨-1,.inl ⟨h0,rfl⟩⟩
 .obtain⟨x,y,_,h2,_⟩:=kK a b (L6 a b-1) (by omega);exact⟨y.z,.inr ⟨y,by omega,h2,rfl⟩⟩
theorem BR8{a b:List GV}(h:∀x∈a,∀y∈b,x.z=y.z->x=y):a.take (L6 a b)=b.take (L6 a b):=by
 obtain⟨k1,k2⟩:=XK a b
 apply List.ext_getElem?
 intro i;by_cases hi:i<L6 a b
 .obtain⟨x,y,h1,h2,h3⟩:=kK a b i hi;rw[List.getElem?_take_of_lt hi,List.getElem?_take_of_lt hi,h1,h2,h x (BA h1) y (BA h2) h3]
 .rw[List.getElem?_eq_none (by simp;omega),List.getElem?_eq_none (by simp;omega)]
theorem AP8(ok:MP 300 q)(hu:q.up=true)(okb:MP 300 b)(he:1<=e/\e<=300)(hd:q.dn<=L6 q.m b.m)(h1:∀x∈q.m,∀y∈b.m,x.z=y.z->x=y)(v vl:FZ)(w:FX)(hv:SvV w v (svP i q))(hvl:NQ w vl b.m)(ht:VP w):
  G5 prog 60 #[v,vl,I0 e] w fun e' w'=>eX w (svP i (yA e b.m q)) 0 e' w'/\FrW w e':=by
 obtain⟨r1,r2⟩:=ok.small;obtain⟨b1,b2⟩:=okb.small;have r3:=UZ q.m q.a;obtain⟨z,hz⟩:=CO4 q.m b.m;have hzi:zIn e=true:=QA.2 ⟨by omega,by omega⟩;have hs:=BR8 h1;obtain⟨k1,k2⟩:=XK q.m b.m;have hts:(svP i q).ts=q.m:=by rw[J5 hu]
 have G:NT 99 (fun g=>#[g,I0 z]) (svP i q).fs (epD q.e++[PL (q.m.take (L6 q.m b.m))]) 0:=by
  have R:Z9 (epD q.e++[⟨OE,IJ (q.m.take q.a),IJ (q.m.drop q.a)⟩]) q.m (epD q.e) []:=⟨ZV (by omega),ok.log,.inr ⟨_,[],iP _ _ _,by
   have:=uO ok.log;rw[<-LM,DW];exact this⟩⟩
  have:=BO5 R z;rw[B91 ok.log ok.pos hz]at this;rw[J5 hu];exact this
 have hlk:Logs (q.m.take (L6 q.m b.m)):=ok.log.take _;have hrk:(IJ (q.m.take (L6 q.m b.m))).length<=146100:=sD hlk (by simp;omega);have R:=CO3 (e0:=q.e) hzi (show (IJ (q.m.take (L6 q.m b.m))).length<=1048576 by omega);have gd:LV [YS e,PL (q.m.take (L6 q.m b.m))]:=U1 (sG e) (by simp;omega);have hbb:b.m=b.m.take (L6 q.m b.m)++b.m.drop (L6 q.m b.m):=(DW _ _).symm;have step:∀j x,(b.m.drop (L6 q.m b.m))[j]?=G8 x->CL8 ⟨true,[YS e,PL (q.m.take (L6 q.m b.m)++(b.m.drop (L6 q.m b.m)).take j)],i,e,q.m.take (L6 q.m b.m)++(b.m.drop (L6 q.m b.m)).take j,q.dn,SK q.m q.dn,q.ws⟩ x ⟨true,[YS e,PL (q.m.take (L6 q.m b.m)++(b.m.drop (L6 q.m b.m)).take (j+1))],i,e,q.m.take (L6 q.m b.m)++(b.m.drop (L6 q.m b.m)).take (j+1),q.dn,SK q.m q.dn,q.ws⟩:=by
  intro j x hx;have e1:b.m=(q.m.take (L6 q.m b.m)++(b.m.drop (L6 q.m b.m)).take j)++x::(b.m.drop (L6 q.m b.m)).drop (j+1):=by
   rw[hs,BZ,<-BO6 hx];exact hbb
  have e2:q.m.take (L6 q.m b.m)++(b.m.drop (L6 q.m b.m)).take (j+1)=(q.m.take (L6 q.m b.m)++(b.m.drop (L6 q.m b.m)).take j)++[x]:=by rw[QC hx,BZ]
  have hL:=okb.log;rw[e1]at hL;have hg:=hL.good x (by simp);have hL1:Logs ((q.m.take (L6 q.m b.m)++(b.m.drop (L6 q.m b.m)).take j)++[x]):=by
   have:Logs (((q.m.take (L6 q.m b.m)++(b.m.drop (L6 q.m b.m)).take j)++[x])++(b.m.drop (L6 q.m b.m)).drop (j+1)):=by simpa using hL
   exact this.left
  have hx2:=Y6 hg;have hlen:(q.m.take (L6 q.m b.m)++(b.m.drop (L6 q.m b.m)).take j).length<=300:=by
   have:=congrArg List.length e1;rw[AP]at this;omega
  have hlast:¬x.z<=J7 (q.m.take (L6 q.m b.m)++(b.m.drop (L6 q.m b.m)).take j):=by
   intro hle;by_cases hn:q.m.take (L6 q.m b.m)++(b.m.drop (L6 q.m b.m)).take j=[]
   .rw[hn,WS]at hle;have:=okb.pos x (List.mem_of_mem_drop (BA hx));omega
   .obtain⟨y,hy,hyz⟩:=aI hn;have:=(DN.1 hL1.rise).2.2 y hy x (by simp);omega
  refine⟨hlast,by omega,by omega,BP hlen (by decide),[YS e,PL ((q.m.take (L6 q.m b.m)++(b.m.drop (L6 q.m b.m)).take j)++[x])],by rw[e2],BR7 e hL1 hlen⟩
 have main:=AO6 (svP i q) v vl b.m e w hv hvl (ok.fits hu) (by omega) ht (by rw[hts,J5 hu];show ¬ ((L6 q.m b.m:Nat):Int)<(q.dn:Int);omega) z _ _ (by rw[hts];exact hz) G R gd (fun j=>⟨true,[YS e,PL (q.m.take (L6 q.m b.m)++(b.m.drop (L6 q.m b.m)).take j)],i,e,q.m.take (L6 q.m b.m)++(b.m.drop (L6 q.m b.m)).take j,q.dn,SK q.m q.dn,q.ws⟩) (by rw[hts,J5 hu];simp) (by rw[hts];exact step);rw[hts]at main;have e3:svP i (yA e b.m q)=⟨true,[YS e,PL (q.m.take (L6 q.m b.m)++(b.m.drop (L6 q.m b.m)).take (b.m.drop (L6 q.m b.m)).length)],i,e,q.m.take (L6 q.m b.m)++(b.m.drop (L6 q.m b.m)).take (b.m.drop (L6 q.m b.m)).length,q.dn,SK q.m q.dn,q.ws⟩:=by
  have et:SK q.m q.dn=SK b.m q.dn:=by
   rw[<-lH q.m hd,<-lH b.m hd,hs]
  rw[DX,hs,DW,et,J5 (p:=yA e b.m q) rfl];simp[yA,A45 (show e≠0 by omega),PL,IJ]
 rw[e3];exact main
theorem yJ(ok:MP 300 q)(hu:q.up=true)(okb:MP 300 b)(hd:L6 q.m b.m<q.dn)(v vl:FZ)(w:FX)(hv:SvV w v (svP i q))(hvl:NQ w vl b.m):
  G5 prog 60 #[v,vl,I0 e] w (oO w 13):=by
 obtain⟨b1,b2⟩:=okb.small;exact AO2 (svP i q) v vl b.m e w hv hvl (ok.fits hu) (by omega) (by rw[J5 hu];show ((L6 q.m b.m:Nat):Int)<(q.dn:Int);omega)
structure El(p:Pw):Prop where
 ok:∀i,i<3->MP 300 (p.s i)
 cl:∀i,i<16->uG 300 p.H i (p.c i)
 en:1<=eN p.s/\eN p.s<=300
 one:∀i j,i<3->j<3->∀x∈(p.s i).m,∀y∈(p.s j).m,x.z=y.z->x=y
 fol:¬ (KD p.s).length<2->A46 p.s=false->∀i,i<3->MP 300 (eS p.s i)
 fin:¬ (KD p.s).length<2->A46 p.s=false->∀i,i<3->MP 300 ((MR (eS p.s) (KD p.s)).1 i)
theorem MP.fol{N:Int}(hq:MP N q)(hb:MP N b)(he:0<=e/\e<=N)(hd:q.dn<=L6 q.m b.m):MP N (yA e b.m q):=
 ⟨hb.log,hb.pos,hb.len,AA _,he.1,he.2,BP hd (XK q.m b.m).2,hb.play,hq.wl,hq.wk,fun h=>by simp[yA]at h,fun _=>rfl⟩
theorem CW9{q:Pw}(h:QI q)(hn:q.n<300):El (OQ q):=by
 have hok:∀i,i<3->MP 300 (q.s i):=fun i hi=>(h.s i hi).more (by omega);refine⟨hok,fun i hi=>(h.c i hi).more (by omega) (fun _ hx=>hx),?_,fun i j hi hj x hx y hy e=>h.a.one x (h.a.hist i hi x (by rw[LY hi];exact hx)) y (h.a.hist j hj y (by rw[LY hj];exact hy)) e,fun h2 hb i hi=>?_,fun h2 hb i hi=>?_⟩
 .have:=C86 h;show 1<=eN q.s/\eN q.s<=300;omega
 .show MP 300 (eS q.s i);have hB:=KU.1 (B76 (s:=q.s) (show 2<=(KD q.s).length from Nat.le_of_not_lt h2));unfold eS
  split
  .rename_i hu
   have:=C86 h;exact MP.fol (hok i hi) (hok _ hB.1) (by omega) (B77 (s:=q.s) hb (KU.2 ⟨hi,hu.1⟩))
  .exact hok i hi
 .exact((pG h hn h2 hb).s i hi).more (by show q.n+1<=300;omega)
theorem AF1(h:∀i,i<3->MP 300 (s i)):BY2 (QZ s) 0:=by
 refine .inl ⟨rfl,fun i k hi=>?_⟩;have hlt:i<(KD s).length:=by have:=(AV.1 hi).1;rwa[cZ]at this
 unfold QZ at hi;rw[List.getElem?_map,AO hlt]at hi;simp only[Option.map_some,Option.some.injEq]at hi;subst hi;have hm:=List.getElem_mem hlt;obtain⟨h3,_⟩:=KU.1 hm;have ok:=h _ h3;have h0:=ok.e0;have h1:=ok.e1;unfold AD2;rw[if_neg,if_neg (by simp only;omega),if_neg (by simp only;omega)];intro ha;rw[List.any_eq_true]at ha;obtain⟨q,hq,e⟩:=ha;rw[QZ,<-List.map_take]at hq;obtain⟨j,hj,rfl⟩:=F5.1 hq;have e':j=(KD s)[i]:=by
  have:(j:Int)=((KD s)[i]:Nat):=by simpa using e
  omega
 have hnd:=V6 s;rw[<-DW i (KD s)]at hnd;have hd:(KD s)[i]∈(KD s).drop i:=BA (i:=0) (by rw[List.getElem?_drop];simp[AO hlt]);exact(DN.1 hnd).2.2 j hj _ hd e'
theorem BR9(h:∀i,i<3->MP 300 (s i))(h2:(KD s).length<2):CW0 (QZ s) 0 0 14:=⟨0,AF1 h,.inr ⟨rfl,.inl ⟨by rw[cZ];exact h2,rfl,rfl,rfl⟩⟩⟩
theorem B92(h:El p)(h2:¬ (KD p.s).length<2):CW0 (QZ p.s) (MN (QZ p.s) (KD p.s).length:Nat) (eN p.s) 0:=
 ⟨0,AF1 h.ok,.inr ⟨rfl,.inr ⟨by rw[cZ];omega,.inr ⟨by have:=h.en;unfold eN at this;omega,by rw[cZ],rfl,rfl⟩⟩⟩⟩
theorem B93(h2:¬ (KD s).length<2):MN (QZ s) (KD s).length<(KD s).length:=by
 have:=XU (QZ s) (KD s).length;omega
theorem CB0(h2:¬ (KD s).length<2):(KD s)[MN (QZ s) (KD s).length]?=G8 (eB s):=by
 have:=B93 h2;rw[eB,List.getD_eq_getElem?_getD,AO this];rfl
def elS(s:Nat->Ps)(j:Nat):Nat->Ps:=fun k=>if k∈(KD s).take j then yA (eN s) (s (eB s)).m (s k)else s k
def elR(s:Nat->Ps)(j:Nat):Nat->Int:=fun k=>if k∈(KD s).take j then 1 else 0
theorem BS0(s:Nat->Ps):elS s 0=s:=by funext k;simp[elS]
theorem BS1(s:Nat->Ps):elR s 0=fun _=>0:=by funext k;simp[elR]
theorem BS2(h:(KD s)[j]?=G8 i):elS s (j+1)=LZ (elS s j) i (yA (eN s) (s (eB s)).m (s i)):=by
 funext k
 unfold elS LZ;rw[QH h];by_cases e:k=i
 .subst e;rw[if_pos (by simp),if_pos rfl]
 .rw[if_neg e];congr 1;simp[e]
theorem BS3(h:(KD s)[j]?=G8 i):elR s (j+1)=LZ (elR s j) i 1:=by
 funext k
 unfold elR LZ;rw[QH h];by_cases e:k=i
 .subst e;rw[if_pos (by simp),if_pos rfl]
 .rw[if_neg e];congr 1;simp[e]
theorem CB1(s:Nat->Ps):elS s (KD s).length=eS s:=by
 funext k
 unfold elS eS;rw[DX]
 congr 1
 rw[KU];exact propext ⟨fun h=>⟨h.2,h.1⟩,fun h=>⟨h.2,h.1⟩⟩
theorem CB3:LZ (elR s (KD s).length) (eB s) 2=eR s:=by
 funext k
 unfold elR eR LZ;rw[DX];by_cases e:k=eB s
 .rw[if_pos e,if_pos e]
 .rw[if_neg e,if_neg e];show (if k∈KD s then(1:Int)else 0)=_
  congr 1
  rw[KU];exact propext ⟨fun h=>⟨h.2,h.1⟩,fun h=>⟨h.2,h.1⟩⟩
theorem CB5(h:(KD s)[j]?=G8 i):elS s j i=s i:=by
 unfold elS;rw[if_neg];intro hm;have hnd:=V6 s;rw[<-DW j (KD s)]at hnd;have hd:i∈(KD s).drop j:=BA (i:=0) (by rw[List.getElem?_drop];simpa using h);exact(DN.1 hnd).2.2 i hm i hd rfl
theorem CB6(h:i∈KD s)(hb:L6 (s i).m (s (eB s)).m<(s i).dn):A46 s=true:=by
 unfold A46;rw[List.any_eq_true];exact⟨i,h,by simpa using hb⟩
theorem CO5(h:∀i∈KD s,(s i).dn<=L6 (s i).m (s (eB s)).m):A46 s=false:=by
 unfold A46;rw[List.any_eq_false];intro i hi;have:=h i hi;simp;omega
theorem fE(s:Nat->Ps):(KD s).length<=3:=BP (List.length_filter_le _ _) (by simp)
theorem B94(h:VP W)(hx:WX W k p):1≠k:=by
 intro e;have h1:=h.cell AO1 0 (by decide);have h2:=hx.count;rw[<-e]at h2;rw[h2]at h1;simp[Lib.pow10Tab]at h1
theorem VP.touch{F:Nat->Prop}(h:VP W)(ht:Touch F W V)(hF:¬F 1):VP V:=by
 have hlt:=B54 h;unfold VP Lib.TabIs World.var? at h⊢;simp only[AO1,Option.bind_some]at h⊢;rw[ht.block _ hlt hF];exact h
theorem dD(h:VP W)(hx:WX W k p)(ht:Touch (· =k) W V):VP V:=h.touch ht (B94 h hx)
structure BxS(w V:FX)(q:Nat)(s:Sv)(vd vl vn vs vw:FZ):Prop where
 b:Below w.heap.size w V
 le:w.heap.size<=q
 box:IB V q s.up vd s.id s.ep vl s.dn s.tr.z vn vs vw
theorem CB7{w1:FX}{s:Sv}{vd vl vn vs vw:FZ}(h:Below w.heap.size w w1):BxS w (w1.alloc (FW #[.bool s.up,vd,.int .i64 s.id,.int .i64 s.ep,vl,.int .i64 s.dn,.int .i64 s.tr.z,vn,vs,vw] 55)) w1.heap.size s vd vl vn vs vw:=
 ⟨GK h (GI _ _),h.size,IB.new _ _ _ _ _ _ _ _ _ _ _⟩
theorem CB8{w1:FX}{q:Nat}{s:Sv}{vd vl vn vs vw:FZ}(h:Below w.heap.size w w1)(hq:w.heap.size<=q)(hz:IB w1 q false (FV G6 0 0) 0 0 (FV G6 0 0) 0 0 (FV G6 0 0) (FV G6 0 0) (FV G6 0 0)):BxS w (NY w1 q (.bool s.up) vd (.int .i64 s.id) (.int .i64 s.ep) vl (.int .i64 s.dn) (.int .i64 s.tr.z) vn vs vw) q s vd vl vn vs vw:=
 ⟨JE h hq _ _ _ _ _ _ _ _ _ _,hq,XT hz _ _ _ _ _ _ _ _ _ _⟩
def RqB(W:FX)(g:Nat)(r:Rq):Prop:=W.heap[g]?=G8 (FW #[.int .i64 r.o,.int .i64 r.s,.string ⟨r.p.toArray⟩,.string ⟨r.d.toArray⟩,.int .i64 r.v,.int .i64 r.f] 28 (0,0))
theorem RqB.new(w:FX)(r:Rq):RqB (w.alloc (FW #[.int .i64 r.o,.int .i64 r.s,.string ⟨r.p.toArray⟩,.string ⟨r.d.toArray⟩,.int .i64 r.v,.int .i64 r.f] 28)) w.heap.size r:=heap_alloc_new w _
theorem RqB.lt(h:RqB W g r):g<W.heap.size:=(Array.getElem?_eq_some_iff.1 h).1
theorem RqB.next(h:RqB W g r)(hb:Below W.heap.size W V):RqB V g r:=(hb.block g h.lt).trans h
theorem RqB.cells(h:RqB W g r):W.cell? ⟨g,0,G6⟩=G8 (.int .i64 r.o)/\W.cell? ⟨g,1,G6⟩=G8 (.int .i64 r.s)/\W.cell? ⟨g,2,G6⟩=G8 (.string ⟨r.p.toArray⟩)/\W.cell? ⟨g,3,G6⟩=G8 (.string ⟨r.d.toArray⟩)/\W.cell? ⟨g,4,G6⟩=G8 (.int .i64 r.v)/\W.cell? ⟨g,5,G6⟩=G8 (.int .i64 r.f):=by
 unfold RqB at h;refine⟨?_,?_,?_,?_,?_,?_⟩<;>simp[World.cell?,h]
theorem RqB.H6(h:RqB W g r)(j:Nat):W.frozen? ⟨g,j,G6⟩=false:=by
 unfold RqB at h;simp[World.frozen?,h]
theorem RqB.set(h:RqB W g r)(s:Int):RqB (W.setCell ⟨g,1,G6⟩ (.int .i64 s)) g ⟨r.o,s,r.p,r.d,r.v,r.f⟩:=by
 unfold RqB at h⊢;rw[GY _ h];rfl
structure PP(w W:FX)(d:Dd):Prop where
 b:Below w.heap.size w W
 a:TAt W (w.heap.size+1) t0
 d:JU W w.heap.size d
theorem PP.start(w:FX)(d:Dd):PP w ((w.alloc (FW #[.int .i64 d.k,.int .i64 d.c,.int .i64 d.s,.int .i64 d.q.o,.int .i64 d.q.s,.string ⟨d.q.p.toArray⟩,.string ⟨d.q.d.toArray⟩,.int .i64 d.q.v,.int .i64 d.q.f,.int .i64 d.lo,.int .i64 d.sl,.int .i64 d.ke,.bool d.wt] 30)).alloc (FW #[.int .i64 0,.int .i64 0,.int .i64 0,.string ⟨#[]⟩,.string ⟨#[]⟩,.int .i64 0,.int .i64 0] 59)) d:=by
 exact⟨GK (GI _ _) (GI _ _),cO _ _ _,JU.XV (heap_alloc_new w _:JU (w.alloc _) w.heap.size d) (GI _ _) (by simp)⟩
theorem PP.next{d:Dd}(h:PP w W d)(hb:Below W.heap.size W V):PP w V d:=⟨GK h.b hb,h.a.next hb,h.d.XV hb h.d.ltz⟩
theorem AF4{d:Dd}(h:JU W g d):(W.cell? ⟨g,0,G6⟩=G8 (.int .i64 d.k)/\W.cell? ⟨g,1,G6⟩=G8 (.int .i64 d.c)/\W.cell? ⟨g,2,G6⟩=G8 (.int .i64 d.s)/\W.cell? ⟨g,3,G6⟩=G8 (.int .i64 d.q.o)/\W.cell? ⟨g,4,G6⟩=G8 (.int .i64 d.q.s)/\W.cell? ⟨g,5,G6⟩=G8 (.string ⟨d.q.p.toArray⟩)/\W.cell? ⟨g,6,G6⟩=G8 (.string ⟨d.q.d.toArray⟩))/\W.cell? ⟨g,7,G6⟩=G8 (.int .i64 d.q.v)/\W.cell? ⟨g,8,G6⟩=G8 (.int .i64 d.q.f)/\W.cell? ⟨g,9,G6⟩=G8 (.int .i64 d.lo)/\W.cell? ⟨g,10,G6⟩=G8 (.int .i64 d.sl)/\W.cell? ⟨g,11,G6⟩=G8 (.int .i64 d.ke)/\W.cell? ⟨g,12,G6⟩=G8 (.bool d.wt):=by
 have r:=h.row;simp only[Nat.zero_add]at r;exact⟨⟨r 0 _ rfl,r 1 _ rfl,r 2 _ rfl,r 3 _ rfl,r 4 _ rfl,r 5 _ rfl,r 6 _ rfl⟩,r 7 _ rfl,r 8 _ rfl,r 9 _ rfl,r 10 _ rfl,r 11 _ rfl,r 12 _ rfl⟩
theorem gJ(p:Pw)(d:Dd)(k b:Nat)(W:FX)(hx:WX W k p)(hT:VP W)(hb:b<3)(hl:ldP p.r=b)(hu:(p.s b).up=true)(hok:MP 300 (p.s b))(hn:nxE (p.s b).e (J7 (p.s b).m)=0)(hc:0<=d.c/\d.c<16)(hp:d.q.p.length<=140737488355328)(hd:d.q.d.length<=140737488355328):
  G5 prog 46 #[wP k,ddV d] W fun e w'=>e=.returned (.tuple #[JC (wX p d),.int .i64 (wE p d)])/\Below W.heap.size W w':=by
 have D0:=GH (PP.start W d);obtain⟨c,hc16,hdc⟩:∃c:Nat,c<16/\d.c=c:=⟨d.c.toNat,by omega,by omega⟩;obtain⟨ad,nd,cd,al,cl,an,cn,ai,ci,aw,cw,SS,hv,_⟩:=hx.srv hb rfl;obtain⟨ca,cc,k0,k1,k2,_⟩:=hx.cl hc16;have hsv:=J5 (i:=b) hu;have CL:=GH (fun V (hV:Below W.heap.size W V)=>TA p k V (hx.next hV));rw[hl]at CL;have HV:=GH (fun V (hV:Below W.heap.size W V)=>hv.next hV);have CN:=GH (fun V (hV:Below W.heap.size W V)=>BP5 ⟨(svP b (p.s b)).id,(svP b (p.s b)).ep,al,cl,(svP b (p.s b)).ts,(svP b (p.s b)).dn⟩ V (by
  obtain⟨_,_,_,_,_,e,_,r2,_,_,_⟩:=hv.next hV;simp only[EO,F8,EI,true_and,and_true]at e;rw[<-e.2.1]at r2;exact r2))
 have HT:=GH hT;have hgt:RX (svP b (p.s b)).tr:=by rw[hsv];exact hok.play.good hok.dn
 have CP:=GH (fun V (hV:Below W.heap.size W V) (z:Int)=>A57 (svP b (p.s b)).tr z (FV an (svP b (p.s b)).tr.ns.length cn) (FV ai (svP b (p.s b)).tr.ss.length ci) (wQ p d) V (by
  obtain⟨_,_,_,_,_,e,_,_,r3,_,_⟩:=hv.next hV;simp only[EO,F8,EI,true_and,and_true]at e;rw[<-e.2.2.1]at r3;exact r3) (by
  obtain⟨_,_,_,_,_,e,_,_,_,r4,_⟩:=hv.next hV;simp only[EO,F8,EI,true_and,and_true]at e;rw[<-e.2.2.2.1]at r4;exact r4) hgt.pwf hp hd ((G9 HT).next hV))
 have HE:Hid (wX p d=AS3 (svP b (p.s b)).tr (nxN (svP b (p.s b)).ep (J7 (svP b (p.s b)).ts)) (wQ p d)/\wE p d=gU (svP b (p.s b)).tr (nxN (svP b (p.s b)).ep (J7 (svP b (p.s b)).ts)) (wQ p d)):=GH (by
  have hln:ldN p.r=b:=by rw[ldN,hl];simp
  rw[wX,wE,wTr,wZ,hln,hsv];exact⟨rfl,rfl⟩)
 have hne:nxE (svP b (p.s b)).ep (J7 (svP b (p.s b)).ts)=0:=by rw[hsv];exact hn
 rw[hne]at CN;have hdn:(p.c d.c.toNat).s=(p.c c).s:=by rw[hdc];rfl
 have HQ:Hid (wQ p d=⟨d.q.o,(p.c c).s,d.q.p,d.q.d,d.q.v,d.q.f⟩):=GH (by rw[wQ,hdn]);have HX:=GH hx;obtain⟨dk,dc,ds,⟨o,s,pp,dd,v,f⟩,lo,sl,ke,wt⟩:=d;simp only at hdc HQ;subst hdc;rw[(G9 HE).1,(G9 HE).2];rw[G9 HQ]at CP⊢;clear HQ HE;generalize hs0:svP b (p.s b)=s0 at*;unfold wP ddV;have HS:=GH (fun V (hV:Below W.heap.size W V)=>SS.next hx.lt hV);simp only[DL 10 b]at HS;have HC:=GH (And.intro k0 (And.intro k1 k2));have hk0:=hx.lt;have hb4:(b:Int)<3:=by omega
 have hc4:(c:Int)<16:=by omega
 unfold peV at CN;unfold rqV AF3 JC at CP;clear SS hv k0 k1 k2 hsv hl hT hgt hn hne hc hp hd hx hs0 hok hu hdn;go_enter func46,ntmps46;go_upto_region 1 with fail;generalize ((W.alloc _).alloc _)=W1 at*;have hkW:k<W1.heap.size:=AY hk0 (G9 D0).b.size;have HKS:Hid (∀V,Below W1.heap.size W1 V->V.cell? ⟨k,1+b*10,G6⟩=G8 (.bool s0.up)/\V.cell? ⟨k,1+b*10+1,G6⟩=G8 (FV ad nd cd)/\V.cell? ⟨k,1+b*10+2,G6⟩=G8 (.int .i64 s0.id)/\V.cell? ⟨k,1+b*10+3,G6⟩=G8 (.int .i64 s0.ep)/\V.cell? ⟨k,1+b*10+4,G6⟩=G8 (FV al s0.ts.length cl)/\V.cell? ⟨k,1+b*10+5,G6⟩=G8 (.int .i64 s0.dn)/\V.cell? ⟨k,1+b*10+6,G6⟩=G8 (.int .i64 s0.tr.z)/\V.cell? ⟨k,1+b*10+7,G6⟩=G8 (FV an s0.tr.ns.length cn)/\V.cell? ⟨k,1+b*10+8,G6⟩=G8 (FV ai s0.tr.ss.length ci)/\V.cell? ⟨k,1+b*10+9,G6⟩=G8 (FV aw s0.ws.length cw)):=GH fun V hV=>by
  obtain⟨c0,c1,c2,c3,c4,c5,c6,c7,c8,c9⟩:=G9 HS V (GK (G9 D0).b hV);exact⟨c0,c1,c2,c3,c4,c5,c6,c7,c8,c9⟩
 replace CL:=GH (fun V (hV:Below W1.heap.size W1 V)=>G9 CL V (GK (G9 D0).b hV))
 go_cut [6]from 10 (fun t6 wx=>∃q,t6=.pointer (G8 ⟨q,0,G6⟩)/\Hid (BxS W1 wx q s0 (FV ad nd cd) (FV al s0.ts.length cl) (FV an s0.tr.ns.length cn) (FV ai s0.tr.ss.length ci) (FV aw s0.ws.length cw)))
 case first=>
  have hS0:=G9 HKS _ (AB W1.heap.size W1).drew;refine wp_region_held (S:=fun V:FX=>V.cell? ⟨k,1+b*10,G6⟩=G8 (.bool s0.up)/\V.cell? ⟨k,1+b*10+1,G6⟩=G8 (FV ad nd cd)/\V.cell? ⟨k,1+b*10+2,G6⟩=G8 (.int .i64 s0.id)/\V.cell? ⟨k,1+b*10+3,G6⟩=G8 (.int .i64 s0.ep)/\V.cell? ⟨k,1+b*10+4,G6⟩=G8 (FV al s0.ts.length cl)/\V.cell? ⟨k,1+b*10+5,G6⟩=G8 (.int .i64 s0.dn)/\V.cell? ⟨k,1+b*10+6,G6⟩=G8 (.int .i64 s0.tr.z)/\V.cell? ⟨k,1+b*10+7,G6⟩=G8 (FV an s0.tr.ns.length cn)/\V.cell? ⟨k,1+b*10+8,G6⟩=G8 (FV ai s0.tr.ss.length ci)/\V.cell? ⟨k,1+b*10+9,G6⟩=G8 (FV aw s0.ws.length cw)) (by kernel_rfl) ?_;change wpAnyH _ _ _ _ _ _ _ _ W1.drew;refine tkH 0 hS0 ?_;refine tkH 1 hS0 ?_;refine tkH 3 hS0 ?_;refine tkH 4 hS0 ?_;refine rd2 2 7 (fun K hK=>?_) (fun K hK=>?_)
  .go_simp;refine(G9 CL _ (AB _ _).drew).mono ?_;rintro e w1 ⟨rfl,hb1⟩;have aB1:Hid (Below W1.heap.size W1 w1):=GH (GK (AB _ _).drew hb1);clear hb1;have hS1:=G9 HKS _ (G9 aB1);refine nxH hK hS1 ?_;clear hK K;refine tkH 5 hS1 ?_;refine tkH 6 hS1 ?_;refine rd1 7 (fun K hK=>?_);go_simp;have hS2:=G9 HKS _ (GK (G9 aB1) (GI w1 (FW #[.bool false,FV G6 0 0,.int .i64 0,.int .i64 0,FV G6 0 0,.int .i64 0,.int .i64 0,FV G6 0 0,FV G6 0 0,FV G6 0 0] 55)));refine nxH hK hS2 ?_;clear hK K;refine rd1 8 (fun K hK=>?_);go_simp;have hX2:Hid (BxS W1 _ _ s0 (FV ad nd cd) (FV al s0.ts.length cl) (FV an s0.tr.ns.length cn) (FV ai s0.tr.ss.length ci) (FV aw s0.ws.length cw)):=GH (CB7 (G9 aB1));have hS3:=G9 HKS _ (G9 hX2).b;refine nxH hK hS3 ?_;clear hK K;refine wpAnyH_done (by kernel_rfl) ?_ _;go_wp2_with fail
   go_meet
   exact⟨_,rfl,hX2⟩
  .go_simp;have hS2:=G9 HKS _ (GK (AB W1.heap.size W1).drew (GI W1.drew (FW #[.bool false,FV G6 0 0,.int .i64 0,.int .i64 0,FV G6 0 0,.int .i64 0,.int .i64 0,FV G6 0 0,FV G6 0 0,FV G6 0 0] 55)));refine nxH hK hS2 ?_;clear hK K;refine rd1 2 (fun K hK=>?_);go_simp;refine(G9 CL _ (GK (AB _ _).drew (GI _ _))).mono ?_;rintro e w1 ⟨rfl,hb1⟩;have aB1:Hid (Below W1.heap.size W1 w1):=GH (GK (GK (AB _ _).drew (GI _ _)) hb1);have aZ1:Hid (IB w1 W1.heap.size false (FV G6 0 0) 0 0 (FV G6 0 0) 0 0 (FV G6 0 0) (FV G6 0 0) (FV G6 0 0)):=GH ((hb1.block _ (by simp)).trans (heap_alloc_new W1.drew _));clear hb1;have hS1:=G9 HKS _ (G9 aB1);refine nxH hK hS1 ?_;clear hK K;refine tkH 5 hS1 ?_;refine tkH 6 hS1 ?_;refine rd1 8 (fun K hK=>?_);have z0:=(G9 aZ1).H6 0;have z1:=(G9 aZ1).H6 1;have z2:=(G9 aZ1).H6 2;have z3:=(G9 aZ1).H6 3;have z4:=(G9 aZ1).H6 4;have z5:=(G9 aZ1).H6 5;have z6:=(G9 aZ1).H6 6;have z7:=(G9 aZ1).H6 7;have z8:=(G9 aZ1).H6 8;have z9:=(G9 aZ1).H6 9;obtain⟨x0,x1,x2,x3,x4,x5,x6,x7,x8,x9⟩:=(G9 aZ1).cells;go_simp;have hX2:Hid (BxS W1 _ _ s0 (FV ad nd cd) (FV al s0.ts.length cl) (FV an s0.tr.ns.length cn) (FV ai s0.tr.ss.length ci) (FV aw s0.ws.length cw)):=GH (CB8 (G9 aB1) (AA _) (G9 aZ1));have hS3:=G9 HKS _ (G9 hX2).b;refine nxH hK hS3 ?_;clear hK K;refine wpAnyH_done (by kernel_rfl) ?_ _;go_wp2_with fail
   go_meet
   exact⟨_,rfl,hX2⟩
 case rest=>
  obtain⟨q,rfl,HQ⟩:=hcut;have D1:=GH ((G9 D0).next (G9 HQ).b);have B1:=GH (G9 D1).b;obtain⟨q0,q1,q2,q3,q4,q5,q6,q7,q8,q9⟩:=(G9 HQ).box.cells;clear HKS CL D0;go_wp2_with fail;refine(G9 CN _ (G9 B1)).mono ?_;rintro e w2 ⟨rfl,hb2⟩;have D2:=GH ((G9 D1).next hb2);have Q2:=GH ((G9 HQ).box.next hb2);have hq2:=hb2.size;have hql:=(G9 HQ).le;have hqt:=(G9 HQ).box.lt;have hWg:=(Array.getElem?_eq_some_iff.1 (G9 D2).a).1;clear q0 q1 q2 q3 q4 q5 q6 q7 q8 q9 CN D1 B1 HQ hb2;obtain⟨⟨e0,e1,e2,e3,e4,e5,e6⟩,e7,e8,e9,e10,e11,e12⟩:=AF4 (G9 D2).d;go_upto_region 6 with fail;have D3:=GH ((G9 D2).next (GI w2 (FW #[.int .i64 o,.int .i64 s,.string ⟨pp.toArray⟩,.string ⟨dd.toArray⟩,.int .i64 v,.int .i64 f] 28)));have Q3:=GH ((G9 Q2).next (GI w2 (FW #[.int .i64 o,.int .i64 s,.string ⟨pp.toArray⟩,.string ⟨dd.toArray⟩,.int .i64 v,.int .i64 f] 28)));have G3:=GH (RqB.new w2 ⟨o,s,pp,dd,v,f⟩);simp only at G3;generalize w2.alloc _=W3 at*;have hg3:w2.heap.size<W3.heap.size:=(G9 G3).lt;generalize hg:w2.heap.size=g at*;clear D2 Q2 e0 e1 e2 e3 e4 e5 e6 e7 e8 e9 e10 e11 e12 hg;obtain⟨⟨_,e1,_,_,_,_,_⟩,_,_,_,_,_,_⟩:=AF4 (G9 D3).d;obtain⟨g0,g1,g2,g3,g4,g5⟩:=(G9 G3).cells;have gf:=(G9 G3).H6 1;have hdl:=(G9 D3).d.ltz;have hkW3:k<W3.heap.size:=AY hk0 (G9 D3).b.size;have y0:W3.cell? ⟨k,34+c*3,G6⟩=G8 (.int .i64 (p.c c).s):=by
   rw[World.cell?,(G9 D3).b.block k hk0,DL c 3];exact(G9 HC).1
  have hgk:g≠k:=by omega
  have hgW:g≠W.heap.size:=by omega
  simp only at e1 g0 g1 g2 g3 g4 g5;go_region;have B4:=GH (((G9 D3).b.setCell (p:=⟨g,1,G6⟩) (by simp only;omega) (.int .i64 (p.c c).s)).drew);have A4:=GH (TAt.next (W:=W3.setCell ⟨g,1,G6⟩ (.int .i64 (p.c c).s)) ((Below.heap_setCell W3 ⟨g,1,G6⟩ (.int .i64 (p.c c).s) _ (by simp only;omega)).trans (G9 D3).a) (AB _ _).drew);have Q4:=GH (((G9 Q3).other (i:=g) (j:=1) (u:=.int .i64 (p.c c).s) (by omega)).next (AB _ _).drew);have G4:=GH (((G9 G3).set (p.c c).s).next (AB _ _).drew);generalize World.drew _=W4 at*;clear D3 Q3 G3 e1 g0 g1 g2 g3 g4 g5 gf y0 hgk hgW hkW3;obtain⟨q0,q1,q2,q3,q4,q5,q6,q7,q8,q9⟩:=(G9 Q4).cells;obtain⟨g0,g1,g2,g3,g4,g5⟩:=(G9 G4).cells;simp only at g0 g1 g2 g3 g4 g5;go_wp2_with fail;refine(G9 CP _ (G9 B4) _).mono ?_;rintro e w5 ⟨rfl,hb5⟩;have A5:=(G9 A4).next hb5;obtain⟨a0,a1,a2,a3,a4,a5,a6⟩:w5.cell? ⟨W.heap.size+1,0,G6⟩=G8 (.int .i64 0)/\w5.cell? ⟨W.heap.size+1,1,G6⟩=G8 (.int .i64 0)/\w5.cell? ⟨W.heap.size+1,2,G6⟩=G8 (.int .i64 0)/\w5.cell? ⟨W.heap.size+1,3,G6⟩=G8 (.string ⟨#[]⟩)/\w5.cell? ⟨W.heap.size+1,4,G6⟩=G8 (.string ⟨#[]⟩)/\w5.cell? ⟨W.heap.size+1,5,G6⟩=G8 (.int .i64 0)/\w5.cell? ⟨W.heap.size+1,6,G6⟩=G8 (.int .i64 0):=⟨A5.c0,A5.c1,A5.c2,A5.c3,A5.c4,A5.c5,A5.c6⟩;have f0:=A5.f 0;have f1:=A5.f 1;have f2:=A5.f 2;have f3:=A5.f 3;have f4:=A5.f 4;have f5:=A5.f 5;have f6:=A5.f 6;generalize hXX:AS3 _ _ _=X at*;generalize hEE:gU _ _ _=E at*;have HXX:=GH hXX;have HEE:=GH hEE;clear hXX hEE;have B5:=GH (PG X (GK (G9 B4) hb5) (show W.heap.size<=W.heap.size+1 by omega));clear A5 hb5 B4 A4 Q4 G4 CP;unfold put7 at B5;go_wp2_with fail;exact bodyPost_ret (v:=.tuple #[.agg #[.int .i64 X.z,.int .i64 X.o,.int .i64 X.s,.string ⟨X.p.toArray⟩,.string ⟨X.d.toArray⟩,.int .i64 X.v,.int .i64 X.w],.int .i64 E]) (by simp[results,results46,go_sem,a0,a1,a2,a3,a4,a5,a6]) rfl ⟨by rw[G9 HXX,G9 HEE];rfl,G9 B5⟩
noncomputable def spS(p:Pw)(d:Dd)(j:Nat):Nat->Ps:=fun k=>if k<j then wSv p d k else p.s k
def spR(p:Pw)(d:Dd)(j:Nat):Nat->Int:=fun k=>if k<j then wRo p d k else p.r k
def spL(p:Pw)(d:Dd)(j:Nat):List Int:=(([0,1,2].take j).filter fun i=>wS p d i).map fun i:Nat=>(i:Int)
section
variable {p:Pw} {d:Dd} {j:Nat}
theorem B97:spS p d 0=p.s/\spR p d 0=p.r:=by constructor<;>funext k<;>simp[spS,spR]
theorem BY9(h:wT p d j=false):spS p d (j+1)=spS p d j:=by
 funext k
 unfold spS;by_cases e:k=j
 .subst e;rw[if_pos (by omega),if_neg (by omega),wSv,if_neg (by simp[h])]
 .simp only[show (k<j+1)↔(k<j) by omega]
theorem CB9(h:wT p d j=true):spS p d (j+1)=LZ (spS p d j) j (TP (wX p d) (wS p d j) (p.s j)):=by
 funext k
 unfold spS LZ;by_cases e:k=j
 .subst e;rw[if_pos (by omega),if_pos rfl,wSv,if_pos h]
 .rw[if_neg e];simp only[show (k<j+1)↔(k<j) by omega]
theorem CO6:spS p d j j=p.s j:=by rw[spS,if_neg (by omega)]
theorem CO7:spR p d j j=p.r j:=by rw[spR,if_neg (by omega)]
theorem CO8(h:wT p d j=false):spR p d (j+1)=LZ (spR p d j) j 0:=by
 funext k
 unfold spR LZ;by_cases e:k=j
 .subst e;rw[if_pos (by omega),if_pos rfl,wRo,if_neg (by simp[h])]
 .rw[if_neg e];simp only[show (k<j+1)↔(k<j) by omega]
theorem AF5(h:wRo p d j=p.r j):spR p d (j+1)=spR p d j:=by
 funext k
 unfold spR;by_cases e:k=j
 .subst e;rw[if_pos (by omega),if_neg (by omega),h]
 .simp only[show (k<j+1)↔(k<j) by omega]
theorem CC0(hj:j<3)(h:wS p d j=true):spL p d (j+1)=spL p d j++[(j:Int)]:=by
 rcases(show j=0\/j=1\/j=2 by omega)with rfl|rfl|rfl<;>simp[spL,List.filter_cons,h]<;>(repeat' split)<;>simp
theorem B98(hj:j<3)(h:wS p d j=false):spL p d (j+1)=spL p d j:=by
 rcases(show j=0\/j=1\/j=2 by omega)with rfl|rfl|rfl<;>simp[spL,List.filter_cons,h]
theorem CC1:(spL p d j).length<=3:=by
 rw[spL,EJ];exact BP (List.length_filter_le _ _) (by simp;omega)
theorem BZ0(i:Nat)(hi:i<3):spS p d 3 i=wSv p d i/\spR p d 3 i=wRo p d i:=by rw[spS,spR,if_pos hi,if_pos hi];exact⟨rfl,rfl⟩
theorem CC3:spL p d 3=(wL p d).map fun i:Nat=>(i:Int):=rfl
theorem CC4(h:p.r j=0):wT p d j=false/\wS p d j=false:=by simp[wS,wT,h]
theorem CC5(h:p.r j=1)(hb:AD4 d.lo j=true):wT p d j=false/\wS p d j=false:=by simp[wS,wT,h,hb]
theorem dF(h:p.r j=1)(hb:AD4 d.lo j=false):wT p d j=true/\wS p d j= !AD4 d.sl j:=by simp[wS,wT,h,hb]
theorem B99(h:p.r j=2):wT p d j=true/\wS p d j=true:=by simp[wS,wT,h]
theorem CO9(h:wT p d j=false):wRo p d j=0:=by rw[wRo,if_neg (by simp[h])]
theorem CC6(h:wT p d j=true):wRo p d j=p.r j:=by rw[wRo,if_pos h]
end
theorem WX.CP0(h:WX W k p){r:Nat->Int}(hs:∀i,i<3->p.s i=s i)(hr:∀i,i<3->p.r i=r i):WX W k ⟨p.n,s,r,p.c,p.D,p.H,p.h⟩:=by
 obtain⟨f,hb,h⟩:=h;exact⟨f,hb,h.n,fun i hi=>by show SvA W k _ (svP i (s i));rw[<-hs i hi];exact h.s i hi,fun i hi=>by show f (31+i)=I0 (r i);rw[<-hr i hi];exact h.r i hi,h.c,h.d,fun i hi b e=>by show ((svP i (s i)).tr.ss≠[]->_)/\((svP i (s i)).ws≠[]->_);rw[<-hs i hi];exact h.h i hi b e,h.hk⟩
theorem WX.hist(h:WX W k p)(H:List GV):WX W k ⟨p.n,p.s,p.r,p.c,p.D,H,p.h⟩:=by
 obtain⟨f,hb,h⟩:=h;exact⟨f,hb,h.n,h.s,h.r,h.c,h.d,h.h,h.hk⟩
theorem WXO.VU(h:WXO W k p v)(hi:i<3)(x:Int):WXO (W.setCell ⟨k,31+i,G6⟩ (I0 x)) k ⟨p.n,p.s,LZ p.r i x,p.c,p.D,p.H,p.h⟩ v:=by
 obtain⟨f,hb,hr,ho⟩:=h;refine⟨_,hb.set (j:=31+i) (by omega) _,WdR.touch (W:=W) ?_ (JQ _ _ _ _),fun g e=>?_⟩
 .refine⟨by rw[GN _ _ (by omega)];exact hr.n,fun j hj=>(hr.s j hj).congr fun q hq=>by rw[GN _ _ (by omega)],fun j hj=>?_,fun j hj=>(hr.c j hj).congr fun q hq=>by rw[GN _ _ (by omega)],by rw[GN _ _ (by omega)];exact hr.d,fun j hj b hb=>by rw[GN _ _ (by omega),GN _ _ (by omega)];exact hr.h j hj b hb,hr.hk⟩;by_cases e:j=i
  .subst e;rw[IU];simp only[IU]
  .rw[GN _ _ (by omega)];simp only[GN _ _ e];exact hr.r j hj
 .have o:=ho g e;exact⟨fun j hj h0=>by rw[GN _ _ (by omega)];exact o.d j hj h0,fun j hj h0=>by rw[GN _ _ (by omega)];exact o.l j hj h0,fun j hj h0=>by rw[GN _ _ (by omega)];exact o.n j hj h0,fun j hj h0=>by rw[GN _ _ (by omega)];exact o.i j hj h0,fun j hj h0=>by rw[GN _ _ (by omega)];exact o.w j hj h0,fun j hj h0=>by rw[GN _ _ (by omega)];exact o.c j hj h0,fun h0=>by rw[GN _ _ (by omega)];exact o.a h0⟩
def BA0(w:FX)(s:Sv)(E:Int)(e:Ending)(w':FX):Prop:=
 ∃ad nd cd al cl an cn ai ci aw cw,e=.returned (.tuple #[.agg #[.bool s.up,FV ad nd cd,I0 s.id,I0 s.ep,FV al s.ts.length cl,I0 s.dn,I0 s.tr.z,FV an s.tr.ns.length cn,FV ai s.tr.ss.length ci,FV aw s.ws.length cw],I0 E])/\
  Hid (SvV w' (.agg #[.bool s.up,FV ad nd cd,I0 s.id,I0 s.ep,FV al s.ts.length cl,I0 s.dn,I0 s.tr.z,FV an s.tr.ns.length cn,FV ai s.tr.ss.length ci,FV aw s.ws.length cw]) s/\Fr5 w.heap.size (FV ad nd cd) (FV al s.ts.length cl) (FV an s.tr.ns.length cn) (FV ai s.tr.ss.length ci) (FV aw s.ws.length cw))/\B0 w w'
theorem BS4{w':FX}{s:Sv}{E:Int}{e:Ending}(h:eX w s E e w')(hf:FrT w e):BA0 w s E e w':=by
 obtain⟨ad,nd,cd,al,nl,cl,an,nn,cn,ai,ni,ci,aw,nw,cw,rfl,hs,hb⟩:=h;obtain⟨hv,h8⟩:=G9 hs;obtain⟨f1,f4,f7,f9⟩:=hf _ _ _ _ _ _ _ _ _ _ _ rfl;obtain⟨ad',nd',cd',al',cl',an',cn',ai',ci',aw',cw',e5,_⟩:=hv.five;simp only[EO,F8,EI,Value.slice.injEq,true_and,and_true]at e5;obtain⟨⟨rfl,rfl,rfl⟩,⟨rfl,rfl,rfl⟩,⟨rfl,rfl,rfl⟩,⟨rfl,rfl,rfl⟩,rfl,rfl,rfl⟩:=e5;exact⟨_,_,_,_,_,_,_,_,_,_,_,rfl,GH ⟨hv,⟨fun g hg=>KY f1 hg,fun g hg=>KY f4 hg,fun g hg=>KY f7 hg,fun g hg=>KY h8 hg,fun g hg=>KY f9 hg⟩⟩,hb⟩
theorem yK{α:Type}[Lay α]{w:FX}{ops:Array Oper}{rest:List Oper}{o:Oper}{a:Act}{Q:Exit->Act->FX->Prop}(hgd:o.guard=G6)(s x:Operand)(T:TypeId)
  (ho:o.op=.call {callee:=.builtin .append,args:=#[s,x],argTypes:=#[T,T]})
  (i0:TypeInfo) (z:FZ) (bytes:Nat) (hU:prog.underlying T=G8 (.slice (Lay.ty α))) (hi0:prog.info? (Lay.ty α)=G8 i0) (hz0:i0.zero=G8 z) (hz1:i0.size=Lay.k α) (hz2:i0.bytes=bytes) (hzs:z.cells.size=Lay.k α) (hk0:0<Lay.k α)
  (v:FZ) (ns:List α) (hs:a.eval s=v) (B:Nat) (hown:I5 w B v ns) (q:Nat) (hx:a.eval x=FV (G8 ⟨q,0,G6⟩) 1 1) (t:α) (hnews:JU w q t) (hl:(ns.length+1)*bytes<=140737488355328) (hm:ns.length+1<=maxLen) (hB:B<=w.heap.size)
  (h:∀a' c' w',I5 w' B (FV a' (ns.length+1) c') (ns++[t])->w.grownBy w' v.ownBlock->(∀g,(Value.slice a' (ns.length+1) c').ownBlock=G8 g->v.ownBlock=G8 g\/w.heap.size<=g)->wpList prog ops Q rest (a.put o.dst (FV a' (ns.length+1) c')) w'):
  wpList prog ops Q (o::rest) a w:=by
 refine wpList_plain hgd fun K hK=>?_;obtain⟨v',w',hr,h2,h3,_,h5⟩:=run_append_own_at (P:=prog) w B T o.type (Lay.ty α) i0 z (Lay.k α) bytes hU hi0 hz0 hz1 hz2 hzs hk0 v ns.length (GL ns) hown.row ⟨q,0,G6⟩ 1 1 (Lay.cs t) (by rw[Lay.len,Nat.one_mul]) (RZ hnews) (Lay.one t) hm hl hB;have h2':I5 w' B v' (ns++[t]):=I5.LD (by rw[AP,JJ];exact h2);have h6:∀g,v'.ownBlock=G8 g->v.ownBlock=G8 g\/w.heap.size<=g:=fun g hg=>by
  rcases h5 with e|e
  .rw[e]at hg;exact .inl hg
  .rw[e]at hg;simp only[Option.some.injEq]at hg;exact .inr (by omega)
 obtain⟨a',c',rfl,_⟩:=h2'.slice;rw[AP,List.length_singleton]at h2' hr h6;unfold Oper.wp execOp;simp only[ho,resolve,invoke,builtin,EG,ER,EH,List.map_toArray,List.map_cons,List.map_nil,hs,hx,hr];exact hK _ _ (h a' c' w' h2' h3 h6)
theorem CC7(r:Nat->Int)(m:Nat)(hm:m<3)(u:FX):(Instr.index 80 (.agg #[I0 (r 0),I0 (r 1),I0 (r 2)]) (I0 m)).run prog u=.ok (I0 (r m)) u:=by
 rcases(show m=0\/m=1\/m=2 by omega)with rfl|rfl|rfl<;>kernel_rfl
theorem pO(d:Dd)(W:FX):G5 prog 19 #[ddV d] W (R0 W (I0 (VR d))):=by
 have HB:=GH (fun o=>GI W o);have C:=GH (fun i m V=>Y0 i m V);obtain⟨dk,dc,ds,⟨o,s,pp,dd,v,f⟩,lo,sl,ke,wt⟩:=d;unfold ddV;by_cases h1:dk=1
 .subst h1
  cases hc:l7 dc 16 with
  |true=>
   rw[show VR ⟨1,dc,ds,⟨o,s,pp,dd,v,f⟩,lo,sl,ke,wt⟩=0 by simp[VR,hc]];go_enter func19,ntmps19;go_wp2_with fail;refine(G9 C _ _ _).mono ?_;rintro e w1 ⟨rfl,rfl⟩;simp only[hc];go_wp2_with fail;go_ret;exact⟨rfl,G9 HB _⟩
  |false=>
   rw[show VR ⟨1,dc,ds,⟨o,s,pp,dd,v,f⟩,lo,sl,ke,wt⟩=3 by simp[VR,hc]];go_enter func19,ntmps19;go_wp2_with fail;refine(G9 C _ _ _).mono ?_;rintro e w1 ⟨rfl,rfl⟩;simp only[hc];go_wp2_with fail;go_ret;exact⟨rfl,G9 HB _⟩
 .by_cases h2:dk=2
  .subst h2
   cases hc:l7 dc 16 with
   |true=>
    cases hs:l7 ds 3 with
    |true=>
     rw[show VR ⟨2,dc,ds,⟨o,s,pp,dd,v,f⟩,lo,sl,ke,wt⟩=0 by simp[VR,hc,hs]];go_enter func19,ntmps19;go_wp2_with fail;refine(G9 C _ _ _).mono ?_;rintro e w1 ⟨rfl,rfl⟩;simp only[hc];go_wp2_with fail;refine(G9 C _ _ _).mono ?_;rintro e w1 ⟨rfl,rfl⟩;simp only[hs];go_wp2_with fail;go_ret;exact⟨rfl,G9 HB _⟩
    |false=>
     rw[show VR ⟨2,dc,ds,⟨o,s,pp,dd,v,f⟩,lo,sl,ke,wt⟩=3 by simp[VR,hc,hs]];go_enter func19,ntmps19;go_wp2_with fail;refine(G9 C _ _ _).mono ?_;rintro e w1 ⟨rfl,rfl⟩;simp only[hc];go_wp2_with fail;refine(G9 C _ _ _).mono ?_;rintro e w1 ⟨rfl,rfl⟩;simp only[hs];go_wp2_with fail;go_ret;exact⟨rfl,G9 HB _⟩
   |false=>
    rw[show VR ⟨2,dc,ds,⟨o,s,pp,dd,v,f⟩,lo,sl,ke,wt⟩=3 by simp[VR,hc]];go_enter func19,ntmps19;go_wp2_with fail;refine(G9 C _ _ _).mono ?_;rintro e w1 ⟨rfl,rfl⟩;simp only[hc];go_wp2_with fail;go_ret;exact⟨rfl,G9 HB _⟩
  .by_cases h3:dk=3\/dk=4
   .rcases h3 with rfl|rfl
    all_goals
     cases hs:l7 ds 3 with
     |true=>
      rw[show VR ⟨_,dc,ds,⟨o,s,pp,dd,v,f⟩,lo,sl,ke,wt⟩=0 by simp[VR,hs]];go_enter func19,ntmps19;go_wp2_with fail;refine(G9 C _ _ _).mono ?_;rintro e w1 ⟨rfl,rfl⟩;simp only[hs];go_wp2_with fail;go_ret;exact⟨rfl,G9 HB _⟩
     |false=>
      rw[show VR ⟨_,dc,ds,⟨o,s,pp,dd,v,f⟩,lo,sl,ke,wt⟩=3 by simp[VR,hs]];go_enter func19,ntmps19;go_wp2_with fail;refine(G9 C _ _ _).mono ?_;rintro e w1 ⟨rfl,rfl⟩;simp only[hs];go_wp2_with fail;go_ret;exact⟨rfl,G9 HB _⟩
   .by_cases h5:dk=5
    .subst h5;rw[show VR ⟨5,dc,ds,⟨o,s,pp,dd,v,f⟩,lo,sl,ke,wt⟩=0 by simp[VR]];go_enter func19,ntmps19;go_wp2_with fail;go_ret;exact⟨rfl,G9 HB _⟩
    .have h33:¬dk=3:=fun e=>h3 (.inl e);have h34:¬dk=4:=fun e=>h3 (.inr e);rw[show VR ⟨dk,dc,ds,⟨o,s,pp,dd,v,f⟩,lo,sl,ke,wt⟩=4 by simp[VR,h1,h2,h33,h34,h5]];clear h3;go_enter func19,ntmps19;go_wp2_with fail;go_ret;exact⟨rfl,G9 HB _⟩
theorem BS5(n:Int):bits .and .i64 n 1=n%2:=by
 show IntKind.i64.wrap ((BitVec.ofInt 64 n&&&BitVec.ofInt 64 1).toNat:Int)=_;rw[BitVec.toNat_and,show (BitVec.ofInt 64 1).toNat=1 by decide,Nat.and_one_is_mod,BitVec.toNat_ofInt,IntKind.wrap_i64];omega
theorem CC8(n:Int)(i:Nat)(hi:i<3)(w:FX):G5 prog 80 #[I0 n,I0 i] w fun e w'=>e=.returned (.bool (AD4 n i))/\w'=w:=by
 have e:∀m:Int,(bits .and .i64 m 1==1)=decide (m%2=1):=fun m=>by rw[BS5];rfl
 have E:=GH e;clear e;unfold AD4;rcases(show i=0\/i=1\/i=2 by omega)with rfl|rfl|rfl
 .go_enter func80,ntmps80;go_wp2_with fail;go_ret;exact⟨by show Ending.returned (.bool (bits .and .i64 n 1==1))=_;rw[G9 E,show n/2^0=n by simp],rfl⟩
 .go_enter func80,ntmps80;go_wp2_with fail;go_ret;exact⟨by show Ending.returned (.bool (bits .and .i64 (n/2) 1==1))=_;rw[G9 E];rfl,rfl⟩
 .go_enter func80,ntmps80;go_wp2_with fail;go_ret;exact⟨by show Ending.returned (.bool (bits .and .i64 (n/4) 1==1))=_;rw[G9 E];rfl,rfl⟩
structure BS6(w W:FX)(q:Nat)(n:Nd):Prop where
 b:B0 w W
 le:w.heap.size<=q
 one:JU W q n
theorem AF6(p d:List UInt8)(c m q v k o n:Int)(hb:B0 w W):BS6 w (W.alloc (FW #[S0 p,S0 d,I0 c,I0 m,I0 q,I0 v,I0 k,I0 o,I0 n] 61)) W.heap.size ⟨p,d,c,m,q,v,k,o,n⟩:=
 ⟨GK hb (GI _ _),hb.size,rG W ⟨p,d,c,m,q,v,k,o,n⟩⟩
theorem sU{b:Nat}(p d:List UInt8)(c m q v k o n:Int)(hb:B0 w W)(hq:w.heap.size<=b)(hz:JU W b WH):
  BS6 w (((((((((W.setCell ⟨b,0,G6⟩ (S0 p)).setCell ⟨b,1,G6⟩ (S0 d)).setCell ⟨b,2,G6⟩ (I0 c)).setCell ⟨b,3,G6⟩ (I0 m)).setCell ⟨b,4,G6⟩ (I0 q)).setCell ⟨b,5,G6⟩ (I0 v)).setCell ⟨b,6,G6⟩ (I0 k)).setCell ⟨b,7,G6⟩ (I0 o)).setCell ⟨b,8,G6⟩ (I0 n)) b ⟨p,d,c,m,q,v,k,o,n⟩:=by
 refine⟨((((((((hb.setCell hq _).setCell hq _).setCell hq _).setCell hq _).setCell hq _).setCell hq _).setCell hq _).setCell hq _).setCell hq _,hq,?_⟩;have h0:W.heap[b]?=G8 (FW #[.string ⟨#[]⟩,.string ⟨#[]⟩,I0 0,I0 0,I0 0,I0 0,I0 0,I0 0,I0 0] 61 (0,0)):=hz;unfold JU;rw[GY _ (GY _ (GY _ (GY _ (GY _ (GY _ (GY _ (GY _ (GY _ h0))))))))];simp;exact⟨rfl,rfl⟩
theorem sV{q:Nat}(h:JU W q WH):(W.cell? ⟨q,0,G6⟩=G8 (.string ⟨#[]⟩)/\W.cell? ⟨q,1,G6⟩=G8 (.string ⟨#[]⟩)/\W.cell? ⟨q,2,G6⟩=G8 (I0 0)/\W.cell? ⟨q,3,G6⟩=G8 (I0 0)/\W.cell? ⟨q,4,G6⟩=G8 (I0 0)/\W.cell? ⟨q,5,G6⟩=G8 (I0 0)/\W.cell? ⟨q,6,G6⟩=G8 (I0 0)/\W.cell? ⟨q,7,G6⟩=G8 (I0 0)/\W.cell? ⟨q,8,G6⟩=G8 (I0 0))/\W.frozen? ⟨q,0,G6⟩=false/\W.frozen? ⟨q,1,G6⟩=false/\W.frozen? ⟨q,2,G6⟩=false/\W.frozen? ⟨q,3,G6⟩=false/\W.frozen? ⟨q,4,G6⟩=false/\W.frozen? ⟨q,5,G6⟩=false/\W.frozen? ⟨q,6,G6⟩=false/\W.frozen? ⟨q,7,G6⟩=false/\W.frozen? ⟨q,8,G6⟩=false:=
 ⟨⟨h.JO 0 _ rfl,h.JO 1 _ rfl,h.JO 2 _ rfl,h.JO 3 _ rfl,h.JO 4 _ rfl,h.JO 5 _ rfl,h.JO 6 _ rfl,h.JO 7 _ rfl,h.JO 8 _ rfl⟩,h.JA 0,h.JA 1,h.JA 2,h.JA 3,h.JA 4,h.JA 5,h.JA 6,h.JA 7,h.JA 8⟩
structure BZ2(w W:FX)(q:Nat)(s z:Int)(v:FZ)(es:List En):Prop where
 b:B0 w W
 le:w.heap.size<=q
 box:NH W q s z v
 v:IV W v es
theorem AF7{s:Int}{es:List En}(h:B0 w W)(ho:I5 W B v es):BZ2 w (W.alloc (FW #[I0 s,I0 z,v] 70)) W.heap.size s z v es:=
 ⟨GK h (GI _ _),h.size,NH.new W s z v,(ho.next (GI _ _)).seq⟩
theorem AF8{v0:FZ}{s:Int}{es:List En}(h:B0 w W)(hk:w.heap.size<=k)(hz:NH W k 0 0 v0)(ho:I5 W B v es)(hB:k<B):BZ2 w (((W.setCell ⟨k,0,G6⟩ (I0 s)).setCell ⟨k,1,G6⟩ (I0 z)).setCell ⟨k,2,G6⟩ v) k s z v es:=
 ⟨((h.setCell hk _).setCell hk _).setCell hk _,hk,(hz.set0.set1).set2,(((ho.PD hB _).PD hB _).PD hB _).seq⟩
def RP(s z:Nat->Int)(a:Nat->Option Addr)(n c:Nat->Nat):Array FZ:=#[I0 (s 0),I0 (z 0),FV (a 0) (n 0) (c 0),I0 (s 1),I0 (z 1),FV (a 1) (n 1) (c 1),I0 (s 2),I0 (z 2),FV (a 2) (n 2) (c 2),I0 (s 3),I0 (z 3),FV (a 3) (n 3) (c 3),I0 (s 4),I0 (z 4),FV (a 4) (n 4) (c 4),I0 (s 5),I0 (z 5),FV (a 5) (n 5) (c 5),I0 (s 6),I0 (z 6),FV (a 6) (n 6) (c 6),I0 (s 7),I0 (z 7),FV (a 7) (n 7) (c 7),I0 (s 8),I0 (z 8),FV (a 8) (n 8) (c 8),I0 (s 9),I0 (z 9),FV (a 9) (n 9) (c 9),I0 (s 10),I0 (z 10),FV (a 10) (n 10) (c 10),I0 (s 11),I0 (z 11),FV (a 11) (n 11) (c 11),I0 (s 12),I0 (z 12),FV (a 12) (n 12) (c 12),I0 (s 13),I0 (z 13),FV (a 13) (n 13) (c 13),I0 (s 14),I0 (z 14),FV (a 14) (n 14) (c 14),I0 (s 15),I0 (z 15),FV (a 15) (n 15) (c 15)]
theorem ix_0(s z:Nat->Int)(a:Nat->Option Addr)(n c:Nat->Nat):∀u:FX,(Instr.index 81 (.agg (RP s z a n c)) (I0 0)).run prog u=.ok (.agg #[I0 (s 0),I0 (z 0),FV (a 0) (n 0) (c 0)]) u:=fun _=>by kernel_rfl
theorem ix_1(s z:Nat->Int)(a:Nat->Option Addr)(n c:Nat->Nat):∀u:FX,(Instr.index 81 (.agg (RP s z a n c)) (I0 1)).run prog u=.ok (.agg #[I0 (s 1),I0 (z 1),FV (a 1) (n 1) (c 1)]) u:=fun _=>by kernel_rfl
theorem ix_2(s z:Nat->Int)(a:Nat->Option Addr)(n c:Nat->Nat):∀u:FX,(Instr.index 81 (.agg (RP s z a n c)) (I0 2)).run prog u=.ok (.agg #[I0 (s 2),I0 (z 2),FV (a 2) (n 2) (c 2)]) u:=fun _=>by kernel_rfl
theorem ix_3(s z:Nat->Int)(a:Nat->Option Addr)(n c:Nat->Nat):∀u:FX,(Instr.index 81 (.agg (RP s z a n c)) (I0 3)).run prog u=.ok (.agg #[I0 (s 3),I0 (z 3),FV (a 3) (n 3) (c 3)]) u:=fun _=>by kernel_rfl
theorem ix_4(s z:Nat->Int)(a:Nat->Option Addr)(n c:Nat->Nat):∀u:FX,(Instr.index 81 (.agg (RP s z a n c)) (I0 4)).run prog u=.ok (.agg #[I0 (s 4),I0 (z 4),FV (a 4) (n 4) (c 4)]) u:=fun _=>by kernel_rfl
theorem ix_5(s z:Nat->Int)(a:Nat->Option Addr)(n c:Nat->Nat):∀u:FX,(Instr.index 81 (.agg (RP s z a n c)) (I0 5)).run prog u=.ok (.agg #[I0 (s 5),I0 (z 5),FV (a 5) (n 5) (c 5)]) u:=fun _=>by kernel_rfl
theorem ix_6(s z:Nat->Int)(a:Nat->Option Addr)(n c:Nat->Nat):∀u:FX,(Instr.index 81 (.agg (RP s z a n c)) (I0 6)).run prog u=.ok (.agg #[I0 (s 6),I0 (z 6),FV (a 6) (n 6) (c 6)]) u:=fun _=>by kernel_rfl
theorem ix_7(s z:Nat->Int)(a:Nat->Option Addr)(n c:Nat->Nat):∀u:FX,(Instr.index 81 (.agg (RP s z a n c)) (I0 7)).run prog u=.ok (.agg #[I0 (s 7),I0 (z 7),FV (a 7) (n 7) (c 7)]) u:=fun _=>by kernel_rfl
theorem ix_8(s z:Nat->Int)(a:Nat->Option Addr)(n c:Nat->Nat):∀u:FX,(Instr.index 81 (.agg (RP s z a n c)) (I0 8)).run prog u=.ok (.agg #[I0 (s 8),I0 (z 8),FV (a 8) (n 8) (c 8)]) u:=fun _=>by kernel_rfl
theorem ix_9(s z:Nat->Int)(a:Nat->Option Addr)(n c:Nat->Nat):∀u:FX,(Instr.index 81 (.agg (RP s z a n c)) (I0 9)).run prog u=.ok (.agg #[I0 (s 9),I0 (z 9),FV (a 9) (n 9) (c 9)]) u:=fun _=>by kernel_rfl
theorem CX0(s z:Nat->Int)(a:Nat->Option Addr)(n c:Nat->Nat):∀u:FX,(Instr.index 81 (.agg (RP s z a n c)) (I0 10)).run prog u=.ok (.agg #[I0 (s 10),I0 (z 10),FV (a 10) (n 10) (c 10)]) u:=fun _=>by kernel_rfl
theorem CX1(s z:Nat->Int)(a:Nat->Option Addr)(n c:Nat->Nat):∀u:FX,(Instr.index 81 (.agg (RP s z a n c)) (I0 11)).run prog u=.ok (.agg #[I0 (s 11),I0 (z 11),FV (a 11) (n 11) (c 11)]) u:=fun _=>by kernel_rfl
theorem CX2(s z:Nat->Int)(a:Nat->Option Addr)(n c:Nat->Nat):∀u:FX,(Instr.index 81 (.agg (RP s z a n c)) (I0 12)).run prog u=.ok (.agg #[I0 (s 12),I0 (z 12),FV (a 12) (n 12) (c 12)]) u:=fun _=>by kernel_rfl
theorem CX3(s z:Nat->Int)(a:Nat->Option Addr)(n c:Nat->Nat):∀u:FX,(Instr.index 81 (.agg (RP s z a n c)) (I0 13)).run prog u=.ok (.agg #[I0 (s 13),I0 (z 13),FV (a 13) (n 13) (c 13)]) u:=fun _=>by kernel_rfl
theorem CX4(s z:Nat->Int)(a:Nat->Option Addr)(n c:Nat->Nat):∀u:FX,(Instr.index 81 (.agg (RP s z a n c)) (I0 14)).run prog u=.ok (.agg #[I0 (s 14),I0 (z 14),FV (a 14) (n 14) (c 14)]) u:=fun _=>by kernel_rfl
theorem CX5(s z:Nat->Int)(a:Nat->Option Addr)(n c:Nat->Nat):∀u:FX,(Instr.index 81 (.agg (RP s z a n c)) (I0 15)).run prog u=.ok (.agg #[I0 (s 15),I0 (z 15),FV (a 15) (n 15) (c 15)]) u:=fun _=>by kernel_rfl
theorem CP5(s z:Nat->Int)(a:Nat->Option Addr)(n c:Nat->Nat)(m:Nat)(hm:m<16)(u:FX):(Instr.index 81 (.agg (RP s z a n c)) (I0 m)).run prog u=.ok (.agg #[I0 (s m),I0 (z m),FV (a m) (n m) (c m)]) u:=by
 rcases(show m=0\/m=1\/m=2\/m=3\/m=4\/m=5\/m=6\/m=7\/m=8\/m=9\/m=10\/m=11\/m=12\/m=13\/m=14\/m=15 by omega)with rfl|rfl|rfl|rfl|rfl|rfl|rfl|rfl|rfl|rfl|rfl|rfl|rfl|rfl|rfl|rfl
 .exact ix_0 s z a n c u
 .exact ix_1 s z a n c u
 .exact ix_2 s z a n c u
 .exact ix_3 s z a n c u
 .exact ix_4 s z a n c u
 .exact ix_5 s z a n c u
 .exact ix_6 s z a n c u
 .exact ix_7 s z a n c u
 .exact ix_8 s z a n c u
 .exact ix_9 s z a n c u
 .exact CX0 s z a n c u
 .exact CX1 s z a n c u
 .exact CX2 s z a n c u
 .exact CX3 s z a n c u
 .exact CX4 s z a n c u
 .exact CX5 s z a n c u
theorem WX.BT2(h:WX W k p){c:Nat->Cl}(he:∀i,i<16->p.c i=c i):WX W k ⟨p.n,p.s,p.r,c,p.D,p.H,p.h⟩:=by
 obtain⟨f,hb,hr⟩:=h;exact⟨f,hb,hr.n,hr.s,hr.r,fun i hi=>by have:=hr.c i hi;rw[he i hi]at this;exact this,hr.d,hr.h,hr.hk⟩
def sW(c:Nat->Cl)(l:List Nt)(m:Nat):Nat->Cl:=fun i=>if i<m then ZR c l i else c i
theorem BB0(c:Nat->Cl)(l:List Nt)(hi:i<16):sW c l 16 i=ZR c l i:=by rw[sW,if_pos hi]
theorem pV(c:Nat->Cl)(l:List Nt)(m i:Nat):LZ (sW c l m) m ⟨(c m).s,(c m).z,UW (c m).s l (c m).es⟩ i=sW c l (m+1) i:=by
 by_cases e:i=m
 .subst e;rw[IU,sW,if_pos (by omega)];rfl
 .rw[GN _ _ e,sW,sW];by_cases h:i<m
  .rw[if_pos h,if_pos (by omega)]
  .rw[if_neg h,if_neg (by omega)]
structure TlI(W wr wx:FX)(k:Nat)(p:Pw)(R1:Nat->Ps)(NN:List Nt)(vn:FZ)(m:Nat):Prop where
 x:WX wx k ⟨p.n,R1,p.r,sW p.c NN m,p.D,p.H,fun b=>p.h b\/vn.ownBlock=G8 b⟩
 n:ZW wx W.heap.size vn NN
 t:Touch (· =k) W wx
 r:Touch (· =k) wr wx
theorem BT3(s z:Nat->Int)(a:Nat->Option Addr)(n c:Nat->Nat)(m:Nat)(hm:m<16):(RP s z a n c)[3*m]?=G8 (I0 (s m))/\(RP s z a n c)[3*m+1]?=G8 (I0 (z m))/\(RP s z a n c)[3*m+2]?=G8 (FV (a m) (n m) (c m)):=by
 rcases(show m=0\/m=1\/m=2\/m=3\/m=4\/m=5\/m=6\/m=7\/m=8\/m=9\/m=10\/m=11\/m=12\/m=13\/m=14\/m=15 by omega)with rfl|rfl|rfl|rfl|rfl|rfl|rfl|rfl|rfl|rfl|rfl|rfl|rfl|rfl|rfl|rfl<;>exact⟨rfl,rfl,rfl⟩
theorem AQ6(w:FX)(k:Nat)(s z:Nat->Int)(a:Nat->Option Addr)(n c:Nat->Nat)(hc:∀m,m<16->w.cell? ⟨k,34+3*m,G6⟩=G8 (I0 (s m))/\w.cell? ⟨k,34+3*m+1,G6⟩=G8 (I0 (z m))/\w.cell? ⟨k,34+3*m+2,G6⟩=G8 (FV (a m) (n m) (c m))):
  (Instr.loadAt 81 (.pointer (G8 ⟨k,34,G6⟩))).run prog w=.ok (.agg (RP s z a n c)) w:=by
 have hl:=run_loadCells_list (P:=prog) (w:=w) ⟨k,34,G6⟩ (RP s z a n c).toList (fun j v hj=>by
  have hj48:j<48:=by
   have:=(AV.1 hj).1;simpa [RP]using this
  rw[Array.getElem?_toList]at hj;have h:=BT3 s z a n c (j/3) (by omega);have hw:=hc (j/3) (by omega);rw[Addr.add_lit];show w.cell? ⟨k,34+j,G6⟩=G8 v;rcases(show j=3*(j/3)\/j=3*(j/3)+1\/j=3*(j/3)+2 by omega)with e|e|e
  .rw[e]at hj⊢;rw[h.1]at hj;rw[<-hj];exact hw.1
  .rw[e]at hj⊢;rw[h.2.1]at hj;rw[<-hj,<-EM];exact hw.2.1
  .rw[e]at hj⊢;rw[h.2.2]at hj;rw[<-hj,<-EM];exact hw.2.2)
 have h48:(RP s z a n c).toList.length=48:=rfl;rw[h48]at hl;simp only[Instr.loadAt,Instr.sureAddr,EG,ER,Result.andThen];unfold loadVar;simp only[EG,isAgg81,sizeOf81,Result.andThen,if_true];rw[hl];rfl
theorem sZ{w:FX}{ops:Array Oper}{rest:List Oper}{o:Oper}{a:Act}{Q:Exit->Act->FX->Prop}(hgd:o.guard=G6)(x:Operand)(ho:o.op=.load 81 x)(k:Nat)(s z:Nat->Int)(ad:Nat->Option Addr)(n c:Nat->Nat)
  (hx:a.eval x=.pointer (G8 ⟨k,34,G6⟩)) (hc:∀m,m<16->w.cell? ⟨k,34+3*m,G6⟩=G8 (I0 (s m))/\w.cell? ⟨k,34+3*m+1,G6⟩=G8 (I0 (z m))/\w.cell? ⟨k,34+3*m+2,G6⟩=G8 (FV (ad m) (n m) (c m)))
  (h:wpList prog ops Q rest (a.put o.dst (.agg (RP s z ad n c))) w):wpList prog ops Q (o::rest) a w:=by
 refine wpList_plain hgd fun K hK=>?_;have hr:=AQ6 w k s z ad n c hc;unfold Oper.wp execOp;simp only[ho,EG,ER,EH,hx,hr];exact hK _ _ h
