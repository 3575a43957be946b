/-
  Part.
-/
import Derived.Test.YtbaacalmgfkojaaGreatDoorLOAD
set_option maxRecDepth 20000
set_option maxHeartbeats 8000000
namespace Go.Proofs.YtbaacalmgfkojaaGreatDoor
open Go.RowKit Go.Proofs.Tryz
open _root_.Nat renaming le_refl->A8,lt_of_lt_of_le->AX,le_trans->BM,mul_comm->DC
open Go.RowKit.Below renaming refl->AA
open _root_.List renaming getElem?_eq_getElem->AL,length_append->AO,mem_of_getElem?->AZ,append_assoc->BQ,pairwise_append->DJ,take_append_drop->DN,take_length->DU,length_map->EG,mem_map->EU
open Go.World renaming cell?->AV
open _root_.Option.some renaming injEq->BD,inj->BN
open Go.Value renaming ownBlock->D8,slice->FQ
open _root_.List.cons renaming injEq->EC
open Go.Value.agg renaming injEq->EK
open _root_.Array.mk renaming injEq->F5
open Go.Obj renaming cells->FT
open Go renaming World->FU,Value->FV,Calls->FW
open _root_.Option renaming none->FX,some->FZ
variable{s:Nat->Ps}{j k i g:Nat}{W V w:FU}{v vd vl vn vs vw:FV}{p:Pw}{e:Int}{b q:Ps}{r:Rq}
def vot(s:Nat->Ps)(j:Nat):List Int:=(([0,1,2].take j).filter fun i=>(s i).up).map fun i:Nat=>(i:Int)
theorem C42(hj:j<3)(h:(s j).up=true):vot s (j+1)=vot s j++[(j:Int)]:=by
 rcases(show j=0\/j=1\/j=2 by omega)with rfl|rfl|rfl<;>simp[vot,List.filter_cons,h]<;>(repeat' split)<;>simp
theorem CH2(hj:j<3)(h:(s j).up=false):vot s (j+1)=vot s j:=by
 rcases(show j=0\/j=1\/j=2 by omega)with rfl|rfl|rfl<;>simp[vot,List.filter_cons,h]
theorem C43(s:Nat->Ps)(j:Nat):(vot s j).length<=3:=by
 rw[vot,EG];exact BM (List.length_filter_le _ _) (by simp;omega)
theorem C44(s:Nat->Ps):vot s 3=(JX s).map fun i:Nat=>(i:Int):=rfl
theorem BM5(i:Nat)(q:Ps):(svP i q).up=q.up:=by
 cases h:q.up
 .rw[TG h]
 .rw[IY h]
theorem kK{U:FU}(h:B0 W V)(hg:V.grownBy U v.ownBlock)(hn:∀g,v.ownBlock=FZ g->W.heap.size<=g):B0 W U:=
 ⟨hg.os.trans h.os,hg.tape.trans h.tape,hg.output.trans h.output,BM h.size hg.size,fun b hb=>(hg.block b (AX hb h.size) (fun e=>by have:=hn b e.symm;omega)).trans (h.block b hb)⟩
theorem B51{α:Type}[Lay α]{B:Nat}{xs:List α}(h:GZ W B v xs):∀g,v.ownBlock=FZ g->B<=g:=fun g hg=>by
 rcases h with⟨rfl,_⟩|⟨g',cap,rfl,hB,_⟩
 .simp[D8]at hg
 .simp only[D8,BD]at hg;omega
theorem nZ(p:Pw)(k:Nat)(W:FU)(hx:WX W k p):FW prog 72 #[wP k] W fun e w'=>∃v,e=.returned v/\GZ w' W.heap.size v ((JX p.s).map fun i:Nat=>(i:Int))/\B0 W w':=by
 obtain⟨t,ht⟩:=hx.sl;have HT:=G6 ht;have IX:=G6 (fun(m:Nat) (hm:m<3) (u:FU)=>C37 (fun i=>svP i (p.s i)) t m hm u);obtain⟨i0,hi0,hz0,hz1,hz2⟩:=zK;clear hx ht;unfold wP;go_enter func72,ntmps72;go_wp2_with (refine rC rfl _ rfl k (fun i=>svP i (p.s i)) t rfl (G5 HT) ?_);clear HT
 go_loopg [3,10] 3 (fun kx s3 s10 wr=>∃j:Nat,∃a c,s10=I0 j/\s3=FQ a (vot p.s j).length c/\j<=3/\3-j<=kx/\Hid (GZ wr W.heap.size (FQ a (vot p.s j).length c) (vot p.s j)/\B0 W wr))
 case atStart=>exact⟨0,FX,0,rfl,rfl,by omega,A8 _,G6 ⟨.inl ⟨rfl,rfl⟩,AA _ _⟩⟩
 case round=>
  obtain⟨j,a,c,rfl,rfl,hj,hg,HI⟩:=hrel;by_cases hlt:j<3
  .have IXm:=G5 IX j hlt;have hl:=C43 p.s j;have hjj:(j:Int)<3:=by omega
   have eu:=BM5 j (p.s j);unfold wV at IXm;generalize svP j (p.s j)=s0 at*;generalize t j=tj at*;obtain⟨up,fs,id,ep,ts,dn,tr,ws⟩:=s0;simp only at eu IXm;subst eu;by_cases hu:(p.s j).up=true
   .have HS:=G6 (C42 hlt hu);rw[hu]at IXm;clear hu;go_upto_region 5 with fail;have B2:=G6 (G8 (G5 HI).2 (G7 wr (FT #[.bool true,FQ tj.ad tj.nd tj.cd,I0 id,I0 ep,FQ tj.al ts.length tj.cl,I0 dn,I0 tr.z,FQ tj.an tr.ns.length tj.cn,FQ tj.ai tr.ss.length tj.ci,FQ tj.aw ws.length tj.cw] 49)));have O2:=G6 ((G5 HI).1.next (G7 wr (FT #[.bool true,FQ tj.ad tj.nd tj.cd,I0 id,I0 ep,FQ tj.al ts.length tj.cl,I0 dn,I0 tr.z,FQ tj.an tr.ns.length tj.cn,FQ tj.ai tr.ss.length tj.ci,FQ tj.aw ws.length tj.cw] 49)));have E2:=(heap_alloc_new wr (FT #[.bool true,FQ tj.ad tj.nd tj.cd,I0 id,I0 ep,FQ tj.al ts.length tj.cl,I0 dn,I0 tr.z,FQ tj.an tr.ns.length tj.cn,FQ tj.ai tr.ss.length tj.ci,FQ tj.aw ws.length tj.cw] 49));generalize wr.alloc _=W2 at*;have e0:W2.cell? ⟨wr.heap.size,0,FX⟩=FZ (.bool true):=by simp[AV,E2]
    clear HI IXm IX E2;have O3:=G6 (fun O=>(G5 O2).next (G7 W2 O));have S3:=G6 (fun O=>BM (G5 B2).size (G7 W2 O).size);go_wp2_with (at_builtin;refine kJ rfl _ _ 44 rfl i0 _ 8 underlying44 hi0 hz0 hz1 hz2 rfl (by decide) _ (vot p.s j) rfl W.heap.size (G5 O3 _) W2.heap.size rfl (j:Int) (qE W2 j) (by omega) (by simp only[maxLen];omega) (G5 S3 _) ?_);intro a8 c8 w8 ho8 hg8;have HO:=G6 ho8;have HB:=G6 (kK (G8 (G5 B2) (G7 W2 _)) hg8 (B51 (G5 O2)));clear ho8 hg8 O3 S3 B2 O2;go_wp2_with fail
    go_roundg (3-(j+1))
    case measure=>omega
    case rel=>exact⟨j+1,a8,c8,by simp,by rw[G5 HS,AO];rfl,by omega,A8 _,G6 ⟨by rw[G5 HS,AO];exact G5 HO,G5 HB⟩⟩
   .have HS:=G6 (CH2 hlt (by simpa using hu));rw[show (p.s j).up=false by simpa using hu]at IXm;clear hu;go_upto_region 5 with fail;have B2:=G6 (G8 (G5 HI).2 (G7 wr (FT #[.bool false,FQ tj.ad tj.nd tj.cd,I0 id,I0 ep,FQ tj.al ts.length tj.cl,I0 dn,I0 tr.z,FQ tj.an tr.ns.length tj.cn,FQ tj.ai tr.ss.length tj.ci,FQ tj.aw ws.length tj.cw] 49)));have O2:=G6 ((G5 HI).1.next (G7 wr (FT #[.bool false,FQ tj.ad tj.nd tj.cd,I0 id,I0 ep,FQ tj.al ts.length tj.cl,I0 dn,I0 tr.z,FQ tj.an tr.ns.length tj.cn,FQ tj.ai tr.ss.length tj.ci,FQ tj.aw ws.length tj.cw] 49)));have E2:=(heap_alloc_new wr (FT #[.bool false,FQ tj.ad tj.nd tj.cd,I0 id,I0 ep,FQ tj.al ts.length tj.cl,I0 dn,I0 tr.z,FQ tj.an tr.ns.length tj.cn,FQ tj.ai tr.ss.length tj.ci,FQ tj.aw ws.length tj.cw] 49));generalize wr.alloc _=W2 at*;have e0:W2.cell? ⟨wr.heap.size,0,FX⟩=FZ (.bool false):=by simp[AV,E2]
    clear HI IXm IX E2;go_wp2_with fail
    go_roundg (3-(j+1))
    case measure=>omega
    case rel=>exact⟨j+1,a,c,by simp,by rw[G5 HS],by omega,A8 _,G6 ⟨by rw[G5 HS];exact G5 O2,G5 B2⟩⟩
  .obtain rfl:j=3:=by omega
   go_wp2_with fail;go_ret;exact⟨_,rfl,by rw[<-C44];exact(G5 HI).1,(G5 HI).2⟩
theorem WX.sl2(h:WX W k p):∃t:Nat->Sl,∀i,i<3->Srv W k (1+10*i) (svP i (p.s i)).up (svP i (p.s i)).id (svP i (p.s i)).ep (svP i (p.s i)).dn (svP i (p.s i)).tr.z (FQ (t i).ad (t i).nd (t i).cd) (FQ (t i).al (svP i (p.s i)).ts.length (t i).cl) (FQ (t i).an (svP i (p.s i)).tr.ns.length (t i).cn) (FQ (t i).ai (svP i (p.s i)).tr.ss.length (t i).ci) (FQ (t i).aw (svP i (p.s i)).ws.length (t i).cw)/\NI W (FQ (t i).al (svP i (p.s i)).ts.length (t i).cl) (svP i (p.s i)).ts:=by
 have e:∀i,∃t:Sl,i<3->Srv W k (1+10*i) (svP i (p.s i)).up (svP i (p.s i)).id (svP i (p.s i)).ep (svP i (p.s i)).dn (svP i (p.s i)).tr.z (FQ t.ad t.nd t.cd) (FQ t.al (svP i (p.s i)).ts.length t.cl) (FQ t.an (svP i (p.s i)).tr.ns.length t.cn) (FQ t.ai (svP i (p.s i)).tr.ss.length t.ci) (FQ t.aw (svP i (p.s i)).ws.length t.cw)/\NI W (FQ t.al (svP i (p.s i)).ts.length t.cl) (svP i (p.s i)).ts:=fun i=>by
  by_cases hi:i<3
  .obtain⟨ad,nd,cd,al,cl,an,cn,ai,ci,aw,cw,S,hv,_⟩:=h.srv hi rfl;obtain⟨vd,vl,vn,vs,vw,e,_,r2,_⟩:=hv;simp only[EK,F5,EC]at e;exact⟨⟨ad,nd,cd,al,cl,an,cn,ai,ci,aw,cw⟩,fun _=>⟨S,by rw[<-e.2.2.2.2.1]at r2;exact r2⟩⟩
  .exact⟨⟨FX,0,0,FX,0,FX,0,FX,0,FX,0⟩,fun h=>absurd h hi⟩
 exact⟨fun i=>(e i).choose,fun i hi=>(e i).choose_spec hi⟩
noncomputable def peP(p:Pw)(t:Nat->Sl)(i:Nat):Pe:=⟨(svP i (p.s i)).id,(svP i (p.s i)).ep,(t i).al,(t i).cl,(svP i (p.s i)).ts,(svP i (p.s i)).dn⟩
theorem B52(w:FU)(i e:Int)(a:Option Addr)(c:Nat)(ts:List GI)(d:Int):JM (w.alloc (FT #[I0 i,I0 e,FQ a ts.length c,I0 d] 39)) w.heap.size (⟨i,e,a,c,ts,d⟩:Pe):=heap_alloc_new w _
theorem CH3{t:Nat->Sl}(h:(p.s i).up=true):kk (peP p t i)=((i:Int),(p.s i).e,IZ (p.s i).m):=by
 simp only[kk,peP,IY h]
theorem o7(p:Pw)(k:Nat)(W:FU)(v:FV)(l:List Nat)(hx:WX W k p)(hv:IL W v (l.map fun i:Nat=>(i:Int)))(hl:∀i∈l,i<3)(hln:l.length<=3):
  FW prog 74 #[wP k,v] W fun e w'=>∃u t,e=.returned u/\GZ w' W.heap.size u (l.map (peP p t))/\qL w' (l.map (peP p t))/\B0 W w':=by
 obtain⟨t,ht⟩:=hx.sl2;have HT:=G6 ht;have HV:=G6 hv;have HL:=G6 hl;have hkl:=hx.lt;obtain⟨i0,hi0,hz0,hz1,hz2⟩:=CP6;obtain⟨a,c,rfl⟩:=GK hv;rw[EG]at HV⊢;clear hx ht hv hl;unfold wP;go_enter func74,ntmps74;go_wp2_with fail
 go_loopg [5,10] l.length (fun kx s5 s10 wr=>∃j:Nat,∃a c,s10=I0 j/\s5=FQ a j c/\j<=l.length/\l.length-j<=kx/\Hid (GZ wr W.heap.size (FQ a j c) ((l.take j).map (peP p t))/\B0 W wr))
 case atStart=>exact⟨0,FX,0,rfl,rfl,by omega,A8 _,G6 ⟨.inl ⟨rfl,rfl⟩,AA _ _⟩⟩
 case round=>
  obtain⟨j,a2,c2,rfl,rfl,hj,hg,HI⟩:=hrel;by_cases hlt:j<l.length
  .obtain⟨i,hi⟩:∃i,l[j]?=FZ i:=⟨_,AL hlt⟩;have hi3:=G5 HL i (AZ hi);have HS:=G6 (show (l.take (j+1)).map (peP p t)=(l.take j).map (peP p t)++[peP p t i] by rw[PU hi,List.map_append];rfl);have hlj:((l.take j).map (peP p t)).length=j:=by simp;omega
   obtain⟨b,off,cap,he,hb,hrow,_,_⟩:=NT ((G5 HV).next (G5 HI).2) (by intro h0;rw[List.map_eq_nil_iff]at h0;rw[h0]at hlt;simp at hlt);simp only[EG,Value.slice.injEq]at he;obtain⟨rfl,_,rfl⟩:=he;have d0:=hrow.i0 (i:=j) (x:=(i:Int)) (by rw[List.getElem?_map,hi];rfl);obtain⟨_,_,e2,e3,e4,e5,_⟩:=(G5 HT i hi3).1.next hkl (G5 HI).2;rw[DC 10 i]at e2 e3 e4 e5;have hjj:(j:Int)<(l.length:Int):=by omega
   have hi4:(i:Int)<3:=by omega
   have B2:=G6 (G5 HI).2;have O2:=G6 (G5 HI).1;clear HI hrow hi HV;generalize hs0:svP i (p.s i)=s0 at*;have HP:Hid (peP p t i=⟨s0.id,s0.ep,(t i).al,(t i).cl,s0.ts,s0.dn⟩):=G6 (by rw[peP,hs0]);clear hs0;have O3:=G6 (fun O=>(G5 O2).next (G7 wr O));have S3:=G6 (fun O=>BM (G5 B2).size (G7 wr O).size);go_wp2_with (at_builtin;refine kJ rfl _ _ 152 rfl i0 _ 48 underlying152 hi0 hz0 hz1 hz2 rfl (by decide) _ ((l.take j).map (peP p t)) rfl W.heap.size (G5 O3 _) wr.heap.size rfl (⟨s0.id,s0.ep,(t i).al,(t i).cl,s0.ts,s0.dn⟩:Pe) (B52 wr _ _ _ _ _ _) (by rw[hlj];omega) (by rw[hlj];simp only[maxLen];omega) (G5 S3 _) ?_);intro a8 c8 w8 ho8 hg8;have HO:=G6 ho8;have HB:=G6 (kK (G8 (G5 B2) (G7 wr _)) hg8 (B51 (G5 O2)));clear ho8 hg8 O3 S3 B2 O2;go_wp2_with fail
   go_roundg (l.length-(j+1))
   case measure=>omega
   case rel=>exact⟨j+1,a8,c8,by simp,rfl,by omega,A8 _,G6 ⟨by rw[G5 HS,G5 HP,List.map_take];exact G5 HO,G5 HB⟩⟩
  .obtain rfl:j=l.length:=by omega
   rw[DU]at HI;go_wp2_with fail;go_ret;exact⟨_,t,rfl,(G5 HI).1,fun q hq=>by
    obtain⟨i,hi,rfl⟩:=EU.1 hq;exact((G5 HT i (G5 HL i hi)).2).next (G5 HI).2,(G5 HI).2⟩
theorem BM6{m:List GI}{t:GI}(e:Int)(h:Logs (m++[t]))(hl:m.length<=300):YF 157 (fun x=>#[x,J7 t,.bool true]) [Y0 e,OT m] [Y0 e,OT (m++[t])] 0:=by
 have hg:=(Logs.at (a:=m) (b:=[]) h).1;have hx:=qU e;have h1:=qQ h.left hl;have h2:=iD hg;have g0:LK [Y0 e,OT m]:=TD hx (by simp;omega);have g1:LK [Y0 e,⟨NK,I9 m,QK t⟩]:=TD hx (by omega);refine nH [Y0 e,OT m] [Y0 e,⟨NK,I9 m,QK t⟩] [Y0 e,OT (m++[t])] t 0 hg (MO fun v W hv=>?_) (cZ fun v W hv=>?_)
 .have:=iW v [Y0 e,OT m] [Y0 e] [] (OT m) NK (QK t) W hv (JR g0) g0 (jV _ _ _ _) (by simp only[OT,List.length_nil];omega);simpa [OT]using this
 .have:=XO v [Y0 e,⟨NK,I9 m,QK t⟩] [Y0 e] [] ⟨NK,I9 m,QK t⟩ NK W hv (JR g1) g1 (jV _ _ _ _);simpa [OT,PG]using this
theorem CH4{m:List GI}{e0:Int}(he:zIn e=true)(hm:(I9 m).length<=1048576):jR 111 (fun x=>#[x,I0 e]) (epD e0++[OT m]) [Y0 e,OT m] 0:=by
 by_cases h0:e0=0
 .subst h0;rw[AA0];exact C16 he hm
 .rw[A19 h0];have hx:=ZO (KU e 0);have g0:LK [Y0 e0,OT m]:=TD (qU e0) (by simpa using hm);have gl:LK [OT m]:=aG (by simpa using hm);have g1:LK [⟨JF,[],QF (KU e 0)⟩,OT m]:=TD (by simp;omega) (by simpa using hm);refine A10 [Y0 e0,OT m] [OT m] [⟨JF,[],QF (KU e 0)⟩,OT m] [Y0 e,OT m] e 0 (TP he (by decide)).2 (MO fun v W hv=>?_) (MO fun v W hv=>?_) (MO fun v W hv=>?_)
  .exact uI v [Y0 e0,OT m] [] [OT m] (Y0 e0) JF W hv (JR g0) g0 (aI _ _ _ _)
  .exact ZU v [OT m] [] [OT m] JF (QF (KU e 0)) W hv (JR gl) gl YN (by simp) (dF (I9 m) []) (by omega)
  .have:=XO v _ [] [OT m] ⟨JF,[],QF (KU e 0)⟩ JF W hv (JR g1) g1 (aI [] (QF (KU e 0)) (I9 m) []);simpa [Y0]using this
theorem B53{a b:List GI}(ha:Logs a)(hp:∀x∈a,0<x.z){z:Int}(hz:CP0 b (KQ a b) z):SI z a=a.take (KQ a b):=by
 rcases hz with⟨h0,rfl⟩|⟨x,h0,hx,rfl⟩
 .rw[h0,List.take_zero]
  cases a with
  |nil=>rfl
  |cons t r=>
   have:=hp t (by simp);unfold SI;rw[List.takeWhile_cons_of_neg (by simp;omega)]
 .obtain⟨x',y',h1,h2,h3⟩:=jI a b (KQ a b-1) (by omega);rw[hx]at h2
  cases h2
  rw[<-h3,C17 ha h1,show KQ a b-1+1=KQ a b by omega]
theorem CH5(a b:List GI):∃z,CP0 b (KQ a b) z:=by
 by_cases h0:KQ a b=0
 .exact⟨-1,.inl ⟨h0,rfl⟩⟩
 .obtain⟨x,y,_,h2,_⟩:=jI a b (KQ a b-1) (by omega);exact⟨y.z,.inr ⟨y,by omega,h2,rfl⟩⟩
theorem BM7{a b:List GI}(h:∀x∈a,∀y∈b,x.z=y.z->x=y):a.take (KQ a b)=b.take (KQ a b):=by
 obtain⟨k1,k2⟩:=WR a b
 apply List.ext_getElem?
 intro i;by_cases hi:i<KQ a b
 .obtain⟨x,y,h1,h2,h3⟩:=jI a b i hi;rw[List.getElem?_take_of_lt hi,List.getElem?_take_of_lt hi,h1,h2,h x (AZ h1) y (AZ h2) h3]
 .rw[List.getElem?_eq_none (by simp;omega),List.getElem?_eq_none (by simp;omega)]
theorem B54(ok:MI 300 q)(hu:q.up=true)(okb:MI 300 b)(he:1<=e/\e<=300)(hd:q.dn<=KQ q.m b.m)(h1:∀x∈q.m,∀y∈b.m,x.z=y.z->x=y)(v vl:FV)(w:FU)(hv:SvV w v (svP i q))(hvl:NI w vl b.m)(ht:dB w):
  FW prog 75 #[v,vl,I0 e] w (dA w (svP i (wJ e b.m q)) 0):=by
 obtain⟨r1,r2⟩:=ok.small;obtain⟨b1,b2⟩:=okb.small;have r3:=UF q.m q.a;obtain⟨z,hz⟩:=CH5 q.m b.m;have hzi:zIn e=true:=PD.2 ⟨by omega,by omega⟩;have hs:=BM7 h1;obtain⟨k1,k2⟩:=WR q.m b.m;have hts:(svP i q).ts=q.m:=by rw[IY hu]
 have G:MX 110 (fun g=>#[g,I0 z]) (svP i q).fs (epD q.e++[OT (q.m.take (KQ q.m b.m))]) 0:=by
  have R:YE (epD q.e++[⟨NK,I9 (q.m.take q.a),I9 (q.m.drop q.a)⟩]) q.m (epD q.e) []:=⟨YW (by omega),ok.log,.inr ⟨_,[],fZ _ _ _,by
   have:=sK ok.log;rw[<-LD,DN];exact this⟩⟩
  have:=BJ6 R z;rw[B53 ok.log ok.pos hz]at this;rw[IY hu];exact this
 have hlk:Logs (q.m.take (KQ q.m b.m)):=ok.log.take _;have hrk:(I9 (q.m.take (KQ q.m b.m))).length<=146100:=qQ hlk (by simp;omega);have R:=CH4 (e0:=q.e) hzi (show (I9 (q.m.take (KQ q.m b.m))).length<=1048576 by omega);have gd:LK [Y0 e,OT (q.m.take (KQ q.m b.m))]:=TD (qU e) (by simp;omega);have hbb:b.m=b.m.take (KQ q.m b.m)++b.m.drop (KQ q.m b.m):=(DN _ _).symm;have step:∀j x,(b.m.drop (KQ q.m b.m))[j]?=FZ x->CF0 ⟨true,[Y0 e,OT (q.m.take (KQ q.m b.m)++(b.m.drop (KQ q.m b.m)).take j)],i,e,q.m.take (KQ q.m b.m)++(b.m.drop (KQ q.m b.m)).take j,q.dn,RJ q.m q.dn,q.ws⟩ x ⟨true,[Y0 e,OT (q.m.take (KQ q.m b.m)++(b.m.drop (KQ q.m b.m)).take (j+1))],i,e,q.m.take (KQ q.m b.m)++(b.m.drop (KQ q.m b.m)).take (j+1),q.dn,RJ q.m q.dn,q.ws⟩:=by
  intro j x hx;have e1:b.m=(q.m.take (KQ q.m b.m)++(b.m.drop (KQ q.m b.m)).take j)++x::(b.m.drop (KQ q.m b.m)).drop (j+1):=by
   rw[hs,BQ,<-BJ7 hx];exact hbb
  have e2:q.m.take (KQ q.m b.m)++(b.m.drop (KQ q.m b.m)).take (j+1)=(q.m.take (KQ q.m b.m)++(b.m.drop (KQ q.m b.m)).take j)++[x]:=by rw[PI hx,BQ]
  have hL:=okb.log;rw[e1]at hL;have hg:=hL.good x (by simp);have hL1:Logs ((q.m.take (KQ q.m b.m)++(b.m.drop (KQ q.m b.m)).take j)++[x]):=by
   have:Logs (((q.m.take (KQ q.m b.m)++(b.m.drop (KQ q.m b.m)).take j)++[x])++(b.m.drop (KQ q.m b.m)).drop (j+1)):=by simpa using hL
   exact this.left
  have hx2:=XB hg;have hlen:(q.m.take (KQ q.m b.m)++(b.m.drop (KQ q.m b.m)).take j).length<=300:=by
   have:=congrArg List.length e1;rw[AO]at this;omega
  have hlast:¬x.z<=IZ (q.m.take (KQ q.m b.m)++(b.m.drop (KQ q.m b.m)).take j):=by
   intro hle;by_cases hn:q.m.take (KQ q.m b.m)++(b.m.drop (KQ q.m b.m)).take j=[]
   .rw[hn,VT]at hle;have:=okb.pos x (List.mem_of_mem_drop (AZ hx));omega
   .obtain⟨y,hy,hyz⟩:=ZC hn;have:=(DJ.1 hL1.rise).2.2 y hy x (by simp);omega
  refine⟨hlast,by omega,by omega,BM hlen (by decide),[Y0 e,OT ((q.m.take (KQ q.m b.m)++(b.m.drop (KQ q.m b.m)).take j)++[x])],by rw[e2],BM6 e hL1 hlen⟩
 have main:=B22 (svP i q) v vl b.m e w hv hvl (ok.fits hu) (by omega) ht (by rw[hts,IY hu];show ¬ ((KQ q.m b.m:Nat):Int)<(q.dn:Int);omega) z _ _ (by rw[hts];exact hz) G R gd (fun j=>⟨true,[Y0 e,OT (q.m.take (KQ q.m b.m)++(b.m.drop (KQ q.m b.m)).take j)],i,e,q.m.take (KQ q.m b.m)++(b.m.drop (KQ q.m b.m)).take j,q.dn,RJ q.m q.dn,q.ws⟩) (by rw[hts,IY hu];simp) (by rw[hts];exact step);rw[hts]at main;have e3:svP i (wJ e b.m q)=⟨true,[Y0 e,OT (q.m.take (KQ q.m b.m)++(b.m.drop (KQ q.m b.m)).take (b.m.drop (KQ q.m b.m)).length)],i,e,q.m.take (KQ q.m b.m)++(b.m.drop (KQ q.m b.m)).take (b.m.drop (KQ q.m b.m)).length,q.dn,RJ q.m q.dn,q.ws⟩:=by
  have et:RJ q.m q.dn=RJ b.m q.dn:=by
   rw[<-kE q.m hd,<-kE b.m hd,hs]
  rw[DU,hs,DN,et,IY (p:=wJ e b.m q) rfl];simp[wJ,A19 (show e≠0 by omega),OT,I9]
 rw[e3];exact main
theorem xB(ok:MI 300 q)(hu:q.up=true)(okb:MI 300 b)(hd:KQ q.m b.m<q.dn)(v vl:FV)(w:FU)(hv:SvV w v (svP i q))(hvl:NI w vl b.m):
  FW prog 75 #[v,vl,I0 e] w (nI w 13):=by
 obtain⟨b1,b2⟩:=okb.small;exact AK7 (svP i q) v vl b.m e w hv hvl (ok.fits hu) (by omega) (by rw[IY hu];show ((KQ q.m b.m:Nat):Int)<(q.dn:Int);omega)
structure El(p:Pw):Prop where
 ok:∀i,i<3->MI 300 (p.s i)
 cl:∀i,i<16->rY 300 p.H i (p.c i)
 en:1<=eN p.s/\eN p.s<=300
 one:∀i j,i<3->j<3->∀x∈(p.s i).m,∀y∈(p.s j).m,x.z=y.z->x=y
 fol:¬ (JX p.s).length<2->AO3 p.s=false->∀i,i<3->MI 300 (eS p.s i)
 fin:¬ (JX p.s).length<2->AO3 p.s=false->∀i,i<3->MI 300 ((LV (eS p.s) (JX p.s)).1 i)
theorem MI.fol{N:Int}(hq:MI N q)(hb:MI N b)(he:0<=e/\e<=N)(hd:q.dn<=KQ q.m b.m):MI N (wJ e b.m q):=
 ⟨hb.log,hb.pos,hb.len,A8 _,he.1,he.2,BM hd (WR q.m b.m).2,hb.play,hq.wl,hq.wk,fun h=>by simp[wJ]at h,fun _=>rfl⟩
theorem CQ3{q:Pw}(h:SH q)(hn:q.n<300):El (NM q):=by
 have hok:∀i,i<3->MI 300 (q.s i):=fun i hi=>(h.s i hi).more (by omega);refine⟨hok,fun i hi=>(h.c i hi).more (by omega) (fun _ hx=>hx),?_,fun i j hi hj x hx y hy e=>h.a.one x (h.a.hist i hi x (by rw[LQ hi];exact hx)) y (h.a.hist j hj y (by rw[LQ hj];exact hy)) e,fun h2 hb i hi=>?_,fun h2 hb i hi=>?_⟩
 .have:=C33 h;show 1<=eN q.s/\eN q.s<=300;omega
 .show MI 300 (eS q.s i);have hB:=KN.1 (B38 (s:=q.s) (show 2<=(JX q.s).length from Nat.le_of_not_lt h2));unfold eS
  split
  .rename_i hu
   have:=C33 h;exact MI.fol (hok i hi) (hok _ hB.1) (by omega) (B39 (s:=q.s) hb (KN.2 ⟨hi,hu.1⟩))
  .exact hok i hi
 .exact((nX h hn h2 hb).s i hi).more (by show q.n+1<=300;omega)
theorem AB7(h:∀i,i<3->MI 300 (s i)):BS6 (QH s) 0:=by
 refine .inl ⟨rfl,fun i k hi=>?_⟩;have hlt:i<(JX s).length:=by have:=(List.getElem?_eq_some_iff.1 hi).1;rwa[aS]at this
 unfold QH at hi;rw[List.getElem?_map,AL hlt]at hi;simp only[Option.map_some,BD]at hi;subst hi;have hm:=List.getElem_mem hlt;obtain⟨h3,_⟩:=KN.1 hm;have ok:=h _ h3;have h0:=ok.e0;have h1:=ok.e1;unfold A99;rw[if_neg,if_neg (by simp only;omega),if_neg (by simp only;omega)];intro ha;rw[List.any_eq_true]at ha;obtain⟨q,hq,e⟩:=ha;rw[QH,<-List.map_take]at hq;obtain⟨j,hj,rfl⟩:=EU.1 hq;have e':j=(JX s)[i]:=by
  have:(j:Int)=((JX s)[i]:Nat):=by simpa using e
  omega
 have hnd:=UG s;rw[<-DN i (JX s)]at hnd;have hd:(JX s)[i]∈(JX s).drop i:=AZ (i:=0) (by rw[List.getElem?_drop];simp[AL hlt]);exact(DJ.1 hnd).2.2 j hj _ hd e'
theorem BM8(h:∀i,i<3->MI 300 (s i))(h2:(JX s).length<2):CP5 (QH s) 0 0 14:=⟨0,AB7 h,.inr ⟨rfl,.inl ⟨by rw[aS];exact h2,rfl,rfl,rfl⟩⟩⟩
theorem B55(h:El p)(h2:¬ (JX p.s).length<2):CP5 (QH p.s) (MH (QH p.s) (JX p.s).length:Nat) (eN p.s) 0:=
 ⟨0,AB7 h.ok,.inr ⟨rfl,.inr ⟨by rw[aS];omega,.inr ⟨by have:=h.en;unfold eN at this;omega,by rw[aS],rfl,rfl⟩⟩⟩⟩
theorem B56(h2:¬ (JX s).length<2):MH (QH s) (JX s).length<(JX s).length:=by
 have:=WY (QH s) (JX s).length;omega
theorem C45(h2:¬ (JX s).length<2):(JX s)[MH (QH s) (JX s).length]?=FZ (eB s):=by
 have:=B56 h2;rw[eB,List.getD_eq_getElem?_getD,AL this];rfl
def elS(s:Nat->Ps)(j:Nat):Nat->Ps:=fun k=>if k∈(JX s).take j then wJ (eN s) (s (eB s)).m (s k)else s k
def elR(s:Nat->Ps)(j:Nat):Nat->Int:=fun k=>if k∈(JX s).take j then 1 else 0
theorem BM9(s:Nat->Ps):elS s 0=s:=by funext k;simp[elS]
theorem BN0(s:Nat->Ps):elR s 0=fun _=>0:=by funext k;simp[elR]
theorem BN1(h:(JX s)[j]?=FZ i):elS s (j+1)=LU (elS s j) i (wJ (eN s) (s (eB s)).m (s i)):=by
 funext k
 unfold elS LU;rw[PU h];by_cases e:k=i
 .subst e;rw[if_pos (by simp),if_pos rfl]
 .rw[if_neg e];congr 1;simp[e]
theorem BN2(h:(JX s)[j]?=FZ i):elR s (j+1)=LU (elR s j) i 1:=by
 funext k
 unfold elR LU;rw[PU h];by_cases e:k=i
 .subst e;rw[if_pos (by simp),if_pos rfl]
 .rw[if_neg e];congr 1;simp[e]
theorem C46(s:Nat->Ps):elS s (JX s).length=eS s:=by
 funext k
 unfold elS eS;rw[DU]
 congr 1
 rw[KN];exact propext ⟨fun h=>⟨h.2,h.1⟩,fun h=>⟨h.2,h.1⟩⟩
theorem C47:LU (elR s (JX s).length) (eB s) 2=eR s:=by
 funext k
 unfold elR eR LU;rw[DU];by_cases e:k=eB s
 .rw[if_pos e,if_pos e]
 .rw[if_neg e,if_neg e];show (if k∈JX s then(1:Int)else 0)=_
  congr 1
  rw[KN];exact propext ⟨fun h=>⟨h.2,h.1⟩,fun h=>⟨h.2,h.1⟩⟩
theorem C48(h:(JX s)[j]?=FZ i):elS s j i=s i:=by
 unfold elS;rw[if_neg];intro hm;have hnd:=UG s;rw[<-DN j (JX s)]at hnd;have hd:i∈(JX s).drop j:=AZ (i:=0) (by rw[List.getElem?_drop];simpa using h);exact(DJ.1 hnd).2.2 i hm i hd rfl
theorem C49(h:i∈JX s)(hb:KQ (s i).m (s (eB s)).m<(s i).dn):AO3 s=true:=by
 unfold AO3;rw[List.any_eq_true];exact⟨i,h,by simpa using hb⟩
theorem CH6(h:∀i∈JX s,(s i).dn<=KQ (s i).m (s (eB s)).m):AO3 s=false:=by
 unfold AO3;rw[List.any_eq_false];intro i hi;have:=h i hi;simp;omega
theorem dJ(s:Nat->Ps):(JX s).length<=3:=BM (List.length_filter_le _ _) (by simp)
theorem CH7(h:dB W)(hx:WX W k p):1≠k:=by
 intro e;have h1:=h.cell B15 0 (by decide);have h2:=hx.count;rw[<-e]at h2;rw[h2]at h1;simp[Lib.pow10Tab]at h1
theorem dB.touch{F:Nat->Prop}(h:dB W)(ht:Touch F W V)(hF:¬F 1):dB V:=by
 have hlt:=B16 h;unfold dB Lib.TabIs World.var? at h⊢;simp only[B15,Option.bind_some]at h⊢;rw[ht.block _ hlt hF];exact h
theorem gB(h:dB W)(hx:WX W k p)(ht:Touch (· =k) W V):dB V:=h.touch ht (CH7 h hx)
structure BxS(w V:FU)(q:Nat)(s:Sv)(vd vl vn vs vw:FV):Prop where
 b:Below w.heap.size w V
 le:w.heap.size<=q
 box:IC V q s.up vd s.id s.ep vl s.dn s.tr.z vn vs vw
theorem C50{w1:FU}{s:Sv}(h:Below w.heap.size w w1):BxS w (w1.alloc (FT #[.bool s.up,vd,.int .i64 s.id,.int .i64 s.ep,vl,.int .i64 s.dn,.int .i64 s.tr.z,vn,vs,vw] 49)) w1.heap.size s vd vl vn vs vw:=
 ⟨G8 h (G7 _ _),h.size,IC.new _ _ _ _ _ _ _ _ _ _ _⟩
theorem C51{w1:FU}{q:Nat}{s:Sv}(h:Below w.heap.size w w1)(hq:w.heap.size<=q)(hz:IC w1 q false (FQ FX 0 0) 0 0 (FQ FX 0 0) 0 0 (FQ FX 0 0) (FQ FX 0 0) (FQ FX 0 0)):BxS w (OY w1 q (.bool s.up) vd (.int .i64 s.id) (.int .i64 s.ep) vl (.int .i64 s.dn) (.int .i64 s.tr.z) vn vs vw) q s vd vl vn vs vw:=
 ⟨JJ h hq _ _ _ _ _ _ _ _ _ _,hq,jU hz _ _ _ _ _ _ _ _ _ _⟩
def RqB(W:FU)(g:Nat)(r:Rq):Prop:=W.heap[g]?=FZ (FT #[.int .i64 r.o,.int .i64 r.s,.string ⟨r.p.toArray⟩,.string ⟨r.d.toArray⟩,.int .i64 r.v,.int .i64 r.f] 28 (0,0))
theorem RqB.new(w:FU)(r:Rq):RqB (w.alloc (FT #[.int .i64 r.o,.int .i64 r.s,.string ⟨r.p.toArray⟩,.string ⟨r.d.toArray⟩,.int .i64 r.v,.int .i64 r.f] 28)) w.heap.size r:=heap_alloc_new w _
theorem RqB.lt(h:RqB W g r):g<W.heap.size:=(Array.getElem?_eq_some_iff.1 h).1
theorem RqB.next(h:RqB W g r)(hb:Below W.heap.size W V):RqB V g r:=(hb.block g h.lt).trans h
theorem RqB.cells(h:RqB W g r):W.cell? ⟨g,0,FX⟩=FZ (.int .i64 r.o)/\W.cell? ⟨g,1,FX⟩=FZ (.int .i64 r.s)/\W.cell? ⟨g,2,FX⟩=FZ (.string ⟨r.p.toArray⟩)/\W.cell? ⟨g,3,FX⟩=FZ (.string ⟨r.d.toArray⟩)/\W.cell? ⟨g,4,FX⟩=FZ (.int .i64 r.v)/\W.cell? ⟨g,5,FX⟩=FZ (.int .i64 r.f):=by
 unfold RqB at h;refine⟨?_,?_,?_,?_,?_,?_⟩<;>simp[AV,h]
theorem RqB.GN(h:RqB W g r)(j:Nat):W.frozen? ⟨g,j,FX⟩=false:=by
 unfold RqB at h;simp[World.frozen?,h]
theorem RqB.set(h:RqB W g r)(s:Int):RqB (W.setCell ⟨g,1,FX⟩ (.int .i64 s)) g ⟨r.o,s,r.p,r.d,r.v,r.f⟩:=by
 unfold RqB at h⊢;rw[GL _ h];rfl
structure PP(w W:FU)(d:Dd):Prop where
 b:Below w.heap.size w W
 a:TAt W (w.heap.size+1) t0
 d:JM W w.heap.size d
theorem PP.start(w:FU)(d:Dd):PP w ((w.alloc (FT #[.int .i64 d.k,.int .i64 d.c,.int .i64 d.s,.int .i64 d.q.o,.int .i64 d.q.s,.string ⟨d.q.p.toArray⟩,.string ⟨d.q.d.toArray⟩,.int .i64 d.q.v,.int .i64 d.q.f,.int .i64 d.lo,.int .i64 d.sl,.int .i64 d.ke,.bool d.wt] 30)).alloc (FT #[.int .i64 0,.int .i64 0,.int .i64 0,.string ⟨#[]⟩,.string ⟨#[]⟩,.int .i64 0,.int .i64 0] 52)) d:=by
 exact⟨G8 (G7 _ _) (G7 _ _),aP _ _ _,JM.UD (heap_alloc_new w _:JM (w.alloc _) w.heap.size d) (G7 _ _) (by simp)⟩
theorem PP.next{d:Dd}(h:PP w W d)(hb:Below W.heap.size W V):PP w V d:=⟨G8 h.b hb,h.a.next hb,h.d.UD hb h.d.ltz⟩
theorem AC0{d:Dd}(h:JM W g d):(W.cell? ⟨g,0,FX⟩=FZ (.int .i64 d.k)/\W.cell? ⟨g,1,FX⟩=FZ (.int .i64 d.c)/\W.cell? ⟨g,2,FX⟩=FZ (.int .i64 d.s)/\W.cell? ⟨g,3,FX⟩=FZ (.int .i64 d.q.o)/\W.cell? ⟨g,4,FX⟩=FZ (.int .i64 d.q.s)/\W.cell? ⟨g,5,FX⟩=FZ (.string ⟨d.q.p.toArray⟩)/\W.cell? ⟨g,6,FX⟩=FZ (.string ⟨d.q.d.toArray⟩))/\W.cell? ⟨g,7,FX⟩=FZ (.int .i64 d.q.v)/\W.cell? ⟨g,8,FX⟩=FZ (.int .i64 d.q.f)/\W.cell? ⟨g,9,FX⟩=FZ (.int .i64 d.lo)/\W.cell? ⟨g,10,FX⟩=FZ (.int .i64 d.sl)/\W.cell? ⟨g,11,FX⟩=FZ (.int .i64 d.ke)/\W.cell? ⟨g,12,FX⟩=FZ (.bool d.wt):=by
 have r:=h.row;simp only[Nat.zero_add]at r;exact⟨⟨r 0 _ rfl,r 1 _ rfl,r 2 _ rfl,r 3 _ rfl,r 4 _ rfl,r 5 _ rfl,r 6 _ rfl⟩,r 7 _ rfl,r 8 _ rfl,r 9 _ rfl,r 10 _ rfl,r 11 _ rfl,r 12 _ rfl⟩
theorem eH(p:Pw)(d:Dd)(k b:Nat)(W:FU)(hx:WX W k p)(hT:dB W)(hb:b<3)(hl:ldP p.r=b)(hu:(p.s b).up=true)(hok:MI 300 (p.s b))(hn:nxE (p.s b).e (IZ (p.s b).m)=0)(hc:0<=d.c/\d.c<16)(hp:d.q.p.length<=140737488355328)(hd:d.q.d.length<=140737488355328):
  FW prog 62 #[wP k,ddV d] W fun e w'=>e=.returned (.tuple #[J7 (wX p d),.int .i64 (wE p d)])/\Below W.heap.size W w':=by
 have D0:=G6 (PP.start W d);obtain⟨c,hc16,hdc⟩:∃c:Nat,c<16/\d.c=c:=⟨d.c.toNat,by omega,by omega⟩;obtain⟨ad,nd,cd,al,cl,an,cn,ai,ci,aw,cw,SS,hv,_⟩:=hx.srv hb rfl;obtain⟨ca,cc,k0,k1,k2,_⟩:=hx.cl hc16;have hsv:=IY (i:=b) hu;have CL:=G6 (fun V (hV:Below W.heap.size W V)=>RU p k V (hx.next hV));rw[hl]at CL;have HV:=G6 (fun V (hV:Below W.heap.size W V)=>hv.next hV);have CN:=G6 (fun V (hV:Below W.heap.size W V)=>BK7 ⟨(svP b (p.s b)).id,(svP b (p.s b)).ep,al,cl,(svP b (p.s b)).ts,(svP b (p.s b)).dn⟩ V (by
  obtain⟨_,_,_,_,_,e,_,r2,_,_,_⟩:=hv.next hV;simp only[EK,F5,EC,true_and,and_true]at e;rw[<-e.2.1]at r2;exact r2))
 have HT:=G6 hT;have hgt:QV (svP b (p.s b)).tr:=by rw[hsv];exact hok.play.good hok.dn
 have CP:=G6 (fun V (hV:Below W.heap.size W V) (z:Int)=>A29 (svP b (p.s b)).tr z (FQ an (svP b (p.s b)).tr.ns.length cn) (FQ ai (svP b (p.s b)).tr.ss.length ci) (wQ p d) V (by
  obtain⟨_,_,_,_,_,e,_,_,r3,_,_⟩:=hv.next hV;simp only[EK,F5,EC,true_and,and_true]at e;rw[<-e.2.2.1]at r3;exact r3) (by
  obtain⟨_,_,_,_,_,e,_,_,_,r4,_⟩:=hv.next hV;simp only[EK,F5,EC,true_and,and_true]at e;rw[<-e.2.2.2.1]at r4;exact r4) hgt.pwf hp hd ((G5 HT).next hV))
 have HE:Hid (wX p d=AO1 (svP b (p.s b)).tr (nxN (svP b (p.s b)).ep (IZ (svP b (p.s b)).ts)) (wQ p d)/\wE p d=eX (svP b (p.s b)).tr (nxN (svP b (p.s b)).ep (IZ (svP b (p.s b)).ts)) (wQ p d)):=G6 (by
  have hln:ldN p.r=b:=by rw[ldN,hl];simp
  rw[wX,wE,wTr,wZ,hln,hsv];exact⟨rfl,rfl⟩)
 have hne:nxE (svP b (p.s b)).ep (IZ (svP b (p.s b)).ts)=0:=by rw[hsv];exact hn
 rw[hne]at CN;have hdn:(p.c d.c.toNat).s=(p.c c).s:=by rw[hdc];rfl
 have HQ:Hid (wQ p d=⟨d.q.o,(p.c c).s,d.q.p,d.q.d,d.q.v,d.q.f⟩):=G6 (by rw[wQ,hdn]);have HX:=G6 hx;obtain⟨dk,dc,ds,⟨o,s,pp,dd,v,f⟩,lo,sl,ke,wt⟩:=d;simp only at hdc HQ;subst hdc;rw[(G5 HE).1,(G5 HE).2];rw[G5 HQ]at CP⊢;clear HQ HE;generalize hs0:svP b (p.s b)=s0 at*;unfold wP ddV;have HS:=G6 (fun V (hV:Below W.heap.size W V)=>SS.next hx.lt hV);simp only[DC 10 b]at HS;have HC:=G6 (And.intro k0 (And.intro k1 k2));have hk0:=hx.lt;have hb4:(b:Int)<3:=by omega
 have hc4:(c:Int)<16:=by omega
 unfold peV at CN;unfold rqV AB9 J7 at CP;clear SS hv k0 k1 k2 hsv hl hT hgt hn hne hc hp hd hx hs0 hok hu hdn;go_enter func62,ntmps62;go_upto_region 1 with fail;generalize ((W.alloc _).alloc _)=W1 at*;have hkW:k<W1.heap.size:=AX hk0 (G5 D0).b.size;have HKS:Hid (∀V,Below W1.heap.size W1 V->V.cell? ⟨k,1+b*10,FX⟩=FZ (.bool s0.up)/\V.cell? ⟨k,1+b*10+1,FX⟩=FZ (FQ ad nd cd)/\V.cell? ⟨k,1+b*10+2,FX⟩=FZ (.int .i64 s0.id)/\V.cell? ⟨k,1+b*10+3,FX⟩=FZ (.int .i64 s0.ep)/\V.cell? ⟨k,1+b*10+4,FX⟩=FZ (FQ al s0.ts.length cl)/\V.cell? ⟨k,1+b*10+5,FX⟩=FZ (.int .i64 s0.dn)/\V.cell? ⟨k,1+b*10+6,FX⟩=FZ (.int .i64 s0.tr.z)/\V.cell? ⟨k,1+b*10+7,FX⟩=FZ (FQ an s0.tr.ns.length cn)/\V.cell? ⟨k,1+b*10+8,FX⟩=FZ (FQ ai s0.tr.ss.length ci)/\V.cell? ⟨k,1+b*10+9,FX⟩=FZ (FQ aw s0.ws.length cw)):=G6 fun V hV=>by
  obtain⟨c0,c1,c2,c3,c4,c5,c6,c7,c8,c9⟩:=G5 HS V (G8 (G5 D0).b hV);exact⟨c0,c1,c2,c3,c4,c5,c6,c7,c8,c9⟩
 replace CL:=G6 (fun V (hV:Below W1.heap.size W1 V)=>G5 CL V (G8 (G5 D0).b hV))
 go_cut [6]from 10 (fun t6 wx=>∃q,t6=.pointer (FZ ⟨q,0,FX⟩)/\Hid (BxS W1 wx q s0 (FQ ad nd cd) (FQ al s0.ts.length cl) (FQ an s0.tr.ns.length cn) (FQ ai s0.tr.ss.length ci) (FQ aw s0.ws.length cw)))
 case first=>
  have hS0:=G5 HKS _ (AA W1.heap.size W1).drew;refine wp_region_held (S:=fun V:FU=>V.cell? ⟨k,1+b*10,FX⟩=FZ (.bool s0.up)/\V.cell? ⟨k,1+b*10+1,FX⟩=FZ (FQ ad nd cd)/\V.cell? ⟨k,1+b*10+2,FX⟩=FZ (.int .i64 s0.id)/\V.cell? ⟨k,1+b*10+3,FX⟩=FZ (.int .i64 s0.ep)/\V.cell? ⟨k,1+b*10+4,FX⟩=FZ (FQ al s0.ts.length cl)/\V.cell? ⟨k,1+b*10+5,FX⟩=FZ (.int .i64 s0.dn)/\V.cell? ⟨k,1+b*10+6,FX⟩=FZ (.int .i64 s0.tr.z)/\V.cell? ⟨k,1+b*10+7,FX⟩=FZ (FQ an s0.tr.ns.length cn)/\V.cell? ⟨k,1+b*10+8,FX⟩=FZ (FQ ai s0.tr.ss.length ci)/\V.cell? ⟨k,1+b*10+9,FX⟩=FZ (FQ aw s0.ws.length cw)) (by kernel_rfl) ?_;change wpAnyH _ _ _ _ _ _ _ _ W1.drew;refine tkH 0 hS0 ?_;refine tkH 1 hS0 ?_;refine tkH 3 hS0 ?_;refine tkH 4 hS0 ?_;refine rd2 2 7 (fun K hK=>?_) (fun K hK=>?_)
  .go_simp;refine(G5 CL _ (AA _ _).drew).mono ?_;rintro e w1 ⟨rfl,hb1⟩;have aB1:Hid (Below W1.heap.size W1 w1):=G6 (G8 (AA _ _).drew hb1);clear hb1;have hS1:=G5 HKS _ (G5 aB1);refine nxH hK hS1 ?_;clear hK K;refine tkH 5 hS1 ?_;refine tkH 6 hS1 ?_;refine rd1 7 (fun K hK=>?_);go_simp;have hS2:=G5 HKS _ (G8 (G5 aB1) (G7 w1 (FT #[.bool false,FQ FX 0 0,.int .i64 0,.int .i64 0,FQ FX 0 0,.int .i64 0,.int .i64 0,FQ FX 0 0,FQ FX 0 0,FQ FX 0 0] 49)));refine nxH hK hS2 ?_;clear hK K;refine rd1 8 (fun K hK=>?_);go_simp;have hX2:Hid (BxS W1 _ _ s0 (FQ ad nd cd) (FQ al s0.ts.length cl) (FQ an s0.tr.ns.length cn) (FQ ai s0.tr.ss.length ci) (FQ aw s0.ws.length cw)):=G6 (C50 (G5 aB1));have hS3:=G5 HKS _ (G5 hX2).b;refine nxH hK hS3 ?_;clear hK K;refine wpAnyH_done (by kernel_rfl) ?_ _;go_wp2_with fail
   go_meet
   exact⟨_,rfl,hX2⟩
  .go_simp;have hS2:=G5 HKS _ (G8 (AA W1.heap.size W1).drew (G7 W1.drew (FT #[.bool false,FQ FX 0 0,.int .i64 0,.int .i64 0,FQ FX 0 0,.int .i64 0,.int .i64 0,FQ FX 0 0,FQ FX 0 0,FQ FX 0 0] 49)));refine nxH hK hS2 ?_;clear hK K;refine rd1 2 (fun K hK=>?_);go_simp;refine(G5 CL _ (G8 (AA _ _).drew (G7 _ _))).mono ?_;rintro e w1 ⟨rfl,hb1⟩;have aB1:Hid (Below W1.heap.size W1 w1):=G6 (G8 (G8 (AA _ _).drew (G7 _ _)) hb1);have aZ1:Hid (IC w1 W1.heap.size false (FQ FX 0 0) 0 0 (FQ FX 0 0) 0 0 (FQ FX 0 0) (FQ FX 0 0) (FQ FX 0 0)):=G6 ((hb1.block _ (by simp)).trans (heap_alloc_new W1.drew _));clear hb1;have hS1:=G5 HKS _ (G5 aB1);refine nxH hK hS1 ?_;clear hK K;refine tkH 5 hS1 ?_;refine tkH 6 hS1 ?_;refine rd1 8 (fun K hK=>?_);have z0:=(G5 aZ1).GN 0;have z1:=(G5 aZ1).GN 1;have z2:=(G5 aZ1).GN 2;have z3:=(G5 aZ1).GN 3;have z4:=(G5 aZ1).GN 4;have z5:=(G5 aZ1).GN 5;have z6:=(G5 aZ1).GN 6;have z7:=(G5 aZ1).GN 7;have z8:=(G5 aZ1).GN 8;have z9:=(G5 aZ1).GN 9;obtain⟨x0,x1,x2,x3,x4,x5,x6,x7,x8,x9⟩:=(G5 aZ1).cells;go_simp;have hX2:Hid (BxS W1 _ _ s0 (FQ ad nd cd) (FQ al s0.ts.length cl) (FQ an s0.tr.ns.length cn) (FQ ai s0.tr.ss.length ci) (FQ aw s0.ws.length cw)):=G6 (C51 (G5 aB1) (A8 _) (G5 aZ1));have hS3:=G5 HKS _ (G5 hX2).b;refine nxH hK hS3 ?_;clear hK K;refine wpAnyH_done (by kernel_rfl) ?_ _;go_wp2_with fail
   go_meet
   exact⟨_,rfl,hX2⟩
 case rest=>
  obtain⟨q,rfl,HQ⟩:=hcut;have D1:=G6 ((G5 D0).next (G5 HQ).b);have B1:=G6 (G5 D1).b;obtain⟨q0,q1,q2,q3,q4,q5,q6,q7,q8,q9⟩:=(G5 HQ).box.cells;clear HKS CL D0;go_wp2_with fail;refine(G5 CN _ (G5 B1)).mono ?_;rintro e w2 ⟨rfl,hb2⟩;have D2:=G6 ((G5 D1).next hb2);have Q2:=G6 ((G5 HQ).box.next hb2);have hq2:=hb2.size;have hql:=(G5 HQ).le;have hqt:=(G5 HQ).box.lt;have hWg:=(Array.getElem?_eq_some_iff.1 (G5 D2).a).1;clear q0 q1 q2 q3 q4 q5 q6 q7 q8 q9 CN D1 B1 HQ hb2;obtain⟨⟨e0,e1,e2,e3,e4,e5,e6⟩,e7,e8,e9,e10,e11,e12⟩:=AC0 (G5 D2).d;go_upto_region 6 with fail;have D3:=G6 ((G5 D2).next (G7 w2 (FT #[.int .i64 o,.int .i64 s,.string ⟨pp.toArray⟩,.string ⟨dd.toArray⟩,.int .i64 v,.int .i64 f] 28)));have Q3:=G6 ((G5 Q2).next (G7 w2 (FT #[.int .i64 o,.int .i64 s,.string ⟨pp.toArray⟩,.string ⟨dd.toArray⟩,.int .i64 v,.int .i64 f] 28)));have G3:=G6 (RqB.new w2 ⟨o,s,pp,dd,v,f⟩);simp only at G3;generalize w2.alloc _=W3 at*;have hg3:w2.heap.size<W3.heap.size:=(G5 G3).lt;generalize hg:w2.heap.size=g at*;clear D2 Q2 e0 e1 e2 e3 e4 e5 e6 e7 e8 e9 e10 e11 e12 hg;obtain⟨⟨_,e1,_,_,_,_,_⟩,_,_,_,_,_,_⟩:=AC0 (G5 D3).d;obtain⟨g0,g1,g2,g3,g4,g5⟩:=(G5 G3).cells;have gf:=(G5 G3).GN 1;have hdl:=(G5 D3).d.ltz;have hkW3:k<W3.heap.size:=AX hk0 (G5 D3).b.size;have y0:W3.cell? ⟨k,34+c*3,FX⟩=FZ (.int .i64 (p.c c).s):=by
   rw[AV,(G5 D3).b.block k hk0,DC c 3];exact(G5 HC).1
  have hgk:g≠k:=by omega
  have hgW:g≠W.heap.size:=by omega
  simp only at e1 g0 g1 g2 g3 g4 g5;go_region;have B4:=G6 (((G5 D3).b.setCell (p:=⟨g,1,FX⟩) (by simp only;omega) (.int .i64 (p.c c).s)).drew);have A4:=G6 (TAt.next (W:=W3.setCell ⟨g,1,FX⟩ (.int .i64 (p.c c).s)) ((Below.heap_setCell W3 ⟨g,1,FX⟩ (.int .i64 (p.c c).s) _ (by simp only;omega)).trans (G5 D3).a) (AA _ _).drew);have Q4:=G6 (((G5 Q3).other (i:=g) (j:=1) (u:=.int .i64 (p.c c).s) (by omega)).next (AA _ _).drew);have G4:=G6 (((G5 G3).set (p.c c).s).next (AA _ _).drew);generalize World.drew _=W4 at*;clear D3 Q3 G3 e1 g0 g1 g2 g3 g4 g5 gf y0 hgk hgW hkW3;obtain⟨q0,q1,q2,q3,q4,q5,q6,q7,q8,q9⟩:=(G5 Q4).cells;obtain⟨g0,g1,g2,g3,g4,g5⟩:=(G5 G4).cells;simp only at g0 g1 g2 g3 g4 g5;go_wp2_with fail;refine(G5 CP _ (G5 B4) _).mono ?_;rintro e w5 ⟨rfl,hb5⟩;have A5:=(G5 A4).next hb5;obtain⟨a0,a1,a2,a3,a4,a5,a6⟩:w5.cell? ⟨W.heap.size+1,0,FX⟩=FZ (.int .i64 0)/\w5.cell? ⟨W.heap.size+1,1,FX⟩=FZ (.int .i64 0)/\w5.cell? ⟨W.heap.size+1,2,FX⟩=FZ (.int .i64 0)/\w5.cell? ⟨W.heap.size+1,3,FX⟩=FZ (.string ⟨#[]⟩)/\w5.cell? ⟨W.heap.size+1,4,FX⟩=FZ (.string ⟨#[]⟩)/\w5.cell? ⟨W.heap.size+1,5,FX⟩=FZ (.int .i64 0)/\w5.cell? ⟨W.heap.size+1,6,FX⟩=FZ (.int .i64 0):=⟨A5.c0,A5.c1,A5.c2,A5.c3,A5.c4,A5.c5,A5.c6⟩;have f0:=A5.f 0;have f1:=A5.f 1;have f2:=A5.f 2;have f3:=A5.f 3;have f4:=A5.f 4;have f5:=A5.f 5;have f6:=A5.f 6;generalize hXX:AO1 _ _ _=X at*;generalize hEE:eX _ _ _=E at*;have HXX:=G6 hXX;have HEE:=G6 hEE;clear hXX hEE;have B5:=G6 (OM X (G8 (G5 B4) hb5) (show W.heap.size<=W.heap.size+1 by omega));clear A5 hb5 B4 A4 Q4 G4 CP;unfold put7 at B5;go_wp2_with fail;exact bodyPost_ret (v:=.tuple #[.agg #[.int .i64 X.z,.int .i64 X.o,.int .i64 X.s,.string ⟨X.p.toArray⟩,.string ⟨X.d.toArray⟩,.int .i64 X.v,.int .i64 X.w],.int .i64 E]) (by simp[results,results62,go_sem,a0,a1,a2,a3,a4,a5,a6]) rfl ⟨by rw[G5 HXX,G5 HEE];rfl,G5 B5⟩
structure Off(f:Nat->FV)(p:Pw)(g:Nat):Prop where
 d:∀i,i<3->(svP i (p.s i)).fs≠[]->UJ (f (1+10*i+1)) g
 l:∀i,i<3->(svP i (p.s i)).ts≠[]->UJ (f (1+10*i+4)) g
 n:∀i,i<3->(svP i (p.s i)).tr.ns≠[]->UJ (f (1+10*i+7)) g
 i:∀i,i<3->(svP i (p.s i)).tr.ss≠[]->UJ (f (1+10*i+8)) g
 w:∀i,i<3->(svP i (p.s i)).ws≠[]->UJ (f (1+10*i+9)) g
 c:∀i,i<16->(p.c i).es≠[]->UJ (f (34+3*i+2)) g
 a:p.D≠[]->UJ (f 82) g
def WXO(W:FU)(k:Nat)(p:Pw)(v:FV):Prop:=∃f,WB W k f/\WdR W k f p/\∀g,v.ownBlock=FZ g->Off f p g
theorem WXO.x(h:WXO W k p v):WX W k p:=by
 obtain⟨f,h1,h2,_⟩:=h;exact⟨f,h1,h2⟩
theorem A30{f:Nat->FV}(h:WdR W k f p)(hg:W.heap.size<=g):Off f p g:=
 ⟨fun i hi h0=>(Row.new (h.s i hi).d.1 hg).2 h0,fun i hi h0=>(Row.new (h.s i hi).l.1 hg).2 h0,fun i hi h0=>(Row.new (h.s i hi).n.1 hg).2 h0,fun i hi h0=>(Row.new (h.s i hi).i.1 hg).2 h0,fun i hi h0=>(Row.new (h.s i hi).w.1 hg).2 h0,fun i hi h0=>(Row.new (h.c i hi).e.1 hg).2 h0,fun h0=>(Row.new h.d.1 hg).2 h0⟩
theorem WX.off(h:WX W k p):WXO W k p (N0):=by
 obtain⟨f,h1,h2⟩:=h;exact⟨f,h1,h2,fun g hg=>by simp[D8]at hg⟩
theorem WXO.far(h:WXO W k p v)(hv:v.ownBlock=FZ g)(hk:k≠g)(ht:Touch (· =g) W V):WXO V k p v:=by
 obtain⟨f,hb,hr,ho⟩:=h;have o:=ho g hv;refine⟨f,hb.touch ht hk,⟨hr.n,fun i hi=>?_,hr.r,fun i hi=>⟨(hr.c i hi).s,(hr.c i hi).z,(hr.c i hi).e.far ht (o.c i hi)⟩,hr.d.far ht o.a,hr.h,hr.hk⟩,ho⟩;have s:=hr.s i hi;exact⟨s.up,s.d.far ht (o.d i hi),s.id,s.ep,s.l.far ht (o.l i hi),s.dn,s.z,s.n.far ht (o.n i hi),s.i.far ht (o.i i hi),s.w.far ht (o.w i hi)⟩
theorem WXO.next(h:WXO W k p v)(hb:B0 W V):WXO V k p v:=by
 obtain⟨f,h1,h2,h3⟩:=h;exact⟨f,h1.next hb,h2.next hb,h3⟩
theorem WXO.grown{v':FV}(h:WXO W k p v)(hk:∀g,v.ownBlock=FZ g->k≠g)(hg:W.grownBy V v.ownBlock)(hn:∀g,v'.ownBlock=FZ g->v.ownBlock=FZ g\/W.heap.size<=g):WXO V k p v':=by
 have h1:WXO V k p v/\∀f,WB W k f->WdR W k f p->∀g,W.heap.size<=g->Off f p g:=⟨by
  cases e:v.ownBlock with
  |none=>exact h.next (by rw[e]at hg;exact⟨hg.os,hg.tape,hg.output,hg.size,fun b hb=>hg.block b hb (by simp)⟩)
  |some g=>exact h.far e (hk g e) ⟨hg.os,hg.tape,hg.output,hg.size,fun b hb hne=>hg.block b hb (by rw[e];intro e';exact hne (BN e'))⟩,fun f _ hr g hg=>A30 hr hg⟩
 obtain⟨f,hb,hr,ho⟩:=h;obtain⟨f1,hb1,hr1,ho1⟩:=h1.1;have ef:∀j,j<83->f1 j=f j:=fun j hj=>by
  have c1:=hb1.cell hj;have c2:=hb.cell hj;have:V.cell? ⟨k,j,FX⟩=W.cell? ⟨k,j,FX⟩:=by
   rw[AV,AV,hg.block k hb.lt (fun e=>hk k e.symm rfl)]
  rw[this,c2]at c1;exact(BN c1).symm
 refine⟨f1,hb1,hr1,fun g hg'=>?_⟩;rcases hn g hg' with e|e
 .exact ho1 g e
 .have o:=A30 hr e;exact⟨fun i hi h0=>by rw[ef _ (by omega)];exact o.d i hi h0,fun i hi h0=>by rw[ef _ (by omega)];exact o.l i hi h0,fun i hi h0=>by rw[ef _ (by omega)];exact o.n i hi h0,fun i hi h0=>by rw[ef _ (by omega)];exact o.i i hi h0,fun i hi h0=>by rw[ef _ (by omega)];exact o.w i hi h0,fun i hi h0=>by rw[ef _ (by omega)];exact o.c i hi h0,fun h0=>by rw[ef _ (by omega)];exact o.a h0⟩
structure Fr5(B:Nat)(vd vl vn vs vw:FV):Prop where
 d:∀g,g<B->UJ vd g
 l:∀g,g<B->UJ vl g
 n:∀g,g<B->UJ vn g
 i:∀g,g<B->UJ vs g
 w:∀g,g<B->UJ vw g
theorem WXO.nT(h:WXO W k p v)(hi:i<3){s:Sv}(hq:svP i q=s)(hv:SvV W (.agg #[.bool s.up,vd,I0 s.id,I0 s.ep,vl,I0 s.dn,I0 s.tr.z,vn,vs,vw]) s){B:Nat}(hf:Fr5 B vd vl vn vs vw)(hk:k<B)(hg:∀g,v.ownBlock=FZ g->g<B):
  WXO (xW W k (1+10*i) (.bool s.up) vd (I0 s.id) (I0 s.ep) vl (I0 s.dn) (I0 s.tr.z) vn vs vw) k ⟨p.n,LU p.s i q,p.r,p.c,p.D,p.H,p.h⟩ v:=by
 obtain⟨f,hb,hr,ho⟩:=h;have hA:SvA W k (C89 (.bool s.up) vd (I0 s.id) (I0 s.ep) vl (I0 s.dn) (I0 s.tr.z) vn vs vw) s:=SvA.of (hr.fA hb) hv (fun _=>hf.i k hk) rfl rfl rfl rfl rfl rfl rfl rfl rfl rfl;refine⟨_,hb.xW (o:=1+10*i) (by omega) _ _ _ _ _ _ _ _ _ _,WdR.touch (W:=W) ?_ (XA _ _ _ _ _ _ _ _ _ _ _ _ _),fun g e=>?_⟩
 .refine⟨by rw[JC (by omega)];exact hr.n,fun j hj=>?_,fun j hj=>by rw[JC (by omega)];exact hr.r j hj,fun j hj=>(hr.c j hj).congr fun q hq=>by rw[JC (by omega)],by rw[JC (by omega)];exact hr.d,fun j hj h0=>?_,hr.hk⟩
  .by_cases e:j=i
   .subst e;simp only[II,hq];exact hA.congr fun q hq=>by rw[NV hq]
   .simp only[GH _ _ e];exact(hr.s j hj).congr fun q hq=>by rw[JC (by omega)]
  .by_cases e:j=i
   .subst e;rw[NV (by omega)];exact fun b hb=>hf.i b (Nat.lt_of_le_of_lt (BM hb hr.hk) hk)
   .simp only[GH _ _ e]at h0;rw[JC (by omega)];exact hr.h j hj h0
 .have o:=ho g e;have hgB:=hg g e;refine⟨fun j hj h0=>?_,fun j hj h0=>?_,fun j hj h0=>?_,fun j hj h0=>?_,fun j hj h0=>?_,fun j hj h0=>by rw[JC (by omega)];exact o.c j hj h0,fun h0=>by rw[JC (by omega)];exact o.a h0⟩
  all_goals
   by_cases e:j=i
   .subst e;rw[NV (by omega)]
    first|exact hf.d g hgB|exact hf.l g hgB|exact hf.n g hgB|exact hf.i g hgB|exact hf.w g hgB
   .rw[JC (by omega)];simp only[GH _ _ e]at h0
    first|exact o.d j hj h0|exact o.l j hj h0|exact o.n j hj h0|exact o.i j hj h0|exact o.w j hj h0
def C52(w:FU)(s:Sv)(T:List Nt)(e:Ending)(w':FU):Prop:=
 ∃ad nd cd al cl an cn ai ci aw cw aN cN,e=.returned (.tuple #[.agg #[.bool s.up,FQ ad nd cd,I0 s.id,I0 s.ep,FQ al s.ts.length cl,I0 s.dn,I0 s.tr.z,FQ an s.tr.ns.length cn,FQ ai s.tr.ss.length ci,FQ aw s.ws.length cw],FQ aN T.length cN,I0 0])/\
  Hid (SvV w' (.agg #[.bool s.up,FQ ad nd cd,I0 s.id,I0 s.ep,FQ al s.ts.length cl,I0 s.dn,I0 s.tr.z,FQ an s.tr.ns.length cn,FQ ai s.tr.ss.length ci,FQ aw s.ws.length cw]) s/\Fr5 w.heap.size (FQ ad nd cd) (FQ al s.ts.length cl) (FQ an s.tr.ns.length cn) (FQ ai s.tr.ss.length ci) (FQ aw s.ws.length cw)/\IL w' (FQ aN T.length cN) T/\∀g,g<w.heap.size->UJ (FQ aN T.length cN) g)/\B0 w w'
theorem BN3{w':FU}{s:Sv}{T:List Nt}{e:Ending}(h:jS w s T 0 e w')(hf:FrS w e):C52 w s T e w':=by
 obtain⟨v,aN,cN,rfl,hs,hn,hb⟩:=h;obtain⟨ad,nd,cd,al,cl,an,cn,ai,ci,aw,cw,rfl,_⟩:=hs.five;obtain⟨f8,f1,f4,f7,f9,fy⟩:=hf _ _ _ _ _ _ _ _ _ _ _ _ rfl;exact⟨ad,nd,cd,al,cl,an,cn,ai,ci,aw,cw,aN,cN,rfl,G6 ⟨hs,⟨fun g hg=>LC f1 hg,fun g hg=>LC f4 hg,fun g hg=>LC f7 hg,fun g hg=>LC f8 hg,fun g hg=>LC f9 hg⟩,hn,fun g hg=>LC fy hg⟩,hb⟩
theorem xC:∀ (l:List Nat) (s:Nat->Ps) (i:Nat),LV s (l++[i])=(LU (LV s l).1 i (fB i ((LV s l).1 i)),(LV s l).2++(Z4 i ((LV s l).1 i)).2)
 |[],s,i=>by simp[LV]
 |j::l,s,i=>by
  show ((LV (LU s j (fB j (s j))) (l++[i])).1,(Z4 j (s j)).2++(LV (LU s j (fB j (s j))) (l++[i])).2)=_;rw[xC l _ i];simp[LV]
theorem rD:∀ (l:List Nat) (s:Nat->Ps),l.Nodup->(∀i∈l,(s i).up=true)->(∀i∈l,((s i).ws.length:Int)<=300)->(LV s l).2.length<=l.length*300
 |[],s,_,_,_=>by simp[LV]
 |j::l,s,hn,hu,hw=>by
  obtain⟨h1,h2⟩:=List.nodup_cons.1 hn;have hj:=(B33 (i:=j) (hu j (by simp))).2.1;have hwj:=hw j (by simp);have same:∀i∈l,LU s j (fB j (s j)) i=s i:=fun i hi=>GH _ _ (by rintro rfl;exact h1 hi);have ih:=rD l (LU s j (fB j (s j))) h2 (fun i hi=>by rw[same i hi];exact hu i (by simp[hi])) (fun i hi=>by rw[same i hi];exact hw i (by simp[hi]));show ((Z4 j (s j)).2++_).length<=_;rw[AO,List.length_cons];omega
theorem AM2(W:FU)(ty:TypeId)(B:Nat)(v u:FV)(N T:List Nt)(hv:GZ W B v N)(hu:IL W u T)(hl:(N.length+T.length)*32<=140737488355328)(hB:B<=W.heap.size):
  ∃v' w',(Builtin.append_ #[34,34] ty #[v,u]).run prog W=.ok v' w'/\GZ w' B v' (N++T)/\W.grownBy w' v.ownBlock/\∀g,v'.ownBlock=FZ g->v.ownBlock=FZ g\/W.heap.size<=g:=by
 obtain⟨i0,hi0,hz0,hz1,hz2⟩:=AU1;have main:∀ (a:Addr) (c:Nat),(∀j x,(G9 T)[j]?=FZ x->W.cell? (a.add j)=FZ x)->∃v' w',(Builtin.append_ #[34,34] ty #[v,FQ (FZ a) T.length c]).run prog W=.ok v' w'/\GZ w' B v' (N++T)/\W.grownBy w' v.ownBlock/\∀g,v'.ownBlock=FZ g->v.ownBlock=FZ g\/W.heap.size<=g:=fun a c hc=>by
  obtain⟨v',w',h1,h2,h3,_,h5⟩:=run_append_own_at (P:=prog) W B 34 ty 254 i0 _ 3 32 underlying34 hi0 hz0 hz1 hz2 rfl (by decide) v N.length (G9 N) hv.row a T.length c (G9 T) (GX T) hc (JL T) (by simp only[maxLen];omega) hl hB;refine⟨v',w',h1,GZ.KY (by rw[AO,H7];exact h2),h3,fun g hg=>?_⟩;rcases h5 with e|e
  .rw[e]at hg;exact .inl hg
  .rw[e]at hg;simp only[BD]at hg;exact .inr (by omega)
 rcases hu with⟨a,cap,rfl,rfl,_⟩|⟨b,off,cap,rfl,_,_,_,_,hr⟩
 .cases a with
  |some a=>exact main a cap (fun j x hj=>by simp[G9]at hj)
  |none=>
   refine⟨v,W,?_,by rw[List.append_nil];exact hv,⟨rfl,rfl,rfl,A8 _,fun _ _ _=>rfl⟩,fun g hg=>.inl hg⟩;have hown:=hv.row;rcases hown.2 with⟨rfl,_⟩|⟨g,cap',cur,rfl,_,_,hnc,_⟩
   .simp[Builtin.append_,run_underlying underlying34,sizeOf,typeInfo,hi0,Builtin.lenOf,Builtin.firstCells]
   .simp[Builtin.append_,run_underlying underlying34,sizeOf,typeInfo,hi0,Builtin.lenOf,Builtin.firstCells,hnc,storeCells]
 .exact main ⟨b,off,FX⟩ cap (fun j x hj=>by rw[Addr.add_lit];exact hr j x hj)
theorem rE{w:FU}{ops:Array Oper}{rest:List Oper}{o:Oper}{a:Act}{Q:Exit->Act->FU->Prop}(hgd:o.guard=FX)(s x:Operand)
  (ho:o.op=.call {callee:=.builtin .append,args:=#[s,x],argTypes:=#[34,34]})
  (B:Nat) (v u:FV) (N T:List Nt) (hs:a.eval s=v) (hx:a.eval x=u) (hv:GZ w B v N) (hu:IL w u T) (hl:(N.length+T.length)*32<=140737488355328) (hB:B<=w.heap.size)
  (h:∀a' c' w',GZ w' B (FQ a' (N++T).length c') (N++T)->w.grownBy w' v.ownBlock->(∀g,(Value.slice a' (N++T).length c').ownBlock=FZ g->v.ownBlock=FZ g\/w.heap.size<=g)->wpList prog ops Q rest (a.put o.dst (FQ a' (N++T).length c')) w'):wpList prog ops Q (o::rest) a w:=by
 refine wpList_plain hgd fun K hK=>?_;obtain⟨v',w',hr,h2,h3,h4⟩:=AM2 w o.type B v u N T hv hu hl hB;obtain⟨a',c',rfl⟩:=IV h2;unfold Oper.wp execOp;simp only[ho,resolve,invoke,builtin,Sem.run_bind,Sem.run_pure,Result.andThen_ok,List.map_toArray,List.map_cons,List.map_nil,hs,hx,hr];exact hK _ _ (h a' c' w' h2 h3 h4)
noncomputable def spS(p:Pw)(d:Dd)(j:Nat):Nat->Ps:=fun k=>if k<j then wSv p d k else p.s k
def spR(p:Pw)(d:Dd)(j:Nat):Nat->Int:=fun k=>if k<j then wRo p d k else p.r k
def spL(p:Pw)(d:Dd)(j:Nat):List Int:=(([0,1,2].take j).filter fun i=>wS p d i).map fun i:Nat=>(i:Int)
section
variable {p:Pw} {d:Dd} {j:Nat}
theorem B59:spS p d 0=p.s/\spR p d 0=p.r:=by constructor<;>funext k<;>simp[spS,spR]
theorem BT2(h:wT p d j=false):spS p d (j+1)=spS p d j:=by
 funext k
 unfold spS;by_cases e:k=j
 .subst e;rw[if_pos (by omega),if_neg (by omega),wSv,if_neg (by simp[h])]
 .simp only[show (k<j+1)↔(k<j) by omega]
theorem C53(h:wT p d j=true):spS p d (j+1)=LU (spS p d j) j (SN (wX p d) (wS p d j) (p.s j)):=by
 funext k
 unfold spS LU;by_cases e:k=j
 .subst e;rw[if_pos (by omega),if_pos rfl,wSv,if_pos h]
 .rw[if_neg e];simp only[show (k<j+1)↔(k<j) by omega]
theorem CH8:spS p d j j=p.s j:=by rw[spS,if_neg (by omega)]
theorem CH9:spR p d j j=p.r j:=by rw[spR,if_neg (by omega)]
theorem CI1(h:wT p d j=false):spR p d (j+1)=LU (spR p d j) j 0:=by
 funext k
 unfold spR LU;by_cases e:k=j
 .subst e;rw[if_pos (by omega),if_pos rfl,wRo,if_neg (by simp[h])]
 .rw[if_neg e];simp only[show (k<j+1)↔(k<j) by omega]
theorem AC1(h:wRo p d j=p.r j):spR p d (j+1)=spR p d j:=by
 funext k
 unfold spR;by_cases e:k=j
 .subst e;rw[if_pos (by omega),if_neg (by omega),h]
 .simp only[show (k<j+1)↔(k<j) by omega]
theorem C54(hj:j<3)(h:wS p d j=true):spL p d (j+1)=spL p d j++[(j:Int)]:=by
 rcases(show j=0\/j=1\/j=2 by omega)with rfl|rfl|rfl<;>simp[spL,List.filter_cons,h]<;>(repeat' split)<;>simp
theorem B60(hj:j<3)(h:wS p d j=false):spL p d (j+1)=spL p d j:=by
 rcases(show j=0\/j=1\/j=2 by omega)with rfl|rfl|rfl<;>simp[spL,List.filter_cons,h]
theorem C55:(spL p d j).length<=3:=by
 rw[spL,EG];exact BM (List.length_filter_le _ _) (by simp;omega)
theorem BT3(i:Nat)(hi:i<3):spS p d 3 i=wSv p d i/\spR p d 3 i=wRo p d i:=by rw[spS,spR,if_pos hi,if_pos hi];exact⟨rfl,rfl⟩
theorem C56:spL p d 3=(wL p d).map fun i:Nat=>(i:Int):=rfl
theorem C57(h:p.r j=0):wT p d j=false/\wS p d j=false:=by simp[wS,wT,h]
theorem C58(h:p.r j=1)(hb:AA1 d.lo j=true):wT p d j=false/\wS p d j=false:=by simp[wS,wT,h,hb]
theorem aU(h:p.r j=1)(hb:AA1 d.lo j=false):wT p d j=true/\wS p d j= !AA1 d.sl j:=by simp[wS,wT,h,hb]
theorem B61(h:p.r j=2):wT p d j=true/\wS p d j=true:=by simp[wS,wT,h]
theorem CI2(h:wT p d j=false):wRo p d j=0:=by rw[wRo,if_neg (by simp[h])]
theorem C59(h:wT p d j=true):wRo p d j=p.r j:=by rw[wRo,if_pos h]
end
theorem WX.CI3(h:WX W k p){r:Nat->Int}(hs:∀i,i<3->p.s i=s i)(hr:∀i,i<3->p.r i=r i):WX W k ⟨p.n,s,r,p.c,p.D,p.H,p.h⟩:=by
 obtain⟨f,hb,h⟩:=h;exact⟨f,hb,h.n,fun i hi=>by show SvA W k _ (svP i (s i));rw[<-hs i hi];exact h.s i hi,fun i hi=>by show f (31+i)=I0 (r i);rw[<-hr i hi];exact h.r i hi,h.c,h.d,fun i hi h0=>h.h i hi (by rw[hs i hi];exact h0),h.hk⟩
theorem WX.hist(h:WX W k p)(H:List GI):WX W k ⟨p.n,p.s,p.r,p.c,p.D,H,p.h⟩:=by
 obtain⟨f,hb,h⟩:=h;exact⟨f,hb,h.n,h.s,h.r,h.c,h.d,h.h,h.hk⟩
theorem WXO.V9(h:WXO W k p v)(hi:i<3)(x:Int):WXO (W.setCell ⟨k,31+i,FX⟩ (I0 x)) k ⟨p.n,p.s,LU p.r i x,p.c,p.D,p.H,p.h⟩ v:=by
 obtain⟨f,hb,hr,ho⟩:=h;refine⟨_,hb.set (j:=31+i) (by omega) _,WdR.touch (W:=W) ?_ (JI _ _ _ _),fun g e=>?_⟩
 .refine⟨by rw[GH _ _ (by omega)];exact hr.n,fun j hj=>(hr.s j hj).congr fun q hq=>by rw[GH _ _ (by omega)],fun j hj=>?_,fun j hj=>(hr.c j hj).congr fun q hq=>by rw[GH _ _ (by omega)],by rw[GH _ _ (by omega)];exact hr.d,fun j hj h0=>by rw[GH _ _ (by omega)];exact hr.h j hj h0,hr.hk⟩;by_cases e:j=i
  .subst e;rw[II];simp only[II]
  .rw[GH _ _ (by omega)];simp only[GH _ _ e];exact hr.r j hj
 .have o:=ho g e;exact⟨fun j hj h0=>by rw[GH _ _ (by omega)];exact o.d j hj h0,fun j hj h0=>by rw[GH _ _ (by omega)];exact o.l j hj h0,fun j hj h0=>by rw[GH _ _ (by omega)];exact o.n j hj h0,fun j hj h0=>by rw[GH _ _ (by omega)];exact o.i j hj h0,fun j hj h0=>by rw[GH _ _ (by omega)];exact o.w j hj h0,fun j hj h0=>by rw[GH _ _ (by omega)];exact o.c j hj h0,fun h0=>by rw[GH _ _ (by omega)];exact o.a h0⟩
def B62(w:FU)(s:Sv)(E:Int)(e:Ending)(w':FU):Prop:=
 ∃ad nd cd al cl an cn ai ci aw cw,e=.returned (.tuple #[.agg #[.bool s.up,FQ ad nd cd,I0 s.id,I0 s.ep,FQ al s.ts.length cl,I0 s.dn,I0 s.tr.z,FQ an s.tr.ns.length cn,FQ ai s.tr.ss.length ci,FQ aw s.ws.length cw],I0 E])/\
  Hid (SvV w' (.agg #[.bool s.up,FQ ad nd cd,I0 s.id,I0 s.ep,FQ al s.ts.length cl,I0 s.dn,I0 s.tr.z,FQ an s.tr.ns.length cn,FQ ai s.tr.ss.length ci,FQ aw s.ws.length cw]) s/\Fr5 w.heap.size (FQ ad nd cd) (FQ al s.ts.length cl) (FQ an s.tr.ns.length cn) (FQ ai s.tr.ss.length ci) (FQ aw s.ws.length cw))/\B0 w w'
theorem BN4{w':FU}{s:Sv}{E:Int}{e:Ending}(h:dA w s E e w')(hf:FrT w e):B62 w s E e w':=by
 obtain⟨ad,nd,cd,al,nl,cl,an,nn,cn,ai,ni,ci,aw,nw,cw,rfl,hs,hb⟩:=h;obtain⟨hv,h8⟩:=G5 hs;obtain⟨f1,f4,f7,f9⟩:=hf _ _ _ _ _ _ _ _ _ _ _ rfl;obtain⟨ad',nd',cd',al',cl',an',cn',ai',ci',aw',cw',e5,_⟩:=hv.five;simp only[EK,F5,EC,Value.slice.injEq,true_and,and_true]at e5;obtain⟨⟨rfl,rfl,rfl⟩,⟨rfl,rfl,rfl⟩,⟨rfl,rfl,rfl⟩,⟨rfl,rfl,rfl⟩,rfl,rfl,rfl⟩:=e5;exact⟨_,_,_,_,_,_,_,_,_,_,_,rfl,G6 ⟨hv,⟨fun g hg=>LC f1 hg,fun g hg=>LC f4 hg,fun g hg=>LC f7 hg,fun g hg=>LC h8 hg,fun g hg=>LC f9 hg⟩⟩,hb⟩
theorem xE{α:Type}[Lay α]{w:FU}{ops:Array Oper}{rest:List Oper}{o:Oper}{a:Act}{Q:Exit->Act->FU->Prop}(hgd:o.guard=FX)(s x:Operand)(T:TypeId)
  (ho:o.op=.call {callee:=.builtin .append,args:=#[s,x],argTypes:=#[T,T]})
  (i0:TypeInfo) (z:FV) (bytes:Nat) (hU:prog.underlying T=FZ (.slice (Lay.ty α))) (hi0:prog.info? (Lay.ty α)=FZ i0) (hz0:i0.zero=FZ z) (hz1:i0.size=Lay.k α) (hz2:i0.bytes=bytes) (hzs:z.cells.size=Lay.k α) (hk0:0<Lay.k α)
  (v:FV) (ns:List α) (hs:a.eval s=v) (B:Nat) (hown:GZ w B v ns) (q:Nat) (hx:a.eval x=FQ (FZ ⟨q,0,FX⟩) 1 1) (t:α) (hnews:JM w q t) (hl:(ns.length+1)*bytes<=140737488355328) (hm:ns.length+1<=maxLen) (hB:B<=w.heap.size)
  (h:∀a' c' w',GZ w' B (FQ a' (ns.length+1) c') (ns++[t])->w.grownBy w' v.ownBlock->(∀g,(Value.slice a' (ns.length+1) c').ownBlock=FZ g->v.ownBlock=FZ g\/w.heap.size<=g)->wpList prog ops Q rest (a.put o.dst (FQ a' (ns.length+1) c')) w'):
  wpList prog ops Q (o::rest) a w:=by
 refine wpList_plain hgd fun K hK=>?_;obtain⟨v',w',hr,h2,h3,_,h5⟩:=run_append_own_at (P:=prog) w B T o.type (Lay.ty α) i0 z (Lay.k α) bytes hU hi0 hz0 hz1 hz2 hzs hk0 v ns.length (G9 ns) hown.row ⟨q,0,FX⟩ 1 1 (Lay.cs t) (by rw[Lay.len,Nat.one_mul]) (QX hnews) (Lay.one t) hm hl hB;have h2':GZ w' B v' (ns++[t]):=GZ.KY (by rw[AO,JE];exact h2);have h6:∀g,v'.ownBlock=FZ g->v.ownBlock=FZ g\/w.heap.size<=g:=fun g hg=>by
  rcases h5 with e|e
  .rw[e]at hg;exact .inl hg
  .rw[e]at hg;simp only[BD]at hg;exact .inr (by omega)
 obtain⟨a',c',rfl,_⟩:=h2'.slice;rw[AO,List.length_singleton]at h2' hr h6;unfold Oper.wp execOp;simp only[ho,resolve,invoke,builtin,Sem.run_bind,Sem.run_pure,Result.andThen_ok,List.map_toArray,List.map_cons,List.map_nil,hs,hx,hr];exact hK _ _ (h a' c' w' h2' h3 h6)
theorem C60(r:Nat->Int)(m:Nat)(hm:m<3)(u:FU):(Instr.index 82 (.agg #[I0 (r 0),I0 (r 1),I0 (r 2)]) (I0 m)).run prog u=.ok (I0 (r m)) u:=by
 rcases(show m=0\/m=1\/m=2 by omega)with rfl|rfl|rfl<;>kernel_rfl
theorem o9(d:Dd)(W:FU):FW prog 36 #[ddV d] W (R0 W (I0 (UC d))):=by
 have HB:=G6 (fun o=>G7 W o);have C:=G6 (fun i m V=>dY i m V);obtain⟨dk,dc,ds,⟨o,s,pp,dd,v,f⟩,lo,sl,ke,wt⟩:=d;unfold ddV;by_cases h1:dk=1
 .subst h1
  cases hc:lG dc 16 with
  |true=>
   rw[show UC ⟨1,dc,ds,⟨o,s,pp,dd,v,f⟩,lo,sl,ke,wt⟩=0 by simp[UC,hc]];go_enter func36,ntmps36;go_wp2_with fail;refine(G5 C _ _ _).mono ?_;rintro e w1 ⟨rfl,rfl⟩;simp only[hc];go_wp2_with fail;go_ret;exact⟨rfl,G5 HB _⟩
  |false=>
   rw[show UC ⟨1,dc,ds,⟨o,s,pp,dd,v,f⟩,lo,sl,ke,wt⟩=3 by simp[UC,hc]];go_enter func36,ntmps36;go_wp2_with fail;refine(G5 C _ _ _).mono ?_;rintro e w1 ⟨rfl,rfl⟩;simp only[hc];go_wp2_with fail;go_ret;exact⟨rfl,G5 HB _⟩
 .by_cases h2:dk=2
  .subst h2
   cases hc:lG dc 16 with
   |true=>
    cases hs:lG ds 3 with
    |true=>
     rw[show UC ⟨2,dc,ds,⟨o,s,pp,dd,v,f⟩,lo,sl,ke,wt⟩=0 by simp[UC,hc,hs]];go_enter func36,ntmps36;go_wp2_with fail;refine(G5 C _ _ _).mono ?_;rintro e w1 ⟨rfl,rfl⟩;simp only[hc];go_wp2_with fail;refine(G5 C _ _ _).mono ?_;rintro e w1 ⟨rfl,rfl⟩;simp only[hs];go_wp2_with fail;go_ret;exact⟨rfl,G5 HB _⟩
    |false=>
     rw[show UC ⟨2,dc,ds,⟨o,s,pp,dd,v,f⟩,lo,sl,ke,wt⟩=3 by simp[UC,hc,hs]];go_enter func36,ntmps36;go_wp2_with fail;refine(G5 C _ _ _).mono ?_;rintro e w1 ⟨rfl,rfl⟩;simp only[hc];go_wp2_with fail;refine(G5 C _ _ _).mono ?_;rintro e w1 ⟨rfl,rfl⟩;simp only[hs];go_wp2_with fail;go_ret;exact⟨rfl,G5 HB _⟩
   |false=>
    rw[show UC ⟨2,dc,ds,⟨o,s,pp,dd,v,f⟩,lo,sl,ke,wt⟩=3 by simp[UC,hc]];go_enter func36,ntmps36;go_wp2_with fail;refine(G5 C _ _ _).mono ?_;rintro e w1 ⟨rfl,rfl⟩;simp only[hc];go_wp2_with fail;go_ret;exact⟨rfl,G5 HB _⟩
  .by_cases h3:dk=3\/dk=4
   .rcases h3 with rfl|rfl
    all_goals
     cases hs:lG ds 3 with
     |true=>
      rw[show UC ⟨_,dc,ds,⟨o,s,pp,dd,v,f⟩,lo,sl,ke,wt⟩=0 by simp[UC,hs]];go_enter func36,ntmps36;go_wp2_with fail;refine(G5 C _ _ _).mono ?_;rintro e w1 ⟨rfl,rfl⟩;simp only[hs];go_wp2_with fail;go_ret;exact⟨rfl,G5 HB _⟩
     |false=>
      rw[show UC ⟨_,dc,ds,⟨o,s,pp,dd,v,f⟩,lo,sl,ke,wt⟩=3 by simp[UC,hs]];go_enter func36,ntmps36;go_wp2_with fail;refine(G5 C _ _ _).mono ?_;rintro e w1 ⟨rfl,rfl⟩;simp only[hs];go_wp2_with fail;go_ret;exact⟨rfl,G5 HB _⟩
   .by_cases h5:dk=5
    .subst h5;rw[show UC ⟨5,dc,ds,⟨o,s,pp,dd,v,f⟩,lo,sl,ke,wt⟩=0 by simp[UC]];go_enter func36,ntmps36;go_wp2_with fail;go_ret;exact⟨rfl,G5 HB _⟩
    .have h33:¬dk=3:=fun e=>h3 (.inl e);have h34:¬dk=4:=fun e=>h3 (.inr e);rw[show UC ⟨dk,dc,ds,⟨o,s,pp,dd,v,f⟩,lo,sl,ke,wt⟩=4 by simp[UC,h1,h2,h33,h34,h5]];clear h3;go_enter func36,ntmps36;go_wp2_with fail;go_ret;exact⟨rfl,G5 HB _⟩
theorem BN5(n:Int):bits .and .i64 n 1=n%2:=by
 show IntKind.i64.wrap ((BitVec.ofInt 64 n&&&BitVec.ofInt 64 1).toNat:Int)=_;rw[BitVec.toNat_and,show (BitVec.ofInt 64 1).toNat=1 by decide,Nat.and_one_is_mod,BitVec.toNat_ofInt,IntKind.wrap_i64];omega
theorem C61(n:Int)(i:Nat)(hi:i<3)(w:FU):FW prog 95 #[I0 n,I0 i] w fun e w'=>e=.returned (.bool (AA1 n i))/\w'=w:=by
 have e:∀m:Int,(bits .and .i64 m 1==1)=decide (m%2=1):=fun m=>by rw[BN5];rfl
 have E:=G6 e;clear e;unfold AA1;rcases(show i=0\/i=1\/i=2 by omega)with rfl|rfl|rfl
 .go_enter func95,ntmps95;go_wp2_with fail;go_ret;exact⟨by show Ending.returned (.bool (bits .and .i64 n 1==1))=_;rw[G5 E,show n/2^0=n by simp],rfl⟩
 .go_enter func95,ntmps95;go_wp2_with fail;go_ret;exact⟨by show Ending.returned (.bool (bits .and .i64 (n/2) 1==1))=_;rw[G5 E];rfl,rfl⟩
 .go_enter func95,ntmps95;go_wp2_with fail;go_ret;exact⟨by show Ending.returned (.bool (bits .and .i64 (n/4) 1==1))=_;rw[G5 E];rfl,rfl⟩
