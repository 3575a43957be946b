/-
  Part.
-/
import Derived.Test.YtkpojhhfjddegaaGreatDoorLOZ
set_option maxRecDepth 20000
set_option maxHeartbeats 8000000
namespace Go.Proofs.YtkpojhhfjddegaaGreatDoor
open Go.RowKit Go.Proofs.Tryz
open _root_.Nat renaming le_refl->A8,lt_of_lt_of_le->AY,le_trans->BP,mul_comm->DL,add_assoc->EM
open Go.RowKit.Below renaming refl->AA
open _root_.List renaming getElem?_eq_getElem->AO,length_append->AP,getElem?_eq_some_iff->AV,mem_of_getElem?->BA,append_assoc->BZ,pairwise_append->DN,take_append_drop->DW,take_length->DX,length_map->EJ,mem_map->F5
open _root_.Option.some renaming injEq->BF,inj->BQ
open Go.Sem renaming run_bind->EG,run_pure->ER
open Go.Result renaming andThen_ok->EH
open _root_.List.cons renaming injEq->EI
open Go.Value.agg renaming injEq->EO
open _root_.Array.mk renaming injEq->F8
open Go.Value renaming slice->FV
open Go.Obj renaming cells->FW
open Go renaming World->FX,Value->FZ,Calls->G5
open _root_.Option renaming none->G6,some->G7
variable{W V w:FX}{k i j g B:Nat}{p:Pw}{e z:Int}{b q:Ps}{s:Nat->Ps}{vd vl vn vs vw v:FZ}{r:Rq}
theorem WX.sl2(h:WX W k p):∃t:Nat->Sl,∀i,i<3->Srv W k (1+10*i) (svP i (p.s i)).up (svP i (p.s i)).id (svP i (p.s i)).ep (svP i (p.s i)).dn (svP i (p.s i)).tr.z (FV (t i).ad (t i).nd (t i).cd) (FV (t i).al (svP i (p.s i)).ts.length (t i).cl) (FV (t i).an (svP i (p.s i)).tr.ns.length (t i).cn) (FV (t i).ai (svP i (p.s i)).tr.ss.length (t i).ci) (FV (t i).aw (svP i (p.s i)).ws.length (t i).cw)/\NI W (FV (t i).al (svP i (p.s i)).ts.length (t i).cl) (svP i (p.s i)).ts:=by
 have e:∀i,∃t:Sl,i<3->Srv W k (1+10*i) (svP i (p.s i)).up (svP i (p.s i)).id (svP i (p.s i)).ep (svP i (p.s i)).dn (svP i (p.s i)).tr.z (FV t.ad t.nd t.cd) (FV t.al (svP i (p.s i)).ts.length t.cl) (FV t.an (svP i (p.s i)).tr.ns.length t.cn) (FV t.ai (svP i (p.s i)).tr.ss.length t.ci) (FV t.aw (svP i (p.s i)).ws.length t.cw)/\NI W (FV t.al (svP i (p.s i)).ts.length t.cl) (svP i (p.s i)).ts:=fun i=>by
  by_cases hi:i<3
  .obtain⟨ad,nd,cd,al,cl,an,cn,ai,ci,aw,cw,S,hv,_⟩:=h.srv hi rfl;obtain⟨vd,vl,vn,vs,vw,e,_,r2,_⟩:=hv;simp only[EO,F8,EI]at e;exact⟨⟨ad,nd,cd,al,cl,an,cn,ai,ci,aw,cw⟩,fun _=>⟨S,by rw[<-e.2.2.2.2.1]at r2;exact r2⟩⟩
  .exact⟨⟨G6,0,0,G6,0,G6,0,G6,0,G6,0⟩,fun h=>absurd h hi⟩
 exact⟨fun i=>(e i).choose,fun i hi=>(e i).choose_spec hi⟩
noncomputable def peP(p:Pw)(t:Nat->Sl)(i:Nat):Pe:=⟨(svP i (p.s i)).id,(svP i (p.s i)).ep,(t i).al,(t i).cl,(svP i (p.s i)).ts,(svP i (p.s i)).dn⟩
theorem BC6(w:FX)(i e:Int)(a:Option Addr)(c:Nat)(ts:List GU)(d:Int):JM (w.alloc (FW #[I0 i,I0 e,FV a ts.length c,I0 d] 48)) w.heap.size (⟨i,e,a,c,ts,d⟩:Pe):=heap_alloc_new w _
theorem CR5{t:Nat->Sl}(h:(p.s i).up=true):kk (peP p t i)=((i:Int),(p.s i).e,J6 (p.s i).m):=by
 simp only[kk,peP,J5 h]
theorem qK(p:Pw)(k:Nat)(W:FX)(v:FZ)(l:List Nat)(hx:WX W k p)(hv:IK W v (l.map fun i:Nat=>(i:Int)))(hl:∀i∈l,i<3)(hln:l.length<=3):
  G5 prog 57 #[wP k,v] W fun e w'=>∃u t,e=.returned u/\H6 w' W.heap.size u (l.map (peP p t))/\sW w' (l.map (peP p t))/\B0 W w':=by
 obtain⟨t,ht⟩:=hx.sl2;have HT:=G9 ht;have HV:=G9 hv;have HL:=G9 hl;have hkl:=hx.lt;obtain⟨i0,hi0,hz0,hz1,hz2⟩:=CZ6;obtain⟨a,c,rfl⟩:=GL hv;rw[EJ]at HV⊢;clear hx ht hv hl;unfold wP;go_enter func57,ntmps57;go_wp2_with fail
 go_loopg [5,10] l.length (fun kx s5 s10 wr=>∃j:Nat,∃a c,s10=I0 j/\s5=FV a j c/\j<=l.length/\l.length-j<=kx/\Hid (H6 wr W.heap.size (FV a j c) ((l.take j).map (peP p t))/\B0 W wr))
 case atStart=>exact⟨0,G6,0,rfl,rfl,by omega,A8 _,G9 ⟨.inl ⟨rfl,rfl⟩,AA _ _⟩⟩
 case round=>
  obtain⟨j,a2,c2,rfl,rfl,hj,hg,HI⟩:=hrel;by_cases hlt:j<l.length
  .obtain⟨i,hi⟩:∃i,l[j]?=G7 i:=⟨_,AO hlt⟩;have hi3:=G8 HL i (BA hi);have HS:=G9 (show (l.take (j+1)).map (peP p t)=(l.take j).map (peP p t)++[peP p t i] by rw[QN hi,List.map_append];rfl);have hlj:((l.take j).map (peP p t)).length=j:=by simp;omega
   obtain⟨b,off,cap,he,hb,hrow,_,_⟩:=MZ ((G8 HV).next (G8 HI).2) (by intro h0;rw[List.map_eq_nil_iff]at h0;rw[h0]at hlt;simp at hlt);simp only[EJ,Value.slice.injEq]at he;obtain⟨rfl,_,rfl⟩:=he;have d0:=hrow.i0 (i:=j) (x:=(i:Int)) (by rw[List.getElem?_map,hi];rfl);obtain⟨_,_,e2,e3,e4,e5,_⟩:=(G8 HT i hi3).1.next hkl (G8 HI).2;rw[DL 10 i]at e2 e3 e4 e5;have hjj:(j:Int)<(l.length:Int):=by omega
   have hi4:(i:Int)<3:=by omega
   have B2:=G9 (G8 HI).2;have O2:=G9 (G8 HI).1;clear HI hrow hi HV;generalize hs0:svP i (p.s i)=s0 at*;have HP:Hid (peP p t i=⟨s0.id,s0.ep,(t i).al,(t i).cl,s0.ts,s0.dn⟩):=G9 (by rw[peP,hs0]);clear hs0;have O3:=G9 (fun O=>(G8 O2).next (GH wr O));have S3:=G9 (fun O=>BP (G8 B2).size (GH wr O).size);go_wp2_with (at_builtin;refine mP rfl _ _ 130 rfl i0 _ 48 underlying130 hi0 hz0 hz1 hz2 rfl (by decide) _ ((l.take j).map (peP p t)) rfl W.heap.size (G8 O3 _) wr.heap.size rfl (⟨s0.id,s0.ep,(t i).al,(t i).cl,s0.ts,s0.dn⟩:Pe) (BC6 wr _ _ _ _ _ _) (by rw[hlj];omega) (by rw[hlj];simp only[maxLen];omega) (G8 S3 _) ?_);intro a8 c8 w8 ho8 hg8;have HO:=G9 ho8;have HB:=G9 (mQ (GI (G8 B2) (GH wr _)) hg8 (BC5 (G8 O2)));clear ho8 hg8 O3 S3 B2 O2;go_wp2_with fail
   go_roundg (l.length-(j+1))
   case measure=>omega
   case rel=>exact⟨j+1,a8,c8,by simp,rfl,by omega,A8 _,G9 ⟨by rw[G8 HS,G8 HP,List.map_take];exact G8 HO,G8 HB⟩⟩
  .obtain rfl:j=l.length:=by omega
   rw[DX]at HI;go_wp2_with fail;go_ret;exact⟨_,t,rfl,(G8 HI).1,fun q hq=>by
    obtain⟨i,hi,rfl⟩:=F5.1 hq;exact((G8 HT i (G8 HL i hi)).2).next (G8 HI).2,(G8 HI).2⟩
theorem BV2{m:List GU}{t:GU}(e:Int)(h:Logs (m++[t]))(hl:m.length<=300):ZK 142 (fun x=>#[x,JA t,.bool true]) [Z9 e,PS m] [Z9 e,PS (m++[t])] 0:=by
 have hg:=(Logs.at (a:=m) (b:=[]) h).1;have hx:=tY e;have h1:=tV h.left hl;have h2:=jW hg;have g0:LV [Z9 e,PS m]:=UJ hx (by simp;omega);have g1:LV [Z9 e,⟨O9,IG m,RV t⟩]:=UJ hx (by omega);refine pW [Z9 e,PS m] [Z9 e,⟨O9,IG m,RV t⟩] [Z9 e,PS (m++[t])] t 0 hg (MV fun v W hv=>?_) (fK fun v W hv=>?_)
 .have:=kR v [Z9 e,PS m] [Z9 e] [] (PS m) O9 (RV t) W hv (JW g0) g0 (lV _ _ _ _) (by simp only[PS,List.length_nil];omega);simpa [PS]using this
 .have:=YT v [Z9 e,⟨O9,IG m,RV t⟩] [Z9 e] [] ⟨O9,IG m,RV t⟩ O9 W hv (JW g1) g1 (lV _ _ _ _);simpa [PS,QG]using this
theorem CR6{m:List GU}{e0:Int}(he:zIn e=true)(hm:(IG m).length<=1048576):lQ 88 (fun x=>#[x,I0 e]) (epD e0++[PS m]) [Z9 e,PS m] 0:=by
 by_cases h0:e0=0
 .subst h0;rw[AF9];exact CA3 he hm
 .rw[A70 h0];have hx:=bK (L6 e 0);have g0:LV [Z9 e0,PS m]:=UJ (tY e0) (by simpa using hm);have gl:LV [PS m]:=dF (by simpa using hm);have g1:LV [⟨JI,[],RI (L6 e 0)⟩,PS m]:=UJ (by simp;omega) (by simpa using hm);refine A61 [Z9 e0,PS m] [PS m] [⟨JI,[],RI (L6 e 0)⟩,PS m] [Z9 e,PS m] e 0 (UR he (by decide)).2 (MV fun v W hv=>?_) (MV fun v W hv=>?_) (MV fun v W hv=>?_)
  .exact wO v [Z9 e0,PS m] [] [PS m] (Z9 e0) JI W hv (JW g0) g0 (dH _ _ _ _)
  .exact bU v [PS m] [] [PS m] JI (RI (L6 e 0)) W hv (JW gl) gl ZU (by simp) (fP (IG m) []) (by omega)
  .have:=YT v _ [] [PS m] ⟨JI,[],RI (L6 e 0)⟩ JI W hv (JW g1) g1 (dH [] (RI (L6 e 0)) (IG m) []);simpa [Z9]using this
theorem BC7{a b:List GU}(ha:Logs a)(hp:∀x∈a,0<x.z)(hz:CZ1 b (KY a b) z):UA z a=a.take (KY a b):=by
 rcases hz with⟨h0,rfl⟩|⟨x,h0,hx,rfl⟩
 .rw[h0,List.take_zero]
  cases a with
  |nil=>rfl
  |cons t r=>
   have:=hp t (by simp);unfold UA;rw[List.takeWhile_cons_of_neg (by simp;omega)]
 .obtain⟨x',y',h1,h2,h3⟩:=lC a b (KY a b-1) (by omega);rw[hx]at h2
  cases h2
  rw[<-h3,CA4 ha h1,show KY a b-1+1=KY a b by omega]
theorem CR7(a b:List GU):∃z,CZ1 b (KY a b) z:=by
 by_cases h0:KY a b=0
 .exact⟨-1,.inl ⟨h0,rfl⟩⟩
 .obtain⟨x,y,_,h2,_⟩:=lC a b (KY a b-1) (by omega);exact⟨y.z,.inr ⟨y,by omega,h2,rfl⟩⟩
theorem BV3{a b:List GU}(h:∀x∈a,∀y∈b,x.z=y.z->x=y):a.take (KY a b)=b.take (KY a b):=by
 obtain⟨k1,k2⟩:=Y6 a b
 apply List.ext_getElem?
 intro i;by_cases hi:i<KY a b
 .obtain⟨x,y,h1,h2,h3⟩:=lC a b i hi;rw[List.getElem?_take_of_lt hi,List.getElem?_take_of_lt hi,h1,h2,h x (BA h1) y (BA h2) h3]
 .rw[List.getElem?_eq_none (by simp;omega),List.getElem?_eq_none (by simp;omega)]
theorem BC8(ok:MO 300 q)(hu:q.up=true)(okb:MO 300 b)(he:1<=e/\e<=300)(hd:q.dn<=KY q.m b.m)(h1:∀x∈q.m,∀y∈b.m,x.z=y.z->x=y)(v vl:FZ)(w:FX)(hv:SvV w v (svP i q))(hvl:NI w vl b.m)(ht:WZ w):
  G5 prog 58 #[v,vl,I0 e] w (fM w (svP i (yO e b.m q)) 0):=by
 obtain⟨r1,r2⟩:=ok.small;obtain⟨b1,b2⟩:=okb.small;have r3:=VK q.m q.a;obtain⟨z,hz⟩:=CR7 q.m b.m;have hzi:zIn e=true:=QF.2 ⟨by omega,by omega⟩;have hs:=BV3 h1;obtain⟨k1,k2⟩:=Y6 q.m b.m;have hts:(svP i q).ts=q.m:=by rw[J5 hu]
 have G:NK 87 (fun g=>#[g,I0 z]) (svP i q).fs (epD q.e++[PS (q.m.take (KY q.m b.m))]) 0:=by
  have R:ZJ (epD q.e++[⟨O9,IG (q.m.take q.a),IG (q.m.drop q.a)⟩]) q.m (epD q.e) []:=⟨aH (by omega),ok.log,.inr ⟨_,[],jH _ _ _,by
   have:=vJ ok.log;rw[<-LK,DW];exact this⟩⟩
  have:=BR6 R z;rw[BC7 ok.log ok.pos hz]at this;rw[J5 hu];exact this
 have hlk:Logs (q.m.take (KY q.m b.m)):=ok.log.take _;have hrk:(IG (q.m.take (KY q.m b.m))).length<=146100:=tV hlk (by simp;omega);have R:=CR6 (e0:=q.e) hzi (show (IG (q.m.take (KY q.m b.m))).length<=1048576 by omega);have gd:LV [Z9 e,PS (q.m.take (KY q.m b.m))]:=UJ (tY e) (by simp;omega);have hbb:b.m=b.m.take (KY q.m b.m)++b.m.drop (KY q.m b.m):=(DW _ _).symm;have step:∀j x,(b.m.drop (KY q.m b.m))[j]?=G7 x->CO9 ⟨true,[Z9 e,PS (q.m.take (KY q.m b.m)++(b.m.drop (KY q.m b.m)).take j)],i,e,q.m.take (KY q.m b.m)++(b.m.drop (KY q.m b.m)).take j,q.dn,TG q.m q.dn,q.ws⟩ x ⟨true,[Z9 e,PS (q.m.take (KY q.m b.m)++(b.m.drop (KY q.m b.m)).take (j+1))],i,e,q.m.take (KY q.m b.m)++(b.m.drop (KY q.m b.m)).take (j+1),q.dn,TG q.m q.dn,q.ws⟩:=by
  intro j x hx;have e1:b.m=(q.m.take (KY q.m b.m)++(b.m.drop (KY q.m b.m)).take j)++x::(b.m.drop (KY q.m b.m)).drop (j+1):=by
   rw[hs,BZ,<-BR7 hx];exact hbb
  have e2:q.m.take (KY q.m b.m)++(b.m.drop (KY q.m b.m)).take (j+1)=(q.m.take (KY q.m b.m)++(b.m.drop (KY q.m b.m)).take j)++[x]:=by rw[QH hx,BZ]
  have hL:=okb.log;rw[e1]at hL;have hg:=hL.good x (by simp);have hL1:Logs ((q.m.take (KY q.m b.m)++(b.m.drop (KY q.m b.m)).take j)++[x]):=by
   have:Logs (((q.m.take (KY q.m b.m)++(b.m.drop (KY q.m b.m)).take j)++[x])++(b.m.drop (KY q.m b.m)).drop (j+1)):=by simpa using hL
   exact this.left
  have hx2:=YH hg;have hlen:(q.m.take (KY q.m b.m)++(b.m.drop (KY q.m b.m)).take j).length<=300:=by
   have:=congrArg List.length e1;rw[AP]at this;omega
  have hlast:¬x.z<=J6 (q.m.take (KY q.m b.m)++(b.m.drop (KY q.m b.m)).take j):=by
   intro hle;by_cases hn:q.m.take (KY q.m b.m)++(b.m.drop (KY q.m b.m)).take j=[]
   .rw[hn,XE]at hle;have:=okb.pos x (List.mem_of_mem_drop (BA hx));omega
   .obtain⟨y,hy,hyz⟩:=aV hn;have:=(DN.1 hL1.rise).2.2 y hy x (by simp);omega
  refine⟨hlast,by omega,by omega,BP hlen (by decide),[Z9 e,PS ((q.m.take (KY q.m b.m)++(b.m.drop (KY q.m b.m)).take j)++[x])],by rw[e2],BV2 e hL1 hlen⟩
 have main:=B88 (svP i q) v vl b.m e w hv hvl (ok.fits hu) (by omega) ht (by rw[hts,J5 hu];show ¬ ((KY q.m b.m:Nat):Int)<(q.dn:Int);omega) z _ _ (by rw[hts];exact hz) G R gd (fun j=>⟨true,[Z9 e,PS (q.m.take (KY q.m b.m)++(b.m.drop (KY q.m b.m)).take j)],i,e,q.m.take (KY q.m b.m)++(b.m.drop (KY q.m b.m)).take j,q.dn,TG q.m q.dn,q.ws⟩) (by rw[hts,J5 hu];simp) (by rw[hts];exact step);rw[hts]at main;have e3:svP i (yO e b.m q)=⟨true,[Z9 e,PS (q.m.take (KY q.m b.m)++(b.m.drop (KY q.m b.m)).take (b.m.drop (KY q.m b.m)).length)],i,e,q.m.take (KY q.m b.m)++(b.m.drop (KY q.m b.m)).take (b.m.drop (KY q.m b.m)).length,q.dn,TG q.m q.dn,q.ws⟩:=by
  have et:TG q.m q.dn=TG b.m q.dn:=by
   rw[<-mF q.m hd,<-mF b.m hd,hs]
  rw[DX,hs,DW,et,J5 (p:=yO e b.m q) rfl];simp[yO,A70 (show e≠0 by omega),PS,IG]
 rw[e3];exact main
theorem zC(ok:MO 300 q)(hu:q.up=true)(okb:MO 300 b)(hd:KY q.m b.m<q.dn)(v vl:FZ)(w:FX)(hv:SvV w v (svP i q))(hvl:NI w vl b.m):
  G5 prog 58 #[v,vl,I0 e] w (pX w 13):=by
 obtain⟨b1,b2⟩:=okb.small;exact AR3 (svP i q) v vl b.m e w hv hvl (ok.fits hu) (by omega) (by rw[J5 hu];show ((KY q.m b.m:Nat):Int)<(q.dn:Int);omega)
structure El(p:Pw):Prop where
 ok:∀i,i<3->MO 300 (p.s i)
 cl:∀i,i<16->uY 300 p.H i (p.c i)
 en:1<=eN p.s/\eN p.s<=300
 one:∀i j,i<3->j<3->∀x∈(p.s i).m,∀y∈(p.s j).m,x.z=y.z->x=y
 fol:¬ (KD p.s).length<2->AV1 p.s=false->∀i,i<3->MO 300 (eS p.s i)
 fin:¬ (KD p.s).length<2->AV1 p.s=false->∀i,i<3->MO 300 ((MB (eS p.s) (KD p.s)).1 i)
theorem MO.fol{N:Int}(hq:MO N q)(hb:MO N b)(he:0<=e/\e<=N)(hd:q.dn<=KY q.m b.m):MO N (yO e b.m q):=
 ⟨hb.log,hb.pos,hb.len,A8 _,he.1,he.2,BP hd (Y6 q.m b.m).2,hb.play,hq.wl,hq.wk,fun h=>by simp[yO]at h,fun _=>rfl⟩
theorem D03{q:Pw}(h:QE q)(hn:q.n<300):El (LQ q):=by
 have hok:∀i,i<3->MO 300 (q.s i):=fun i hi=>(h.s i hi).more (by omega);refine⟨hok,fun i hi=>(h.c i hi).more (by omega) (fun _ hx=>hx),?_,fun i j hi hj x hx y hy e=>h.a.one x (h.a.hist i hi x (by rw[LY hi];exact hx)) y (h.a.hist j hj y (by rw[LY hj];exact hy)) e,fun h2 hb i hi=>?_,fun h2 hb i hi=>?_⟩
 .have:=CD2 h;show 1<=eN q.s/\eN q.s<=300;omega
 .show MO 300 (eS q.s i);have hB:=KU.1 (BB3 (s:=q.s) (show 2<=(KD q.s).length from Nat.le_of_not_lt h2));unfold eS
  split
  .rename_i hu
   have:=CD2 h;exact MO.fol (hok i hi) (hok _ hB.1) (by omega) (BB4 (s:=q.s) hb (KU.2 ⟨hi,hu.1⟩))
  .exact hok i hi
 .exact((qI h hn h2 hb).s i hi).more (by show q.n+1<=300;omega)
theorem AH8(h:∀i,i<3->MO 300 (s i)):C15 (RJ s) 0:=by
 refine .inl ⟨rfl,fun i k hi=>?_⟩;have hlt:i<(KD s).length:=by have:=(AV.1 hi).1;rwa[dM]at this
 unfold RJ at hi;rw[List.getElem?_map,AO hlt]at hi;simp only[Option.map_some,BF]at hi;subst hi;have hm:=List.getElem_mem hlt;obtain⟨h3,_⟩:=KU.1 hm;have ok:=h _ h3;have h0:=ok.e0;have h1:=ok.e1;unfold AF8;rw[if_neg,if_neg (by simp only;omega),if_neg (by simp only;omega)];intro ha;rw[List.any_eq_true]at ha;obtain⟨q,hq,e⟩:=ha;rw[RJ,<-List.map_take]at hq;obtain⟨j,hj,rfl⟩:=F5.1 hq;have e':j=(KD s)[i]:=by
  have:(j:Int)=((KD s)[i]:Nat):=by simpa using e
  omega
 have hnd:=VL s;rw[<-DW i (KD s)]at hnd;have hd:(KD s)[i]∈(KD s).drop i:=BA (i:=0) (by rw[List.getElem?_drop];simp[AO hlt]);exact(DN.1 hnd).2.2 j hj _ hd e'
theorem BV4(h:∀i,i<3->MO 300 (s i))(h2:(KD s).length<2):CZ5 (RJ s) 0 0 14:=⟨0,AH8 h,.inr ⟨rfl,.inl ⟨by rw[dM];exact h2,rfl,rfl,rfl⟩⟩⟩
theorem BC9(h:El p)(h2:¬ (KD p.s).length<2):CZ5 (RJ p.s) (MN (RJ p.s) (KD p.s).length:Nat) (eN p.s) 0:=
 ⟨0,AH8 h.ok,.inr ⟨rfl,.inr ⟨by rw[dM];omega,.inr ⟨by have:=h.en;unfold eN at this;omega,by rw[dM],rfl,rfl⟩⟩⟩⟩
theorem BD0(h2:¬ (KD s).length<2):MN (RJ s) (KD s).length<(KD s).length:=by
 have:=YC (RJ s) (KD s).length;omega
theorem CE5(h2:¬ (KD s).length<2):(KD s)[MN (RJ s) (KD s).length]?=G7 (eB s):=by
 have:=BD0 h2;rw[eB,List.getD_eq_getElem?_getD,AO this];rfl
def elS(s:Nat->Ps)(j:Nat):Nat->Ps:=fun k=>if k∈(KD s).take j then yO (eN s) (s (eB s)).m (s k)else s k
def elR(s:Nat->Ps)(j:Nat):Nat->Int:=fun k=>if k∈(KD s).take j then 1 else 0
theorem BV5(s:Nat->Ps):elS s 0=s:=by funext k;simp[elS]
theorem BV6(s:Nat->Ps):elR s 0=fun _=>0:=by funext k;simp[elR]
theorem BV7(h:(KD s)[j]?=G7 i):elS s (j+1)=LH (elS s j) i (yO (eN s) (s (eB s)).m (s i)):=by
 funext k
 unfold elS LH;rw[QN h];by_cases e:k=i
 .subst e;rw[if_pos (by simp),if_pos rfl]
 .rw[if_neg e];congr 1;simp[e]
theorem BV8(h:(KD s)[j]?=G7 i):elR s (j+1)=LH (elR s j) i 1:=by
 funext k
 unfold elR LH;rw[QN h];by_cases e:k=i
 .subst e;rw[if_pos (by simp),if_pos rfl]
 .rw[if_neg e];congr 1;simp[e]
theorem CE6(s:Nat->Ps):elS s (KD s).length=eS s:=by
 funext k
 unfold elS eS;rw[DX]
 congr 1
 rw[KU];exact propext ⟨fun h=>⟨h.2,h.1⟩,fun h=>⟨h.2,h.1⟩⟩
theorem CE7:LH (elR s (KD s).length) (eB s) 2=eR s:=by
 funext k
 unfold elR eR LH;rw[DX];by_cases e:k=eB s
 .rw[if_pos e,if_pos e]
 .rw[if_neg e,if_neg e];show (if k∈KD s then(1:Int)else 0)=_
  congr 1
  rw[KU];exact propext ⟨fun h=>⟨h.2,h.1⟩,fun h=>⟨h.2,h.1⟩⟩
theorem CE8(h:(KD s)[j]?=G7 i):elS s j i=s i:=by
 unfold elS;rw[if_neg];intro hm;have hnd:=VL s;rw[<-DW j (KD s)]at hnd;have hd:i∈(KD s).drop j:=BA (i:=0) (by rw[List.getElem?_drop];simpa using h);exact(DN.1 hnd).2.2 i hm i hd rfl
theorem CE9(h:i∈KD s)(hb:KY (s i).m (s (eB s)).m<(s i).dn):AV1 s=true:=by
 unfold AV1;rw[List.any_eq_true];exact⟨i,h,by simpa using hb⟩
theorem CR8(h:∀i∈KD s,(s i).dn<=KY (s i).m (s (eB s)).m):AV1 s=false:=by
 unfold AV1;rw[List.any_eq_false];intro i hi;have:=h i hi;simp;omega
theorem gB(s:Nat->Ps):(KD s).length<=3:=BP (List.length_filter_le _ _) (by simp)
theorem CR9(h:WZ W)(hx:WX W k p):1≠k:=by
 intro e;have h1:=h.cell A59 0 (by decide);have h2:=hx.count;rw[<-e]at h2;rw[h2]at h1;simp[Lib.pow10Tab]at h1
theorem WZ.touch{F:Nat->Prop}(h:WZ W)(ht:Touch F W V)(hF:¬F 1):WZ V:=by
 have hlt:=A60 h;unfold WZ Lib.TabIs World.var? at h⊢;simp only[A59,Option.bind_some]at h⊢;rw[ht.block _ hlt hF];exact h
theorem dP(h:WZ W)(hx:WX W k p)(ht:Touch (· =k) W V):WZ V:=h.touch ht (CR9 h hx)
structure BxS(w V:FX)(q:Nat)(s:Sv)(vd vl vn vs vw:FZ):Prop where
 b:Below w.heap.size w V
 le:w.heap.size<=q
 box:IJ V q s.up vd s.id s.ep vl s.dn s.tr.z vn vs vw
theorem CF0{w1:FX}{s:Sv}(h:Below w.heap.size w w1):BxS w (w1.alloc (FW #[.bool s.up,vd,.int .i64 s.id,.int .i64 s.ep,vl,.int .i64 s.dn,.int .i64 s.tr.z,vn,vs,vw] 55)) w1.heap.size s vd vl vn vs vw:=
 ⟨GI h (GH _ _),h.size,IJ.new _ _ _ _ _ _ _ _ _ _ _⟩
theorem CF1{w1:FX}{q:Nat}{s:Sv}(h:Below w.heap.size w w1)(hq:w.heap.size<=q)(hz:IJ w1 q false (FV G6 0 0) 0 0 (FV G6 0 0) 0 0 (FV G6 0 0) (FV G6 0 0) (FV G6 0 0)):BxS w (OU w1 q (.bool s.up) vd (.int .i64 s.id) (.int .i64 s.ep) vl (.int .i64 s.dn) (.int .i64 s.tr.z) vn vs vw) q s vd vl vn vs vw:=
 ⟨JO h hq _ _ _ _ _ _ _ _ _ _,hq,lU hz _ _ _ _ _ _ _ _ _ _⟩
def RqB(W:FX)(g:Nat)(r:Rq):Prop:=W.heap[g]?=G7 (FW #[.int .i64 r.o,.int .i64 r.s,.string ⟨r.p.toArray⟩,.string ⟨r.d.toArray⟩,.int .i64 r.v,.int .i64 r.f] 28 (0,0))
theorem RqB.new(w:FX)(r:Rq):RqB (w.alloc (FW #[.int .i64 r.o,.int .i64 r.s,.string ⟨r.p.toArray⟩,.string ⟨r.d.toArray⟩,.int .i64 r.v,.int .i64 r.f] 28)) w.heap.size r:=heap_alloc_new w _
theorem RqB.lt(h:RqB W g r):g<W.heap.size:=(Array.getElem?_eq_some_iff.1 h).1
theorem RqB.next(h:RqB W g r)(hb:Below W.heap.size W V):RqB V g r:=(hb.block g h.lt).trans h
theorem RqB.cells(h:RqB W g r):W.cell? ⟨g,0,G6⟩=G7 (.int .i64 r.o)/\W.cell? ⟨g,1,G6⟩=G7 (.int .i64 r.s)/\W.cell? ⟨g,2,G6⟩=G7 (.string ⟨r.p.toArray⟩)/\W.cell? ⟨g,3,G6⟩=G7 (.string ⟨r.d.toArray⟩)/\W.cell? ⟨g,4,G6⟩=G7 (.int .i64 r.v)/\W.cell? ⟨g,5,G6⟩=G7 (.int .i64 r.f):=by
 unfold RqB at h;refine⟨?_,?_,?_,?_,?_,?_⟩<;>simp[World.cell?,h]
theorem RqB.GX(h:RqB W g r)(j:Nat):W.frozen? ⟨g,j,G6⟩=false:=by
 unfold RqB at h;simp[World.frozen?,h]
theorem RqB.set(h:RqB W g r)(s:Int):RqB (W.setCell ⟨g,1,G6⟩ (.int .i64 s)) g ⟨r.o,s,r.p,r.d,r.v,r.f⟩:=by
 unfold RqB at h⊢;rw[GV _ h];rfl
structure PP(w W:FX)(d:Dd):Prop where
 b:Below w.heap.size w W
 a:TAt W (w.heap.size+1) t0
 d:JM W w.heap.size d
theorem PP.start(w:FX)(d:Dd):PP w ((w.alloc (FW #[.int .i64 d.k,.int .i64 d.c,.int .i64 d.s,.int .i64 d.q.o,.int .i64 d.q.s,.string ⟨d.q.p.toArray⟩,.string ⟨d.q.d.toArray⟩,.int .i64 d.q.v,.int .i64 d.q.f,.int .i64 d.lo,.int .i64 d.sl,.int .i64 d.ke,.bool d.wt] 30)).alloc (FW #[.int .i64 0,.int .i64 0,.int .i64 0,.string ⟨#[]⟩,.string ⟨#[]⟩,.int .i64 0,.int .i64 0] 83)) d:=by
 exact⟨GI (GH _ _) (GH _ _),dK _ _ _,JM.VI (heap_alloc_new w _:JM (w.alloc _) w.heap.size d) (GH _ _) (by simp)⟩
theorem PP.next{d:Dd}(h:PP w W d)(hb:Below W.heap.size W V):PP w V d:=⟨GI h.b hb,h.a.next hb,h.d.VI hb h.d.ltz⟩
theorem AI1{d:Dd}(h:JM W g d):(W.cell? ⟨g,0,G6⟩=G7 (.int .i64 d.k)/\W.cell? ⟨g,1,G6⟩=G7 (.int .i64 d.c)/\W.cell? ⟨g,2,G6⟩=G7 (.int .i64 d.s)/\W.cell? ⟨g,3,G6⟩=G7 (.int .i64 d.q.o)/\W.cell? ⟨g,4,G6⟩=G7 (.int .i64 d.q.s)/\W.cell? ⟨g,5,G6⟩=G7 (.string ⟨d.q.p.toArray⟩)/\W.cell? ⟨g,6,G6⟩=G7 (.string ⟨d.q.d.toArray⟩))/\W.cell? ⟨g,7,G6⟩=G7 (.int .i64 d.q.v)/\W.cell? ⟨g,8,G6⟩=G7 (.int .i64 d.q.f)/\W.cell? ⟨g,9,G6⟩=G7 (.int .i64 d.lo)/\W.cell? ⟨g,10,G6⟩=G7 (.int .i64 d.sl)/\W.cell? ⟨g,11,G6⟩=G7 (.int .i64 d.ke)/\W.cell? ⟨g,12,G6⟩=G7 (.bool d.wt):=by
 have r:=h.row;simp only[Nat.zero_add]at r;exact⟨⟨r 0 _ rfl,r 1 _ rfl,r 2 _ rfl,r 3 _ rfl,r 4 _ rfl,r 5 _ rfl,r 6 _ rfl⟩,r 7 _ rfl,r 8 _ rfl,r 9 _ rfl,r 10 _ rfl,r 11 _ rfl,r 12 _ rfl⟩
theorem iJ(p:Pw)(d:Dd)(k b:Nat)(W:FX)(hx:WX W k p)(hT:WZ W)(hb:b<3)(hl:ldP p.r=b)(hu:(p.s b).up=true)(hok:MO 300 (p.s b))(hn:nxE (p.s b).e (J6 (p.s b).m)=0)(hc:0<=d.c/\d.c<16)(hp:d.q.p.length<=140737488355328)(hd:d.q.d.length<=140737488355328):
  G5 prog 44 #[wP k,ddV d] W fun e w'=>e=.returned (.tuple #[JA (wX p d),.int .i64 (wE p d)])/\Below W.heap.size W w':=by
 have D0:=G9 (PP.start W d);obtain⟨c,hc16,hdc⟩:∃c:Nat,c<16/\d.c=c:=⟨d.c.toNat,by omega,by omega⟩;obtain⟨ad,nd,cd,al,cl,an,cn,ai,ci,aw,cw,SS,hv,_⟩:=hx.srv hb rfl;obtain⟨ca,cc,k0,k1,k2,_⟩:=hx.cl hc16;have hsv:=J5 (i:=b) hu;have CL:=G9 (fun V (hV:Below W.heap.size W V)=>NZ p k V (hx.next hV));rw[hl]at CL;have HV:=G9 (fun V (hV:Below W.heap.size W V)=>hv.next hV);have CN:=G9 (fun V (hV:Below W.heap.size W V)=>BS6 ⟨(svP b (p.s b)).id,(svP b (p.s b)).ep,al,cl,(svP b (p.s b)).ts,(svP b (p.s b)).dn⟩ V (by
  obtain⟨_,_,_,_,_,e,_,r2,_,_,_⟩:=hv.next hV;simp only[EO,F8,EI,true_and,and_true]at e;rw[<-e.2.1]at r2;exact r2))
 have HT:=G9 hT;have hgt:SN (svP b (p.s b)).tr:=by rw[hsv];exact hok.play.good hok.dn
 have CP:=G9 (fun V (hV:Below W.heap.size W V) (z:Int)=>A85 (svP b (p.s b)).tr z (FV an (svP b (p.s b)).tr.ns.length cn) (FV ai (svP b (p.s b)).tr.ss.length ci) (wQ p d) V (by
  obtain⟨_,_,_,_,_,e,_,_,r3,_,_⟩:=hv.next hV;simp only[EO,F8,EI,true_and,and_true]at e;rw[<-e.2.2.1]at r3;exact r3) (by
  obtain⟨_,_,_,_,_,e,_,_,_,r4,_⟩:=hv.next hV;simp only[EO,F8,EI,true_and,and_true]at e;rw[<-e.2.2.2.1]at r4;exact r4) hgt.pwf hp hd ((G8 HT).next hV))
 have HE:Hid (wX p d=AU9 (svP b (p.s b)).tr (nxN (svP b (p.s b)).ep (J6 (svP b (p.s b)).ts)) (wQ p d)/\wE p d=iL (svP b (p.s b)).tr (nxN (svP b (p.s b)).ep (J6 (svP b (p.s b)).ts)) (wQ p d)):=G9 (by
  have hln:ldN p.r=b:=by rw[ldN,hl];simp
  rw[wX,wE,wTr,wZ,hln,hsv];exact⟨rfl,rfl⟩)
 have hne:nxE (svP b (p.s b)).ep (J6 (svP b (p.s b)).ts)=0:=by rw[hsv];exact hn
 rw[hne]at CN;have hdn:(p.c d.c.toNat).s=(p.c c).s:=by rw[hdc];rfl
 have HQ:Hid (wQ p d=⟨d.q.o,(p.c c).s,d.q.p,d.q.d,d.q.v,d.q.f⟩):=G9 (by rw[wQ,hdn]);have HX:=G9 hx;obtain⟨dk,dc,ds,⟨o,s,pp,dd,v,f⟩,lo,sl,ke,wt⟩:=d;simp only at hdc HQ;subst hdc;rw[(G8 HE).1,(G8 HE).2];rw[G8 HQ]at CP⊢;clear HQ HE;generalize hs0:svP b (p.s b)=s0 at*;unfold wP ddV;have HS:=G9 (fun V (hV:Below W.heap.size W V)=>SS.next hx.lt hV);simp only[DL 10 b]at HS;have HC:=G9 (And.intro k0 (And.intro k1 k2));have hk0:=hx.lt;have hb4:(b:Int)<3:=by omega
 have hc4:(c:Int)<16:=by omega
 unfold peV at CN;unfold rqV AI0 JA at CP;clear SS hv k0 k1 k2 hsv hl hT hgt hn hne hc hp hd hx hs0 hok hu hdn;go_enter func44,ntmps44;go_upto_region 1 with fail;generalize ((W.alloc _).alloc _)=W1 at*;have hkW:k<W1.heap.size:=AY hk0 (G8 D0).b.size;have HKS:Hid (∀V,Below W1.heap.size W1 V->V.cell? ⟨k,1+b*10,G6⟩=G7 (.bool s0.up)/\V.cell? ⟨k,1+b*10+1,G6⟩=G7 (FV ad nd cd)/\V.cell? ⟨k,1+b*10+2,G6⟩=G7 (.int .i64 s0.id)/\V.cell? ⟨k,1+b*10+3,G6⟩=G7 (.int .i64 s0.ep)/\V.cell? ⟨k,1+b*10+4,G6⟩=G7 (FV al s0.ts.length cl)/\V.cell? ⟨k,1+b*10+5,G6⟩=G7 (.int .i64 s0.dn)/\V.cell? ⟨k,1+b*10+6,G6⟩=G7 (.int .i64 s0.tr.z)/\V.cell? ⟨k,1+b*10+7,G6⟩=G7 (FV an s0.tr.ns.length cn)/\V.cell? ⟨k,1+b*10+8,G6⟩=G7 (FV ai s0.tr.ss.length ci)/\V.cell? ⟨k,1+b*10+9,G6⟩=G7 (FV aw s0.ws.length cw)):=G9 fun V hV=>by
  obtain⟨c0,c1,c2,c3,c4,c5,c6,c7,c8,c9⟩:=G8 HS V (GI (G8 D0).b hV);exact⟨c0,c1,c2,c3,c4,c5,c6,c7,c8,c9⟩
 replace CL:=G9 (fun V (hV:Below W1.heap.size W1 V)=>G8 CL V (GI (G8 D0).b hV))
 go_cut [6]from 10 (fun t6 wx=>∃q,t6=.pointer (G7 ⟨q,0,G6⟩)/\Hid (BxS W1 wx q s0 (FV ad nd cd) (FV al s0.ts.length cl) (FV an s0.tr.ns.length cn) (FV ai s0.tr.ss.length ci) (FV aw s0.ws.length cw)))
 case first=>
  have hS0:=G8 HKS _ (AA W1.heap.size W1).drew;refine wp_region_held (S:=fun V:FX=>V.cell? ⟨k,1+b*10,G6⟩=G7 (.bool s0.up)/\V.cell? ⟨k,1+b*10+1,G6⟩=G7 (FV ad nd cd)/\V.cell? ⟨k,1+b*10+2,G6⟩=G7 (.int .i64 s0.id)/\V.cell? ⟨k,1+b*10+3,G6⟩=G7 (.int .i64 s0.ep)/\V.cell? ⟨k,1+b*10+4,G6⟩=G7 (FV al s0.ts.length cl)/\V.cell? ⟨k,1+b*10+5,G6⟩=G7 (.int .i64 s0.dn)/\V.cell? ⟨k,1+b*10+6,G6⟩=G7 (.int .i64 s0.tr.z)/\V.cell? ⟨k,1+b*10+7,G6⟩=G7 (FV an s0.tr.ns.length cn)/\V.cell? ⟨k,1+b*10+8,G6⟩=G7 (FV ai s0.tr.ss.length ci)/\V.cell? ⟨k,1+b*10+9,G6⟩=G7 (FV aw s0.ws.length cw)) (by kernel_rfl) ?_;change wpAnyH _ _ _ _ _ _ _ _ W1.drew;refine tkH 0 hS0 ?_;refine tkH 1 hS0 ?_;refine tkH 3 hS0 ?_;refine tkH 4 hS0 ?_;refine rd2 2 7 (fun K hK=>?_) (fun K hK=>?_)
  .go_simp;refine(G8 CL _ (AA _ _).drew).mono ?_;rintro e w1 ⟨rfl,hb1⟩;have aB1:Hid (Below W1.heap.size W1 w1):=G9 (GI (AA _ _).drew hb1);clear hb1;have hS1:=G8 HKS _ (G8 aB1);refine nxH hK hS1 ?_;clear hK K;refine tkH 5 hS1 ?_;refine tkH 6 hS1 ?_;refine rd1 7 (fun K hK=>?_);go_simp;have hS2:=G8 HKS _ (GI (G8 aB1) (GH w1 (FW #[.bool false,FV G6 0 0,.int .i64 0,.int .i64 0,FV G6 0 0,.int .i64 0,.int .i64 0,FV G6 0 0,FV G6 0 0,FV G6 0 0] 55)));refine nxH hK hS2 ?_;clear hK K;refine rd1 8 (fun K hK=>?_);go_simp;have hX2:Hid (BxS W1 _ _ s0 (FV ad nd cd) (FV al s0.ts.length cl) (FV an s0.tr.ns.length cn) (FV ai s0.tr.ss.length ci) (FV aw s0.ws.length cw)):=G9 (CF0 (G8 aB1));have hS3:=G8 HKS _ (G8 hX2).b;refine nxH hK hS3 ?_;clear hK K;refine wpAnyH_done (by kernel_rfl) ?_ _;go_wp2_with fail
   go_meet
   exact⟨_,rfl,hX2⟩
  .go_simp;have hS2:=G8 HKS _ (GI (AA W1.heap.size W1).drew (GH W1.drew (FW #[.bool false,FV G6 0 0,.int .i64 0,.int .i64 0,FV G6 0 0,.int .i64 0,.int .i64 0,FV G6 0 0,FV G6 0 0,FV G6 0 0] 55)));refine nxH hK hS2 ?_;clear hK K;refine rd1 2 (fun K hK=>?_);go_simp;refine(G8 CL _ (GI (AA _ _).drew (GH _ _))).mono ?_;rintro e w1 ⟨rfl,hb1⟩;have aB1:Hid (Below W1.heap.size W1 w1):=G9 (GI (GI (AA _ _).drew (GH _ _)) hb1);have aZ1:Hid (IJ w1 W1.heap.size false (FV G6 0 0) 0 0 (FV G6 0 0) 0 0 (FV G6 0 0) (FV G6 0 0) (FV G6 0 0)):=G9 ((hb1.block _ (by simp)).trans (heap_alloc_new W1.drew _));clear hb1;have hS1:=G8 HKS _ (G8 aB1);refine nxH hK hS1 ?_;clear hK K;refine tkH 5 hS1 ?_;refine tkH 6 hS1 ?_;refine rd1 8 (fun K hK=>?_);have z0:=(G8 aZ1).GX 0;have z1:=(G8 aZ1).GX 1;have z2:=(G8 aZ1).GX 2;have z3:=(G8 aZ1).GX 3;have z4:=(G8 aZ1).GX 4;have z5:=(G8 aZ1).GX 5;have z6:=(G8 aZ1).GX 6;have z7:=(G8 aZ1).GX 7;have z8:=(G8 aZ1).GX 8;have z9:=(G8 aZ1).GX 9;obtain⟨x0,x1,x2,x3,x4,x5,x6,x7,x8,x9⟩:=(G8 aZ1).cells;go_simp;have hX2:Hid (BxS W1 _ _ s0 (FV ad nd cd) (FV al s0.ts.length cl) (FV an s0.tr.ns.length cn) (FV ai s0.tr.ss.length ci) (FV aw s0.ws.length cw)):=G9 (CF1 (G8 aB1) (A8 _) (G8 aZ1));have hS3:=G8 HKS _ (G8 hX2).b;refine nxH hK hS3 ?_;clear hK K;refine wpAnyH_done (by kernel_rfl) ?_ _;go_wp2_with fail
   go_meet
   exact⟨_,rfl,hX2⟩
 case rest=>
  obtain⟨q,rfl,HQ⟩:=hcut;have D1:=G9 ((G8 D0).next (G8 HQ).b);have B1:=G9 (G8 D1).b;obtain⟨q0,q1,q2,q3,q4,q5,q6,q7,q8,q9⟩:=(G8 HQ).box.cells;clear HKS CL D0;go_wp2_with fail;refine(G8 CN _ (G8 B1)).mono ?_;rintro e w2 ⟨rfl,hb2⟩;have D2:=G9 ((G8 D1).next hb2);have Q2:=G9 ((G8 HQ).box.next hb2);have hq2:=hb2.size;have hql:=(G8 HQ).le;have hqt:=(G8 HQ).box.lt;have hWg:=(Array.getElem?_eq_some_iff.1 (G8 D2).a).1;clear q0 q1 q2 q3 q4 q5 q6 q7 q8 q9 CN D1 B1 HQ hb2;obtain⟨⟨e0,e1,e2,e3,e4,e5,e6⟩,e7,e8,e9,e10,e11,e12⟩:=AI1 (G8 D2).d;go_upto_region 6 with fail;have D3:=G9 ((G8 D2).next (GH w2 (FW #[.int .i64 o,.int .i64 s,.string ⟨pp.toArray⟩,.string ⟨dd.toArray⟩,.int .i64 v,.int .i64 f] 28)));have Q3:=G9 ((G8 Q2).next (GH w2 (FW #[.int .i64 o,.int .i64 s,.string ⟨pp.toArray⟩,.string ⟨dd.toArray⟩,.int .i64 v,.int .i64 f] 28)));have G3:=G9 (RqB.new w2 ⟨o,s,pp,dd,v,f⟩);simp only at G3;generalize w2.alloc _=W3 at*;have hg3:w2.heap.size<W3.heap.size:=(G8 G3).lt;generalize hg:w2.heap.size=g at*;clear D2 Q2 e0 e1 e2 e3 e4 e5 e6 e7 e8 e9 e10 e11 e12 hg;obtain⟨⟨_,e1,_,_,_,_,_⟩,_,_,_,_,_,_⟩:=AI1 (G8 D3).d;obtain⟨g0,g1,g2,g3,g4,g5⟩:=(G8 G3).cells;have gf:=(G8 G3).GX 1;have hdl:=(G8 D3).d.ltz;have hkW3:k<W3.heap.size:=AY hk0 (G8 D3).b.size;have y0:W3.cell? ⟨k,34+c*3,G6⟩=G7 (.int .i64 (p.c c).s):=by
   rw[World.cell?,(G8 D3).b.block k hk0,DL c 3];exact(G8 HC).1
  have hgk:g≠k:=by omega
  have hgW:g≠W.heap.size:=by omega
  simp only at e1 g0 g1 g2 g3 g4 g5;go_region;have B4:=G9 (((G8 D3).b.setCell (p:=⟨g,1,G6⟩) (by simp only;omega) (.int .i64 (p.c c).s)).drew);have A4:=G9 (TAt.next (W:=W3.setCell ⟨g,1,G6⟩ (.int .i64 (p.c c).s)) ((Below.heap_setCell W3 ⟨g,1,G6⟩ (.int .i64 (p.c c).s) _ (by simp only;omega)).trans (G8 D3).a) (AA _ _).drew);have Q4:=G9 (((G8 Q3).other (i:=g) (j:=1) (u:=.int .i64 (p.c c).s) (by omega)).next (AA _ _).drew);have G4:=G9 (((G8 G3).set (p.c c).s).next (AA _ _).drew);generalize World.drew _=W4 at*;clear D3 Q3 G3 e1 g0 g1 g2 g3 g4 g5 gf y0 hgk hgW hkW3;obtain⟨q0,q1,q2,q3,q4,q5,q6,q7,q8,q9⟩:=(G8 Q4).cells;obtain⟨g0,g1,g2,g3,g4,g5⟩:=(G8 G4).cells;simp only at g0 g1 g2 g3 g4 g5;go_wp2_with fail;refine(G8 CP _ (G8 B4) _).mono ?_;rintro e w5 ⟨rfl,hb5⟩;have A5:=(G8 A4).next hb5;obtain⟨a0,a1,a2,a3,a4,a5,a6⟩:w5.cell? ⟨W.heap.size+1,0,G6⟩=G7 (.int .i64 0)/\w5.cell? ⟨W.heap.size+1,1,G6⟩=G7 (.int .i64 0)/\w5.cell? ⟨W.heap.size+1,2,G6⟩=G7 (.int .i64 0)/\w5.cell? ⟨W.heap.size+1,3,G6⟩=G7 (.string ⟨#[]⟩)/\w5.cell? ⟨W.heap.size+1,4,G6⟩=G7 (.string ⟨#[]⟩)/\w5.cell? ⟨W.heap.size+1,5,G6⟩=G7 (.int .i64 0)/\w5.cell? ⟨W.heap.size+1,6,G6⟩=G7 (.int .i64 0):=⟨A5.c0,A5.c1,A5.c2,A5.c3,A5.c4,A5.c5,A5.c6⟩;have f0:=A5.f 0;have f1:=A5.f 1;have f2:=A5.f 2;have f3:=A5.f 3;have f4:=A5.f 4;have f5:=A5.f 5;have f6:=A5.f 6;generalize hXX:AU9 _ _ _=X at*;generalize hEE:iL _ _ _=E at*;have HXX:=G9 hXX;have HEE:=G9 hEE;clear hXX hEE;have B5:=G9 (PI X (GI (G8 B4) hb5) (show W.heap.size<=W.heap.size+1 by omega));clear A5 hb5 B4 A4 Q4 G4 CP;unfold put7 at B5;go_wp2_with fail;exact bodyPost_ret (v:=.tuple #[.agg #[.int .i64 X.z,.int .i64 X.o,.int .i64 X.s,.string ⟨X.p.toArray⟩,.string ⟨X.d.toArray⟩,.int .i64 X.v,.int .i64 X.w],.int .i64 E]) (by simp[results,results44,go_sem,a0,a1,a2,a3,a4,a5,a6]) rfl ⟨by rw[G8 HXX,G8 HEE];rfl,G8 B5⟩
structure Off(f:Nat->FZ)(p:Pw)(g:Nat):Prop where
 d:∀i,i<3->(svP i (p.s i)).fs≠[]->VO (f (1+10*i+1)) g
 l:∀i,i<3->(svP i (p.s i)).ts≠[]->VO (f (1+10*i+4)) g
 n:∀i,i<3->(svP i (p.s i)).tr.ns≠[]->VO (f (1+10*i+7)) g
 i:∀i,i<3->(svP i (p.s i)).tr.ss≠[]->VO (f (1+10*i+8)) g
 w:∀i,i<3->(svP i (p.s i)).ws≠[]->VO (f (1+10*i+9)) g
 c:∀i,i<16->(p.c i).es≠[]->VO (f (34+3*i+2)) g
 a:p.D≠[]->VO (f 82) g
def WXO(W:FX)(k:Nat)(p:Pw)(v:FZ):Prop:=∃f,WB W k f/\WdR W k f p/\∀g,v.ownBlock=G7 g->Off f p g
theorem WXO.x(h:WXO W k p v):WX W k p:=by
 obtain⟨f,h1,h2,_⟩:=h;exact⟨f,h1,h2⟩
theorem A86{f:Nat->FZ}(h:WdR W k f p)(hg:W.heap.size<=g):Off f p g:=
 ⟨fun i hi h0=>(Row.new (h.s i hi).d.1 hg).2 h0,fun i hi h0=>(Row.new (h.s i hi).l.1 hg).2 h0,fun i hi h0=>(Row.new (h.s i hi).n.1 hg).2 h0,fun i hi h0=>(Row.new (h.s i hi).i.1 hg).2 h0,fun i hi h0=>(Row.new (h.s i hi).w.1 hg).2 h0,fun i hi h0=>(Row.new (h.c i hi).e.1 hg).2 h0,fun h0=>(Row.new h.d.1 hg).2 h0⟩
theorem WX.off(h:WX W k p):WXO W k p (N0):=by
 obtain⟨f,h1,h2⟩:=h;exact⟨f,h1,h2,fun g hg=>by simp[Value.ownBlock]at hg⟩
theorem WXO.far(h:WXO W k p v)(hv:v.ownBlock=G7 g)(hk:k≠g)(ht:Touch (· =g) W V):WXO V k p v:=by
 obtain⟨f,hb,hr,ho⟩:=h;have o:=ho g hv;refine⟨f,hb.touch ht hk,⟨hr.n,fun i hi=>?_,hr.r,fun i hi=>⟨(hr.c i hi).s,(hr.c i hi).z,(hr.c i hi).e.far ht (o.c i hi)⟩,hr.d.far ht o.a,hr.h,hr.hk⟩,ho⟩;have s:=hr.s i hi;exact⟨s.up,s.d.far ht (o.d i hi),s.id,s.ep,s.l.far ht (o.l i hi),s.dn,s.z,s.n.far ht (o.n i hi),s.i.far ht (o.i i hi),s.w.far ht (o.w i hi)⟩
theorem WXO.next(h:WXO W k p v)(hb:B0 W V):WXO V k p v:=by
 obtain⟨f,h1,h2,h3⟩:=h;exact⟨f,h1.next hb,h2.next hb,h3⟩
theorem WXO.grown{v':FZ}(h:WXO W k p v)(hk:∀g,v.ownBlock=G7 g->k≠g)(hg:W.grownBy V v.ownBlock)(hn:∀g,v'.ownBlock=G7 g->v.ownBlock=G7 g\/W.heap.size<=g):WXO V k p v':=by
 have h1:WXO V k p v/\∀f,WB W k f->WdR W k f p->∀g,W.heap.size<=g->Off f p g:=⟨by
  cases e:v.ownBlock with
  |none=>exact h.next (by rw[e]at hg;exact⟨hg.os,hg.tape,hg.output,hg.size,fun b hb=>hg.block b hb (by simp)⟩)
  |some g=>exact h.far e (hk g e) ⟨hg.os,hg.tape,hg.output,hg.size,fun b hb hne=>hg.block b hb (by rw[e];intro e';exact hne (BQ e'))⟩,fun f _ hr g hg=>A86 hr hg⟩
 obtain⟨f,hb,hr,ho⟩:=h;obtain⟨f1,hb1,hr1,ho1⟩:=h1.1;have ef:∀j,j<83->f1 j=f j:=fun j hj=>by
  have c1:=hb1.cell hj;have c2:=hb.cell hj;have:V.cell? ⟨k,j,G6⟩=W.cell? ⟨k,j,G6⟩:=by
   rw[World.cell?,World.cell?,hg.block k hb.lt (fun e=>hk k e.symm rfl)]
  rw[this,c2]at c1;exact(BQ c1).symm
 refine⟨f1,hb1,hr1,fun g hg'=>?_⟩;rcases hn g hg' with e|e
 .exact ho1 g e
 .have o:=A86 hr e;exact⟨fun i hi h0=>by rw[ef _ (by omega)];exact o.d i hi h0,fun i hi h0=>by rw[ef _ (by omega)];exact o.l i hi h0,fun i hi h0=>by rw[ef _ (by omega)];exact o.n i hi h0,fun i hi h0=>by rw[ef _ (by omega)];exact o.i i hi h0,fun i hi h0=>by rw[ef _ (by omega)];exact o.w i hi h0,fun i hi h0=>by rw[ef _ (by omega)];exact o.c i hi h0,fun h0=>by rw[ef _ (by omega)];exact o.a h0⟩
structure Fr5(B:Nat)(vd vl vn vs vw:FZ):Prop where
 d:∀g,g<B->VO vd g
 l:∀g,g<B->VO vl g
 n:∀g,g<B->VO vn g
 i:∀g,g<B->VO vs g
 w:∀g,g<B->VO vw g
theorem WXO.qF(h:WXO W k p v)(hi:i<3){s:Sv}(hq:svP i q=s)(hv:SvV W (.agg #[.bool s.up,vd,I0 s.id,I0 s.ep,vl,I0 s.dn,I0 s.tr.z,vn,vs,vw]) s)(hf:Fr5 B vd vl vn vs vw)(hk:k<B)(hg:∀g,v.ownBlock=G7 g->g<B):
  WXO (qE W k (1+10*i) (.bool s.up) vd (I0 s.id) (I0 s.ep) vl (I0 s.dn) (I0 s.tr.z) vn vs vw) k ⟨p.n,LH p.s i q,p.r,p.c,p.D,p.H,p.h⟩ v:=by
 obtain⟨f,hb,hr,ho⟩:=h;have hA:SvA W k (CI9 (.bool s.up) vd (I0 s.id) (I0 s.ep) vl (I0 s.dn) (I0 s.tr.z) vn vs vw) s:=SvA.of (hr.iO hb) hv (fun _=>hf.i k hk) rfl rfl rfl rfl rfl rfl rfl rfl rfl rfl;refine⟨_,hb.qE (o:=1+10*i) (by omega) _ _ _ _ _ _ _ _ _ _,WdR.touch (W:=W) ?_ (WR _ _ _ _ _ _ _ _ _ _ _ _ _),fun g e=>?_⟩
 .refine⟨by rw[JF (by omega)];exact hr.n,fun j hj=>?_,fun j hj=>by rw[JF (by omega)];exact hr.r j hj,fun j hj=>(hr.c j hj).congr fun q hq=>by rw[JF (by omega)],by rw[JF (by omega)];exact hr.d,fun j hj h0=>?_,hr.hk⟩
  .by_cases e:j=i
   .subst e;simp only[II,hq];exact hA.congr fun q hq=>by rw[OC hq]
   .simp only[GN _ _ e];exact(hr.s j hj).congr fun q hq=>by rw[JF (by omega)]
  .by_cases e:j=i
   .subst e;rw[OC (by omega)];exact fun b hb=>hf.i b (Nat.lt_of_le_of_lt (BP hb hr.hk) hk)
   .simp only[GN _ _ e]at h0;rw[JF (by omega)];exact hr.h j hj h0
 .have o:=ho g e;have hgB:=hg g e;refine⟨fun j hj h0=>?_,fun j hj h0=>?_,fun j hj h0=>?_,fun j hj h0=>?_,fun j hj h0=>?_,fun j hj h0=>by rw[JF (by omega)];exact o.c j hj h0,fun h0=>by rw[JF (by omega)];exact o.a h0⟩
  all_goals
   by_cases e:j=i
   .subst e;rw[OC (by omega)]
    first|exact hf.d g hgB|exact hf.l g hgB|exact hf.n g hgB|exact hf.i g hgB|exact hf.w g hgB
   .rw[JF (by omega)];simp only[GN _ _ e]at h0
    first|exact o.d j hj h0|exact o.l j hj h0|exact o.n j hj h0|exact o.i j hj h0|exact o.w j hj h0
def CF2(w:FX)(s:Sv)(T:List Nt)(e:Ending)(w':FX):Prop:=
 ∃ad nd cd al cl an cn ai ci aw cw aN cN,e=.returned (.tuple #[.agg #[.bool s.up,FV ad nd cd,I0 s.id,I0 s.ep,FV al s.ts.length cl,I0 s.dn,I0 s.tr.z,FV an s.tr.ns.length cn,FV ai s.tr.ss.length ci,FV aw s.ws.length cw],FV aN T.length cN,I0 0])/\
  Hid (SvV w' (.agg #[.bool s.up,FV ad nd cd,I0 s.id,I0 s.ep,FV al s.ts.length cl,I0 s.dn,I0 s.tr.z,FV an s.tr.ns.length cn,FV ai s.tr.ss.length ci,FV aw s.ws.length cw]) s/\Fr5 w.heap.size (FV ad nd cd) (FV al s.ts.length cl) (FV an s.tr.ns.length cn) (FV ai s.tr.ss.length ci) (FV aw s.ws.length cw)/\IK w' (FV aN T.length cN) T/\∀g,g<w.heap.size->VO (FV aN T.length cN) g)/\B0 w w'
theorem BV9{w':FX}{s:Sv}{T:List Nt}{e:Ending}(h:lS w s T 0 e w')(hf:FrS w e):CF2 w s T e w':=by
 obtain⟨v,aN,cN,rfl,hs,hn,hb⟩:=h;obtain⟨ad,nd,cd,al,cl,an,cn,ai,ci,aw,cw,rfl,_⟩:=hs.five;obtain⟨f8,f1,f4,f7,f9,fy⟩:=hf _ _ _ _ _ _ _ _ _ _ _ _ rfl;exact⟨ad,nd,cd,al,cl,an,cn,ai,ci,aw,cw,aN,cN,rfl,G9 ⟨hs,⟨fun g hg=>LJ f1 hg,fun g hg=>LJ f4 hg,fun g hg=>LJ f7 hg,fun g hg=>LJ f8 hg,fun g hg=>LJ f9 hg⟩,hn,fun g hg=>LJ fy hg⟩,hb⟩
theorem zF:∀ (l:List Nat) (s:Nat->Ps) (i:Nat),MB s (l++[i])=(LH (MB s l).1 i (jE i ((MB s l).1 i)),(MB s l).2++(dW i ((MB s l).1 i)).2)
 |[],s,i=>by simp[MB]
 |j::l,s,i=>by
  show ((MB (LH s j (jE j (s j))) (l++[i])).1,(dW j (s j)).2++(MB (LH s j (jE j (s j))) (l++[i])).2)=_;rw[zF l _ i];simp[MB]
theorem uJ:∀ (l:List Nat) (s:Nat->Ps),l.Nodup->(∀i∈l,(s i).up=true)->(∀i∈l,((s i).ws.length:Int)<=300)->(MB s l).2.length<=l.length*300
 |[],s,_,_,_=>by simp[MB]
 |j::l,s,hn,hu,hw=>by
  obtain⟨h1,h2⟩:=List.nodup_cons.1 hn;have hj:=(BA6 (i:=j) (hu j (by simp))).2.1;have hwj:=hw j (by simp);have same:∀i∈l,LH s j (jE j (s j)) i=s i:=fun i hi=>GN _ _ (by rintro rfl;exact h1 hi);have ih:=uJ l (LH s j (jE j (s j))) h2 (fun i hi=>by rw[same i hi];exact hu i (by simp[hi])) (fun i hi=>by rw[same i hi];exact hw i (by simp[hi]));show ((dW j (s j)).2++_).length<=_;rw[AP,List.length_cons];omega
theorem AS9(W:FX)(ty:TypeId)(B:Nat)(v u:FZ)(N T:List Nt)(hv:H6 W B v N)(hu:IK W u T)(hl:(N.length+T.length)*32<=140737488355328)(hB:B<=W.heap.size):
  ∃v' w',(Builtin.append_ #[34,34] ty #[v,u]).run prog W=.ok v' w'/\H6 w' B v' (N++T)/\W.grownBy w' v.ownBlock/\∀g,v'.ownBlock=G7 g->v.ownBlock=G7 g\/W.heap.size<=g:=by
 obtain⟨i0,hi0,hz0,hz1,hz2⟩:=B15;have main:∀ (a:Addr) (c:Nat),(∀j x,(GK T)[j]?=G7 x->W.cell? (a.add j)=G7 x)->∃v' w',(Builtin.append_ #[34,34] ty #[v,FV (G7 a) T.length c]).run prog W=.ok v' w'/\H6 w' B v' (N++T)/\W.grownBy w' v.ownBlock/\∀g,v'.ownBlock=G7 g->v.ownBlock=G7 g\/W.heap.size<=g:=fun a c hc=>by
  obtain⟨v',w',h1,h2,h3,_,h5⟩:=run_append_own_at (P:=prog) W B 34 ty 95 i0 _ 3 32 underlying34 hi0 hz0 hz1 hz2 rfl (by decide) v N.length (GK N) hv.row a T.length c (GK T) (H7 T) hc (JR T) (by simp only[maxLen];omega) hl hB;refine⟨v',w',h1,H6.LC (by rw[AP,I8];exact h2),h3,fun g hg=>?_⟩;rcases h5 with e|e
  .rw[e]at hg;exact .inl hg
  .rw[e]at hg;simp only[BF]at hg;exact .inr (by omega)
 rcases hu with⟨a,cap,rfl,rfl,_⟩|⟨b,off,cap,rfl,_,_,_,_,hr⟩
 .cases a with
  |some a=>exact main a cap (fun j x hj=>by simp[GK]at hj)
  |none=>
   refine⟨v,W,?_,by rw[List.append_nil];exact hv,⟨rfl,rfl,rfl,A8 _,fun _ _ _=>rfl⟩,fun g hg=>.inl hg⟩;have hown:=hv.row;rcases hown.2 with⟨rfl,_⟩|⟨g,cap',cur,rfl,_,_,hnc,_⟩
   .simp[Builtin.append_,run_underlying underlying34,sizeOf,typeInfo,hi0,Builtin.lenOf,Builtin.firstCells]
   .simp[Builtin.append_,run_underlying underlying34,sizeOf,typeInfo,hi0,Builtin.lenOf,Builtin.firstCells,hnc,storeCells]
 .exact main ⟨b,off,G6⟩ cap (fun j x hj=>by rw[Addr.add_lit];exact hr j x hj)
theorem uK{w:FX}{ops:Array Oper}{rest:List Oper}{o:Oper}{a:Act}{Q:Exit->Act->FX->Prop}(hgd:o.guard=G6)(s x:Operand)
  (ho:o.op=.call {callee:=.builtin .append,args:=#[s,x],argTypes:=#[34,34]})
  (B:Nat) (v u:FZ) (N T:List Nt) (hs:a.eval s=v) (hx:a.eval x=u) (hv:H6 w B v N) (hu:IK w u T) (hl:(N.length+T.length)*32<=140737488355328) (hB:B<=w.heap.size)
  (h:∀a' c' w',H6 w' B (FV a' (N++T).length c') (N++T)->w.grownBy w' v.ownBlock->(∀g,(Value.slice a' (N++T).length c').ownBlock=G7 g->v.ownBlock=G7 g\/w.heap.size<=g)->wpList prog ops Q rest (a.put o.dst (FV a' (N++T).length c')) w'):wpList prog ops Q (o::rest) a w:=by
 refine wpList_plain hgd fun K hK=>?_;obtain⟨v',w',hr,h2,h3,h4⟩:=AS9 w o.type B v u N T hv hu hl hB;obtain⟨a',c',rfl⟩:=IU h2;unfold Oper.wp execOp;simp only[ho,resolve,invoke,builtin,EG,ER,EH,List.map_toArray,List.map_cons,List.map_nil,hs,hx,hr];exact hK _ _ (h a' c' w' h2 h3 h4)
noncomputable def spS(p:Pw)(d:Dd)(j:Nat):Nat->Ps:=fun k=>if k<j then wSv p d k else p.s k
def spR(p:Pw)(d:Dd)(j:Nat):Nat->Int:=fun k=>if k<j then wRo p d k else p.r k
def spL(p:Pw)(d:Dd)(j:Nat):List Int:=(([0,1,2].take j).filter fun i=>wS p d i).map fun i:Nat=>(i:Int)
section
variable {p:Pw} {d:Dd} {j:Nat}
theorem BD3:spS p d 0=p.s/\spR p d 0=p.r:=by constructor<;>funext k<;>simp[spS,spR]
theorem C22(h:wT p d j=false):spS p d (j+1)=spS p d j:=by
 funext k
 unfold spS;by_cases e:k=j
 .subst e;rw[if_pos (by omega),if_neg (by omega),wSv,if_neg (by simp[h])]
 .simp only[show (k<j+1)↔(k<j) by omega]
theorem CF3(h:wT p d j=true):spS p d (j+1)=LH (spS p d j) j (UC (wX p d) (wS p d j) (p.s j)):=by
 funext k
 unfold spS LH;by_cases e:k=j
 .subst e;rw[if_pos (by omega),if_pos rfl,wSv,if_pos h]
 .rw[if_neg e];simp only[show (k<j+1)↔(k<j) by omega]
theorem CS0:spS p d j j=p.s j:=by rw[spS,if_neg (by omega)]
theorem CS1:spR p d j j=p.r j:=by rw[spR,if_neg (by omega)]
theorem CS2(h:wT p d j=false):spR p d (j+1)=LH (spR p d j) j 0:=by
 funext k
 unfold spR LH;by_cases e:k=j
 .subst e;rw[if_pos (by omega),if_pos rfl,wRo,if_neg (by simp[h])]
 .rw[if_neg e];simp only[show (k<j+1)↔(k<j) by omega]
theorem AI2(h:wRo p d j=p.r j):spR p d (j+1)=spR p d j:=by
 funext k
 unfold spR;by_cases e:k=j
 .subst e;rw[if_pos (by omega),if_neg (by omega),h]
 .simp only[show (k<j+1)↔(k<j) by omega]
theorem CF4(hj:j<3)(h:wS p d j=true):spL p d (j+1)=spL p d j++[(j:Int)]:=by
 rcases(show j=0\/j=1\/j=2 by omega)with rfl|rfl|rfl<;>simp[spL,List.filter_cons,h]<;>(repeat' split)<;>simp
theorem BD4(hj:j<3)(h:wS p d j=false):spL p d (j+1)=spL p d j:=by
 rcases(show j=0\/j=1\/j=2 by omega)with rfl|rfl|rfl<;>simp[spL,List.filter_cons,h]
theorem CF5:(spL p d j).length<=3:=by
 rw[spL,EJ];exact BP (List.length_filter_le _ _) (by simp;omega)
theorem C23(i:Nat)(hi:i<3):spS p d 3 i=wSv p d i/\spR p d 3 i=wRo p d i:=by rw[spS,spR,if_pos hi,if_pos hi];exact⟨rfl,rfl⟩
theorem CF6:spL p d 3=(wL p d).map fun i:Nat=>(i:Int):=rfl
theorem CF7(h:p.r j=0):wT p d j=false/\wS p d j=false:=by simp[wS,wT,h]
theorem CF8(h:p.r j=1)(hb:AG0 d.lo j=true):wT p d j=false/\wS p d j=false:=by simp[wS,wT,h,hb]
theorem dQ(h:p.r j=1)(hb:AG0 d.lo j=false):wT p d j=true/\wS p d j= !AG0 d.sl j:=by simp[wS,wT,h,hb]
theorem BD5(h:p.r j=2):wT p d j=true/\wS p d j=true:=by simp[wS,wT,h]
theorem CS3(h:wT p d j=false):wRo p d j=0:=by rw[wRo,if_neg (by simp[h])]
theorem CF9(h:wT p d j=true):wRo p d j=p.r j:=by rw[wRo,if_pos h]
end
theorem WX.CS4(h:WX W k p){r:Nat->Int}(hs:∀i,i<3->p.s i=s i)(hr:∀i,i<3->p.r i=r i):WX W k ⟨p.n,s,r,p.c,p.D,p.H,p.h⟩:=by
 obtain⟨f,hb,h⟩:=h;exact⟨f,hb,h.n,fun i hi=>by show SvA W k _ (svP i (s i));rw[<-hs i hi];exact h.s i hi,fun i hi=>by show f (31+i)=I0 (r i);rw[<-hr i hi];exact h.r i hi,h.c,h.d,fun i hi h0=>h.h i hi (by rw[hs i hi];exact h0),h.hk⟩
theorem WX.hist(h:WX W k p)(H:List GU):WX W k ⟨p.n,p.s,p.r,p.c,p.D,H,p.h⟩:=by
 obtain⟨f,hb,h⟩:=h;exact⟨f,hb,h.n,h.s,h.r,h.c,h.d,h.h,h.hk⟩
theorem WXO.WG(h:WXO W k p v)(hi:i<3)(x:Int):WXO (W.setCell ⟨k,31+i,G6⟩ (I0 x)) k ⟨p.n,p.s,LH p.r i x,p.c,p.D,p.H,p.h⟩ v:=by
 obtain⟨f,hb,hr,ho⟩:=h;refine⟨_,hb.set (j:=31+i) (by omega) _,WdR.touch (W:=W) ?_ (JK _ _ _ _),fun g e=>?_⟩
 .refine⟨by rw[GN _ _ (by omega)];exact hr.n,fun j hj=>(hr.s j hj).congr fun q hq=>by rw[GN _ _ (by omega)],fun j hj=>?_,fun j hj=>(hr.c j hj).congr fun q hq=>by rw[GN _ _ (by omega)],by rw[GN _ _ (by omega)];exact hr.d,fun j hj h0=>by rw[GN _ _ (by omega)];exact hr.h j hj h0,hr.hk⟩;by_cases e:j=i
  .subst e;rw[II];simp only[II]
  .rw[GN _ _ (by omega)];simp only[GN _ _ e];exact hr.r j hj
 .have o:=ho g e;exact⟨fun j hj h0=>by rw[GN _ _ (by omega)];exact o.d j hj h0,fun j hj h0=>by rw[GN _ _ (by omega)];exact o.l j hj h0,fun j hj h0=>by rw[GN _ _ (by omega)];exact o.n j hj h0,fun j hj h0=>by rw[GN _ _ (by omega)];exact o.i j hj h0,fun j hj h0=>by rw[GN _ _ (by omega)];exact o.w j hj h0,fun j hj h0=>by rw[GN _ _ (by omega)];exact o.c j hj h0,fun h0=>by rw[GN _ _ (by omega)];exact o.a h0⟩
def BD6(w:FX)(s:Sv)(E:Int)(e:Ending)(w':FX):Prop:=
 ∃ad nd cd al cl an cn ai ci aw cw,e=.returned (.tuple #[.agg #[.bool s.up,FV ad nd cd,I0 s.id,I0 s.ep,FV al s.ts.length cl,I0 s.dn,I0 s.tr.z,FV an s.tr.ns.length cn,FV ai s.tr.ss.length ci,FV aw s.ws.length cw],I0 E])/\
  Hid (SvV w' (.agg #[.bool s.up,FV ad nd cd,I0 s.id,I0 s.ep,FV al s.ts.length cl,I0 s.dn,I0 s.tr.z,FV an s.tr.ns.length cn,FV ai s.tr.ss.length ci,FV aw s.ws.length cw]) s/\Fr5 w.heap.size (FV ad nd cd) (FV al s.ts.length cl) (FV an s.tr.ns.length cn) (FV ai s.tr.ss.length ci) (FV aw s.ws.length cw))/\B0 w w'
theorem BW0{w':FX}{s:Sv}{E:Int}{e:Ending}(h:fM w s E e w')(hf:FrT w e):BD6 w s E e w':=by
 obtain⟨ad,nd,cd,al,nl,cl,an,nn,cn,ai,ni,ci,aw,nw,cw,rfl,hs,hb⟩:=h;obtain⟨hv,h8⟩:=G8 hs;obtain⟨f1,f4,f7,f9⟩:=hf _ _ _ _ _ _ _ _ _ _ _ rfl;obtain⟨ad',nd',cd',al',cl',an',cn',ai',ci',aw',cw',e5,_⟩:=hv.five;simp only[EO,F8,EI,Value.slice.injEq,true_and,and_true]at e5;obtain⟨⟨rfl,rfl,rfl⟩,⟨rfl,rfl,rfl⟩,⟨rfl,rfl,rfl⟩,⟨rfl,rfl,rfl⟩,rfl,rfl,rfl⟩:=e5;exact⟨_,_,_,_,_,_,_,_,_,_,_,rfl,G9 ⟨hv,⟨fun g hg=>LJ f1 hg,fun g hg=>LJ f4 hg,fun g hg=>LJ f7 hg,fun g hg=>LJ h8 hg,fun g hg=>LJ f9 hg⟩⟩,hb⟩
theorem zG{α:Type}[Lay α]{w:FX}{ops:Array Oper}{rest:List Oper}{o:Oper}{a:Act}{Q:Exit->Act->FX->Prop}(hgd:o.guard=G6)(s x:Operand)(T:TypeId)
  (ho:o.op=.call {callee:=.builtin .append,args:=#[s,x],argTypes:=#[T,T]})
  (i0:TypeInfo) (z:FZ) (bytes:Nat) (hU:prog.underlying T=G7 (.slice (Lay.ty α))) (hi0:prog.info? (Lay.ty α)=G7 i0) (hz0:i0.zero=G7 z) (hz1:i0.size=Lay.k α) (hz2:i0.bytes=bytes) (hzs:z.cells.size=Lay.k α) (hk0:0<Lay.k α)
  (v:FZ) (ns:List α) (hs:a.eval s=v) (B:Nat) (hown:H6 w B v ns) (q:Nat) (hx:a.eval x=FV (G7 ⟨q,0,G6⟩) 1 1) (t:α) (hnews:JM w q t) (hl:(ns.length+1)*bytes<=140737488355328) (hm:ns.length+1<=maxLen) (hB:B<=w.heap.size)
  (h:∀a' c' w',H6 w' B (FV a' (ns.length+1) c') (ns++[t])->w.grownBy w' v.ownBlock->(∀g,(Value.slice a' (ns.length+1) c').ownBlock=G7 g->v.ownBlock=G7 g\/w.heap.size<=g)->wpList prog ops Q rest (a.put o.dst (FV a' (ns.length+1) c')) w'):
  wpList prog ops Q (o::rest) a w:=by
 refine wpList_plain hgd fun K hK=>?_;obtain⟨v',w',hr,h2,h3,_,h5⟩:=run_append_own_at (P:=prog) w B T o.type (Lay.ty α) i0 z (Lay.k α) bytes hU hi0 hz0 hz1 hz2 hzs hk0 v ns.length (GK ns) hown.row ⟨q,0,G6⟩ 1 1 (Lay.cs t) (by rw[Lay.len,Nat.one_mul]) (SV hnews) (Lay.one t) hm hl hB;have h2':H6 w' B v' (ns++[t]):=H6.LC (by rw[AP,JH];exact h2);have h6:∀g,v'.ownBlock=G7 g->v.ownBlock=G7 g\/w.heap.size<=g:=fun g hg=>by
  rcases h5 with e|e
  .rw[e]at hg;exact .inl hg
  .rw[e]at hg;simp only[BF]at hg;exact .inr (by omega)
 obtain⟨a',c',rfl,_⟩:=h2'.slice;rw[AP,List.length_singleton]at h2' hr h6;unfold Oper.wp execOp;simp only[ho,resolve,invoke,builtin,EG,ER,EH,List.map_toArray,List.map_cons,List.map_nil,hs,hx,hr];exact hK _ _ (h a' c' w' h2' h3 h6)
theorem CG1(r:Nat->Int)(m:Nat)(hm:m<3)(u:FX):(Instr.index 72 (.agg #[I0 (r 0),I0 (r 1),I0 (r 2)]) (I0 m)).run prog u=.ok (I0 (r m)) u:=by
 rcases(show m=0\/m=1\/m=2 by omega)with rfl|rfl|rfl<;>kernel_rfl
theorem qM(d:Dd)(W:FX):G5 prog 26 #[ddV d] W (R0 W (I0 (TI d))):=by
 have HB:=G9 (fun o=>GH W o);have C:=G9 (fun i m V=>YF i m V);obtain⟨dk,dc,ds,⟨o,s,pp,dd,v,f⟩,lo,sl,ke,wt⟩:=d;unfold ddV;by_cases h1:dk=1
 .subst h1
  cases hc:lY dc 16 with
  |true=>
   rw[show TI ⟨1,dc,ds,⟨o,s,pp,dd,v,f⟩,lo,sl,ke,wt⟩=0 by simp[TI,hc]];go_enter func26,ntmps26;go_wp2_with fail;refine(G8 C _ _ _).mono ?_;rintro e w1 ⟨rfl,rfl⟩;simp only[hc];go_wp2_with fail;go_ret;exact⟨rfl,G8 HB _⟩
  |false=>
   rw[show TI ⟨1,dc,ds,⟨o,s,pp,dd,v,f⟩,lo,sl,ke,wt⟩=3 by simp[TI,hc]];go_enter func26,ntmps26;go_wp2_with fail;refine(G8 C _ _ _).mono ?_;rintro e w1 ⟨rfl,rfl⟩;simp only[hc];go_wp2_with fail;go_ret;exact⟨rfl,G8 HB _⟩
 .by_cases h2:dk=2
  .subst h2
   cases hc:lY dc 16 with
   |true=>
    cases hs:lY ds 3 with
    |true=>
     rw[show TI ⟨2,dc,ds,⟨o,s,pp,dd,v,f⟩,lo,sl,ke,wt⟩=0 by simp[TI,hc,hs]];go_enter func26,ntmps26;go_wp2_with fail;refine(G8 C _ _ _).mono ?_;rintro e w1 ⟨rfl,rfl⟩;simp only[hc];go_wp2_with fail;refine(G8 C _ _ _).mono ?_;rintro e w1 ⟨rfl,rfl⟩;simp only[hs];go_wp2_with fail;go_ret;exact⟨rfl,G8 HB _⟩
    |false=>
     rw[show TI ⟨2,dc,ds,⟨o,s,pp,dd,v,f⟩,lo,sl,ke,wt⟩=3 by simp[TI,hc,hs]];go_enter func26,ntmps26;go_wp2_with fail;refine(G8 C _ _ _).mono ?_;rintro e w1 ⟨rfl,rfl⟩;simp only[hc];go_wp2_with fail;refine(G8 C _ _ _).mono ?_;rintro e w1 ⟨rfl,rfl⟩;simp only[hs];go_wp2_with fail;go_ret;exact⟨rfl,G8 HB _⟩
   |false=>
    rw[show TI ⟨2,dc,ds,⟨o,s,pp,dd,v,f⟩,lo,sl,ke,wt⟩=3 by simp[TI,hc]];go_enter func26,ntmps26;go_wp2_with fail;refine(G8 C _ _ _).mono ?_;rintro e w1 ⟨rfl,rfl⟩;simp only[hc];go_wp2_with fail;go_ret;exact⟨rfl,G8 HB _⟩
  .by_cases h3:dk=3\/dk=4
   .rcases h3 with rfl|rfl
    all_goals
     cases hs:lY ds 3 with
     |true=>
      rw[show TI ⟨_,dc,ds,⟨o,s,pp,dd,v,f⟩,lo,sl,ke,wt⟩=0 by simp[TI,hs]];go_enter func26,ntmps26;go_wp2_with fail;refine(G8 C _ _ _).mono ?_;rintro e w1 ⟨rfl,rfl⟩;simp only[hs];go_wp2_with fail;go_ret;exact⟨rfl,G8 HB _⟩
     |false=>
      rw[show TI ⟨_,dc,ds,⟨o,s,pp,dd,v,f⟩,lo,sl,ke,wt⟩=3 by simp[TI,hs]];go_enter func26,ntmps26;go_wp2_with fail;refine(G8 C _ _ _).mono ?_;rintro e w1 ⟨rfl,rfl⟩;simp only[hs];go_wp2_with fail;go_ret;exact⟨rfl,G8 HB _⟩
   .by_cases h5:dk=5
    .subst h5;rw[show TI ⟨5,dc,ds,⟨o,s,pp,dd,v,f⟩,lo,sl,ke,wt⟩=0 by simp[TI]];go_enter func26,ntmps26;go_wp2_with fail;go_ret;exact⟨rfl,G8 HB _⟩
    .have h33:¬dk=3:=fun e=>h3 (.inl e);have h34:¬dk=4:=fun e=>h3 (.inr e);rw[show TI ⟨dk,dc,ds,⟨o,s,pp,dd,v,f⟩,lo,sl,ke,wt⟩=4 by simp[TI,h1,h2,h33,h34,h5]];clear h3;go_enter func26,ntmps26;go_wp2_with fail;go_ret;exact⟨rfl,G8 HB _⟩
theorem BW1(n:Int):bits .and .i64 n 1=n%2:=by
 show IntKind.i64.wrap ((BitVec.ofInt 64 n&&&BitVec.ofInt 64 1).toNat:Int)=_;rw[BitVec.toNat_and,show (BitVec.ofInt 64 1).toNat=1 by decide,Nat.and_one_is_mod,BitVec.toNat_ofInt,IntKind.wrap_i64];omega
theorem CG2(n:Int)(i:Nat)(hi:i<3)(w:FX):G5 prog 68 #[I0 n,I0 i] w fun e w'=>e=.returned (.bool (AG0 n i))/\w'=w:=by
 have e:∀m:Int,(bits .and .i64 m 1==1)=decide (m%2=1):=fun m=>by rw[BW1];rfl
 have E:=G9 e;clear e;unfold AG0;rcases(show i=0\/i=1\/i=2 by omega)with rfl|rfl|rfl
 .go_enter func68,ntmps68;go_wp2_with fail;go_ret;exact⟨by show Ending.returned (.bool (bits .and .i64 n 1==1))=_;rw[G8 E,show n/2^0=n by simp],rfl⟩
 .go_enter func68,ntmps68;go_wp2_with fail;go_ret;exact⟨by show Ending.returned (.bool (bits .and .i64 (n/2) 1==1))=_;rw[G8 E];rfl,rfl⟩
 .go_enter func68,ntmps68;go_wp2_with fail;go_ret;exact⟨by show Ending.returned (.bool (bits .and .i64 (n/4) 1==1))=_;rw[G8 E];rfl,rfl⟩
structure BW2(w W:FX)(q:Nat)(n:Nd):Prop where
 b:B0 w W
 le:w.heap.size<=q
 one:JM W q n
theorem AI3(p d:List UInt8)(c m q v k o n:Int)(hb:B0 w W):BW2 w (W.alloc (FW #[S0 p,S0 d,I0 c,I0 m,I0 q,I0 v,I0 k,I0 o,I0 n] 104)) W.heap.size ⟨p,d,c,m,q,v,k,o,n⟩:=
 ⟨GI hb (GH _ _),hb.size,sJ W ⟨p,d,c,m,q,v,k,o,n⟩⟩
theorem uM{b:Nat}(p d:List UInt8)(c m q v k o n:Int)(hb:B0 w W)(hq:w.heap.size<=b)(hz:JM W b WU):
  BW2 w (((((((((W.setCell ⟨b,0,G6⟩ (S0 p)).setCell ⟨b,1,G6⟩ (S0 d)).setCell ⟨b,2,G6⟩ (I0 c)).setCell ⟨b,3,G6⟩ (I0 m)).setCell ⟨b,4,G6⟩ (I0 q)).setCell ⟨b,5,G6⟩ (I0 v)).setCell ⟨b,6,G6⟩ (I0 k)).setCell ⟨b,7,G6⟩ (I0 o)).setCell ⟨b,8,G6⟩ (I0 n)) b ⟨p,d,c,m,q,v,k,o,n⟩:=by
 refine⟨((((((((hb.setCell hq _).setCell hq _).setCell hq _).setCell hq _).setCell hq _).setCell hq _).setCell hq _).setCell hq _).setCell hq _,hq,?_⟩;have h0:W.heap[b]?=G7 (FW #[.string ⟨#[]⟩,.string ⟨#[]⟩,I0 0,I0 0,I0 0,I0 0,I0 0,I0 0,I0 0] 104 (0,0)):=hz;unfold JM;rw[GV _ (GV _ (GV _ (GV _ (GV _ (GV _ (GV _ (GV _ (GV _ h0))))))))];simp;exact⟨rfl,rfl⟩
theorem uN{q:Nat}(h:JM W q WU):(W.cell? ⟨q,0,G6⟩=G7 (.string ⟨#[]⟩)/\W.cell? ⟨q,1,G6⟩=G7 (.string ⟨#[]⟩)/\W.cell? ⟨q,2,G6⟩=G7 (I0 0)/\W.cell? ⟨q,3,G6⟩=G7 (I0 0)/\W.cell? ⟨q,4,G6⟩=G7 (I0 0)/\W.cell? ⟨q,5,G6⟩=G7 (I0 0)/\W.cell? ⟨q,6,G6⟩=G7 (I0 0)/\W.cell? ⟨q,7,G6⟩=G7 (I0 0)/\W.cell? ⟨q,8,G6⟩=G7 (I0 0))/\W.frozen? ⟨q,0,G6⟩=false/\W.frozen? ⟨q,1,G6⟩=false/\W.frozen? ⟨q,2,G6⟩=false/\W.frozen? ⟨q,3,G6⟩=false/\W.frozen? ⟨q,4,G6⟩=false/\W.frozen? ⟨q,5,G6⟩=false/\W.frozen? ⟨q,6,G6⟩=false/\W.frozen? ⟨q,7,G6⟩=false/\W.frozen? ⟨q,8,G6⟩=false:=
 ⟨⟨h.JL 0 _ rfl,h.JL 1 _ rfl,h.JL 2 _ rfl,h.JL 3 _ rfl,h.JL 4 _ rfl,h.JL 5 _ rfl,h.JL 6 _ rfl,h.JL 7 _ rfl,h.JL 8 _ rfl⟩,h.J9 0,h.J9 1,h.J9 2,h.J9 3,h.J9 4,h.J9 5,h.J9 6,h.J9 7,h.J9 8⟩
structure C25(w W:FX)(q:Nat)(s z:Int)(v:FZ)(es:List En):Prop where
 b:B0 w W
 le:w.heap.size<=q
 box:NC W q s z v
 v:IK W v es
theorem AI4{s:Int}{es:List En}(h:B0 w W)(ho:H6 W B v es):C25 w (W.alloc (FW #[I0 s,I0 z,v] 39)) W.heap.size s z v es:=
 ⟨GI h (GH _ _),h.size,NC.new W s z v,(ho.next (GH _ _)).seq⟩
theorem AI5{v0:FZ}{s:Int}{es:List En}(h:B0 w W)(hk:w.heap.size<=k)(hz:NC W k 0 0 v0)(ho:H6 W B v es)(hB:k<B):C25 w (((W.setCell ⟨k,0,G6⟩ (I0 s)).setCell ⟨k,1,G6⟩ (I0 z)).setCell ⟨k,2,G6⟩ v) k s z v es:=
 ⟨((h.setCell hk _).setCell hk _).setCell hk _,hk,(hz.set0.set1).set2,(((ho.PD hB _).PD hB _).PD hB _).seq⟩
def RZ(s z:Nat->Int)(a:Nat->Option Addr)(n c:Nat->Nat):Array FZ:=#[I0 (s 0),I0 (z 0),FV (a 0) (n 0) (c 0),I0 (s 1),I0 (z 1),FV (a 1) (n 1) (c 1),I0 (s 2),I0 (z 2),FV (a 2) (n 2) (c 2),I0 (s 3),I0 (z 3),FV (a 3) (n 3) (c 3),I0 (s 4),I0 (z 4),FV (a 4) (n 4) (c 4),I0 (s 5),I0 (z 5),FV (a 5) (n 5) (c 5),I0 (s 6),I0 (z 6),FV (a 6) (n 6) (c 6),I0 (s 7),I0 (z 7),FV (a 7) (n 7) (c 7),I0 (s 8),I0 (z 8),FV (a 8) (n 8) (c 8),I0 (s 9),I0 (z 9),FV (a 9) (n 9) (c 9),I0 (s 10),I0 (z 10),FV (a 10) (n 10) (c 10),I0 (s 11),I0 (z 11),FV (a 11) (n 11) (c 11),I0 (s 12),I0 (z 12),FV (a 12) (n 12) (c 12),I0 (s 13),I0 (z 13),FV (a 13) (n 13) (c 13),I0 (s 14),I0 (z 14),FV (a 14) (n 14) (c 14),I0 (s 15),I0 (z 15),FV (a 15) (n 15) (c 15)]
theorem ix_0(s z:Nat->Int)(a:Nat->Option Addr)(n c:Nat->Nat):∀u:FX,(Instr.index 57 (.agg (RZ s z a n c)) (I0 0)).run prog u=.ok (.agg #[I0 (s 0),I0 (z 0),FV (a 0) (n 0) (c 0)]) u:=fun _=>by kernel_rfl
theorem ix_1(s z:Nat->Int)(a:Nat->Option Addr)(n c:Nat->Nat):∀u:FX,(Instr.index 57 (.agg (RZ s z a n c)) (I0 1)).run prog u=.ok (.agg #[I0 (s 1),I0 (z 1),FV (a 1) (n 1) (c 1)]) u:=fun _=>by kernel_rfl
theorem ix_2(s z:Nat->Int)(a:Nat->Option Addr)(n c:Nat->Nat):∀u:FX,(Instr.index 57 (.agg (RZ s z a n c)) (I0 2)).run prog u=.ok (.agg #[I0 (s 2),I0 (z 2),FV (a 2) (n 2) (c 2)]) u:=fun _=>by kernel_rfl
theorem ix_3(s z:Nat->Int)(a:Nat->Option Addr)(n c:Nat->Nat):∀u:FX,(Instr.index 57 (.agg (RZ s z a n c)) (I0 3)).run prog u=.ok (.agg #[I0 (s 3),I0 (z 3),FV (a 3) (n 3) (c 3)]) u:=fun _=>by kernel_rfl
theorem ix_4(s z:Nat->Int)(a:Nat->Option Addr)(n c:Nat->Nat):∀u:FX,(Instr.index 57 (.agg (RZ s z a n c)) (I0 4)).run prog u=.ok (.agg #[I0 (s 4),I0 (z 4),FV (a 4) (n 4) (c 4)]) u:=fun _=>by kernel_rfl
theorem ix_5(s z:Nat->Int)(a:Nat->Option Addr)(n c:Nat->Nat):∀u:FX,(Instr.index 57 (.agg (RZ s z a n c)) (I0 5)).run prog u=.ok (.agg #[I0 (s 5),I0 (z 5),FV (a 5) (n 5) (c 5)]) u:=fun _=>by kernel_rfl
theorem ix_6(s z:Nat->Int)(a:Nat->Option Addr)(n c:Nat->Nat):∀u:FX,(Instr.index 57 (.agg (RZ s z a n c)) (I0 6)).run prog u=.ok (.agg #[I0 (s 6),I0 (z 6),FV (a 6) (n 6) (c 6)]) u:=fun _=>by kernel_rfl
theorem ix_7(s z:Nat->Int)(a:Nat->Option Addr)(n c:Nat->Nat):∀u:FX,(Instr.index 57 (.agg (RZ s z a n c)) (I0 7)).run prog u=.ok (.agg #[I0 (s 7),I0 (z 7),FV (a 7) (n 7) (c 7)]) u:=fun _=>by kernel_rfl
theorem ix_8(s z:Nat->Int)(a:Nat->Option Addr)(n c:Nat->Nat):∀u:FX,(Instr.index 57 (.agg (RZ s z a n c)) (I0 8)).run prog u=.ok (.agg #[I0 (s 8),I0 (z 8),FV (a 8) (n 8) (c 8)]) u:=fun _=>by kernel_rfl
theorem ix_9(s z:Nat->Int)(a:Nat->Option Addr)(n c:Nat->Nat):∀u:FX,(Instr.index 57 (.agg (RZ s z a n c)) (I0 9)).run prog u=.ok (.agg #[I0 (s 9),I0 (z 9),FV (a 9) (n 9) (c 9)]) u:=fun _=>by kernel_rfl
theorem D04(s z:Nat->Int)(a:Nat->Option Addr)(n c:Nat->Nat):∀u:FX,(Instr.index 57 (.agg (RZ s z a n c)) (I0 10)).run prog u=.ok (.agg #[I0 (s 10),I0 (z 10),FV (a 10) (n 10) (c 10)]) u:=fun _=>by kernel_rfl
theorem D05(s z:Nat->Int)(a:Nat->Option Addr)(n c:Nat->Nat):∀u:FX,(Instr.index 57 (.agg (RZ s z a n c)) (I0 11)).run prog u=.ok (.agg #[I0 (s 11),I0 (z 11),FV (a 11) (n 11) (c 11)]) u:=fun _=>by kernel_rfl
theorem D06(s z:Nat->Int)(a:Nat->Option Addr)(n c:Nat->Nat):∀u:FX,(Instr.index 57 (.agg (RZ s z a n c)) (I0 12)).run prog u=.ok (.agg #[I0 (s 12),I0 (z 12),FV (a 12) (n 12) (c 12)]) u:=fun _=>by kernel_rfl
theorem D07(s z:Nat->Int)(a:Nat->Option Addr)(n c:Nat->Nat):∀u:FX,(Instr.index 57 (.agg (RZ s z a n c)) (I0 13)).run prog u=.ok (.agg #[I0 (s 13),I0 (z 13),FV (a 13) (n 13) (c 13)]) u:=fun _=>by kernel_rfl
theorem D08(s z:Nat->Int)(a:Nat->Option Addr)(n c:Nat->Nat):∀u:FX,(Instr.index 57 (.agg (RZ s z a n c)) (I0 14)).run prog u=.ok (.agg #[I0 (s 14),I0 (z 14),FV (a 14) (n 14) (c 14)]) u:=fun _=>by kernel_rfl
theorem D09(s z:Nat->Int)(a:Nat->Option Addr)(n c:Nat->Nat):∀u:FX,(Instr.index 57 (.agg (RZ s z a n c)) (I0 15)).run prog u=.ok (.agg #[I0 (s 15),I0 (z 15),FV (a 15) (n 15) (c 15)]) u:=fun _=>by kernel_rfl
theorem CS9(s z:Nat->Int)(a:Nat->Option Addr)(n c:Nat->Nat)(m:Nat)(hm:m<16)(u:FX):(Instr.index 57 (.agg (RZ s z a n c)) (I0 m)).run prog u=.ok (.agg #[I0 (s m),I0 (z m),FV (a m) (n m) (c m)]) u:=by
 rcases(show m=0\/m=1\/m=2\/m=3\/m=4\/m=5\/m=6\/m=7\/m=8\/m=9\/m=10\/m=11\/m=12\/m=13\/m=14\/m=15 by omega)with rfl|rfl|rfl|rfl|rfl|rfl|rfl|rfl|rfl|rfl|rfl|rfl|rfl|rfl|rfl|rfl
 .exact ix_0 s z a n c u
 .exact ix_1 s z a n c u
 .exact ix_2 s z a n c u
 .exact ix_3 s z a n c u
 .exact ix_4 s z a n c u
 .exact ix_5 s z a n c u
 .exact ix_6 s z a n c u
 .exact ix_7 s z a n c u
 .exact ix_8 s z a n c u
 .exact ix_9 s z a n c u
 .exact D04 s z a n c u
 .exact D05 s z a n c u
 .exact D06 s z a n c u
 .exact D07 s z a n c u
 .exact D08 s z a n c u
 .exact D09 s z a n c u
theorem WX.BW8(h:WX W k p){c:Nat->Cl}(he:∀i,i<16->p.c i=c i):WX W k ⟨p.n,p.s,p.r,c,p.D,p.H,p.h⟩:=by
 obtain⟨f,hb,hr⟩:=h;exact⟨f,hb,hr.n,hr.s,hr.r,fun i hi=>by have:=hr.c i hi;rw[he i hi]at this;exact this,hr.d,hr.h,hr.hk⟩
def uO(c:Nat->Cl)(l:List Nt)(m:Nat):Nat->Cl:=fun i=>if i<m then aC c l i else c i
theorem BE6(c:Nat->Cl)(l:List Nt)(hi:i<16):uO c l 16 i=aC c l i:=by rw[uO,if_pos hi]
theorem qP(c:Nat->Cl)(l:List Nt)(m i:Nat):LH (uO c l m) m ⟨(c m).s,(c m).z,VH (c m).s l (c m).es⟩ i=uO c l (m+1) i:=by
 by_cases e:i=m
 .subst e;rw[II,uO,if_pos (by omega)];rfl
 .rw[GN _ _ e,uO,uO];by_cases h:i<m
  .rw[if_pos h,if_pos (by omega)]
  .rw[if_neg h,if_neg (by omega)]
structure TlI(W wr wx:FX)(k:Nat)(p:Pw)(R1:Nat->Ps)(NN:List Nt)(vn:FZ)(m:Nat):Prop where
 x:WX wx k ⟨p.n,R1,p.r,uO p.c NN m,p.D,p.H,p.h⟩
 n:H6 wx W.heap.size vn NN
 t:Touch (· =k) W wx
 r:Touch (· =k) wr wx
theorem BW9(s z:Nat->Int)(a:Nat->Option Addr)(n c:Nat->Nat)(m:Nat)(hm:m<16):(RZ s z a n c)[3*m]?=G7 (I0 (s m))/\(RZ s z a n c)[3*m+1]?=G7 (I0 (z m))/\(RZ s z a n c)[3*m+2]?=G7 (FV (a m) (n m) (c m)):=by
 rcases(show m=0\/m=1\/m=2\/m=3\/m=4\/m=5\/m=6\/m=7\/m=8\/m=9\/m=10\/m=11\/m=12\/m=13\/m=14\/m=15 by omega)with rfl|rfl|rfl|rfl|rfl|rfl|rfl|rfl|rfl|rfl|rfl|rfl|rfl|rfl|rfl|rfl<;>exact⟨rfl,rfl,rfl⟩
theorem AT6(w:FX)(k:Nat)(s z:Nat->Int)(a:Nat->Option Addr)(n c:Nat->Nat)(hc:∀m,m<16->w.cell? ⟨k,34+3*m,G6⟩=G7 (I0 (s m))/\w.cell? ⟨k,34+3*m+1,G6⟩=G7 (I0 (z m))/\w.cell? ⟨k,34+3*m+2,G6⟩=G7 (FV (a m) (n m) (c m))):
  (Instr.loadAt 57 (.pointer (G7 ⟨k,34,G6⟩))).run prog w=.ok (.agg (RZ s z a n c)) w:=by
 have hl:=run_loadCells_list (P:=prog) (w:=w) ⟨k,34,G6⟩ (RZ s z a n c).toList (fun j v hj=>by
  have hj48:j<48:=by
   have:=(AV.1 hj).1;simpa [RZ]using this
  rw[Array.getElem?_toList]at hj;have h:=BW9 s z a n c (j/3) (by omega);have hw:=hc (j/3) (by omega);rw[Addr.add_lit];show w.cell? ⟨k,34+j,G6⟩=G7 v;rcases(show j=3*(j/3)\/j=3*(j/3)+1\/j=3*(j/3)+2 by omega)with e|e|e
  .rw[e]at hj⊢;rw[h.1]at hj;rw[<-hj];exact hw.1
  .rw[e]at hj⊢;rw[h.2.1]at hj;rw[<-hj,<-EM];exact hw.2.1
  .rw[e]at hj⊢;rw[h.2.2]at hj;rw[<-hj,<-EM];exact hw.2.2)
 have h48:(RZ s z a n c).toList.length=48:=rfl;rw[h48]at hl;simp only[Instr.loadAt,Instr.sureAddr,EG,ER,Result.andThen];unfold loadVar;simp only[EG,isAgg57,sizeOf57,Result.andThen,if_true];rw[hl];rfl
theorem uP{w:FX}{ops:Array Oper}{rest:List Oper}{o:Oper}{a:Act}{Q:Exit->Act->FX->Prop}(hgd:o.guard=G6)(x:Operand)(ho:o.op=.load 57 x)(k:Nat)(s z:Nat->Int)(ad:Nat->Option Addr)(n c:Nat->Nat)
  (hx:a.eval x=.pointer (G7 ⟨k,34,G6⟩)) (hc:∀m,m<16->w.cell? ⟨k,34+3*m,G6⟩=G7 (I0 (s m))/\w.cell? ⟨k,34+3*m+1,G6⟩=G7 (I0 (z m))/\w.cell? ⟨k,34+3*m+2,G6⟩=G7 (FV (ad m) (n m) (c m)))
  (h:wpList prog ops Q rest (a.put o.dst (.agg (RZ s z ad n c))) w):wpList prog ops Q (o::rest) a w:=by
 refine wpList_plain hgd fun K hK=>?_;have hr:=AT6 w k s z ad n c hc;unfold Oper.wp execOp;simp only[ho,EG,ER,EH,hx,hr];exact hK _ _ h
