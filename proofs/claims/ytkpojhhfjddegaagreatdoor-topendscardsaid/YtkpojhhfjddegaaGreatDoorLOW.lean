/-
  Part.
-/
import Derived.Test.YtkpojhhfjddegaaGreatDoorLOR
set_option maxRecDepth 20000
set_option maxHeartbeats 8000000
namespace Go.Proofs.YtkpojhhfjddegaaGreatDoor
open Go.RowKit Go.Proofs.Tryz
open _root_.Nat renaming le_refl->A8,zero_le->AZ,add_assoc->EM
open Go.RowKit.Below renaming refl->AA
open _root_.List renaming getElem?_eq_getElem->AO,getElem?_eq_some_iff->AV,mem_of_getElem?->BA,length_map->EJ
open Go.Value.slice renaming injEq->AQ
open Go.World renaming cell?->AX
open Go.Value renaming slice->FV
open Go.Obj renaming cells->FW
open Go renaming World->FX,Value->FZ,Calls->G5
open _root_.Option renaming none->G6,some->G7
variable{n i b off g:Nat}{α:Type}{w W:FX}
abbrev Key:=Int×Int×Int
def AF8(pre:List Key)(k:Key):Int:=
 if pre.any (fun q=>q.1==k.1)=true then 8 else if k.1<0\/3<=k.1 then 3 else if k.2.1<0\/2147483647<k.2.1 then 3 else 0
def C15(ks:List Key)(E:Int):Prop:=
 (E=0/\∀i k,ks[i]?=G7 k->AF8 (ks.take i) k=0)\/
 (E≠0/\∃n k,ks[n]?=G7 k/\AF8 (ks.take n) k=E/\∀i q,i<n->ks[i]?=G7 q->AF8 (ks.take i) q=0)
theorem yL{ks:List Key}{E:Int}(h:C15 ks E)(hn:∀i q,i<n->ks[i]?=G7 q->AF8 (ks.take i) q=0){x:Key}(hx:ks[n]?=G7 x)(he:AF8 (ks.take n) x≠0):E=AF8 (ks.take n) x:=by
 rcases h with⟨_,h⟩|⟨h0,m,k,hk,e,h⟩
 .exact absurd (h n x hx) he
 .rcases Nat.lt_trichotomy m n with hl|hl|hl
  .exact absurd ((hn m k hl hk).symm.trans e).symm h0
  .subst hl;rw[hk]at hx
   cases hx
   exact e.symm
  .exact absurd (h n x hl hx) he
theorem CA7{ks:List Key}{E:Int}(h:C15 ks E)(hn:∀i q,i<ks.length->ks[i]?=G7 q->AF8 (ks.take i) q=0):E=0:=by
 rcases h with⟨h,_⟩|⟨h0,m,k,hk,e,_⟩
 .exact h
 .exact absurd ((hn m k (AV.1 hk).1 hk).symm.trans e).symm h0
def WW(ks:List Key):Int:=ks.foldl (fun a k=>max (max a k.2.1) (J4 k.2.2)) 0
theorem B94(ks:List Key)(k:Key):WW (ks++[k])=max (max (WW ks) k.2.1) (J4 k.2.2):=by simp[WW]
theorem QN{l:List α}{k:Nat}{x:α}(h:l[k]?=G7 x):l.take (k+1)=l.take k++[x]:=by
 obtain⟨hk,rfl⟩:=AV.1 h;exact List.take_succ_eq_append_getElem hk
def bet(p q:Key):Bool:=decide (q.2.2<p.2.2)||(decide (p.2.2=q.2.2)&&decide (q.1<p.1))
def MN(ks:List Key):Nat->Nat
 |0=>0
 |n+1=>if bet (ks.getD n (0,0,0)) (ks.getD (MN ks n) (0,0,0))=true then n else MN ks n
theorem YC(ks:List Key):∀n,MN ks n<max n 1
 |0=>by simp[MN]
 |n+1=>by
  have:=YC ks n;unfold MN
  split<;>omega
theorem A69{ks:List Key}{p q:Key}(hp:ks[n]?=G7 p)(hq:ks[MN ks n]?=G7 q):MN ks (n+1)=if bet p q=true then n else MN ks n:=by
 rw[MN,List.getD_eq_getElem?_getD,List.getD_eq_getElem?_getD,hp,hq];rfl
def CZ5(ks:List Key)(k n E:Int):Prop:=
 ∃A,C15 ks A/\((A≠0/\k=0/\n=0/\E=A)\/(A=0/\((ks.length<2/\k=0/\n=0/\E=14)\/(2<=ks.length/\((2147483647<WW ks+1/\k=0/\n=0/\E=6)\/(WW ks+1<=2147483647/\k=MN ks ks.length/\n=WW ks+1/\E=0))))))
theorem C15.ok{ks:List Key}(h:C15 ks 0){k:Key}(hk:ks[i]?=G7 k):(∀q∈ks.take i,q.1≠k.1)/\0<=k.1/\k.1<3/\0<=k.2.1/\k.2.1<=2147483647:=by
 rcases h with⟨_,h⟩|⟨h,_⟩
 .have:=h i k hk;unfold AF8 at this;by_cases h1:(ks.take i).any (fun q=>q.1==k.1)=true
  .simp[h1]at this
  .by_cases h2:k.1<0\/3<=k.1
   .simp[h1,h2]at this
   .by_cases h3:k.2.1<0\/2147483647<k.2.1
    .simp[h1,h2,h3]at this
    .refine⟨fun q hq e=>h1 ?_,by omega,by omega,by omega,by omega⟩;exact List.any_eq_true.2 ⟨q,hq,by simp[e]⟩
 .exact absurd rfl h
theorem B95{ks:List Key}(M:Int)(h0:0<=M):(∀k∈ks,k.2.1<=M/\J4 k.2.2<=M)->WW ks<=M:=by
 have main:∀ (l:List Key) (a:Int),a<=M->(∀k∈l,k.2.1<=M/\J4 k.2.2<=M)->l.foldl (fun a k=>max (max a k.2.1) (J4 k.2.2)) a<=M:=by
  intro l
  induction l with
  |nil=>intro a ha _;exact ha
  |cons x r ih=>
   intro a ha h;have:=h x (by simp);exact ih (max (max a x.2.1) (J4 x.2.2)) (by omega) fun k hk=>h k (by simp[hk])
 exact main ks 0 h0
theorem CA8{ks:List Key}{k:Key}(hk:k∈ks):k.2.1<=WW ks/\J4 k.2.2<=WW ks:=by
 have up:∀ (l:List Key) (a:Int),a<=l.foldl (fun a k=>max (max a k.2.1) (J4 k.2.2)) a:=by
  intro l
  induction l with
  |nil=>intro a;exact Int.le_refl _
  |cons x r ih=>intro a;exact Int.le_trans (show a<=max (max a x.2.1) (J4 x.2.2) by omega) (ih _)
 have main:∀ (l:List Key) (a:Int),k∈l->k.2.1<=l.foldl (fun a k=>max (max a k.2.1) (J4 k.2.2)) a/\J4 k.2.2<=l.foldl (fun a k=>max (max a k.2.1) (J4 k.2.2)) a:=by
  intro l
  induction l with
  |nil=>intro a h;simp at h
  |cons x r ih=>
   intro a h;rcases List.mem_cons.1 h with rfl|h
   .have:=up r (max (max a k.2.1) (J4 k.2.2));constructor
    .exact Int.le_trans (by omega) this
    .exact Int.le_trans (by omega) this
   .exact ih _ h
 exact main ks 0 hk
theorem B96(z:Int):0<=J4 z/\J4 z<=2147483647:=by
 cases hg:KP z with
 |false=>rw[vC hg];decide
 |true=>
  have:=MC.1 hg;rw[MF hg];omega
theorem lW(ks:List Key):0<=WW ks:=by
 have up:∀ (l:List Key) (a:Int),a<=l.foldl (fun a k=>max (max a k.2.1) (J4 k.2.2)) a:=by
  intro l
  induction l with
  |nil=>intro a;exact Int.le_refl _
  |cons x r ih=>intro a;exact Int.le_trans (show a<=max (max a x.2.1) (J4 x.2.2) by omega) (ih _)
 exact up ks 0
structure Pe where
 id:Int
 ep:Int
 a:Option Addr
 c:Nat
 ts:List GU
 dn:Int
def pe0:Pe:=⟨0,0,G6,0,[],0⟩
def peV(p:Pe):FZ:=.agg #[I0 p.id,I0 p.ep,FV p.a p.ts.length p.c,I0 p.dn]
def C16(p:Pe):List FZ:=[I0 p.id,I0 p.ep,FV p.a p.ts.length p.c,I0 p.dn]
instance layP:Lay Pe:=⟨4,C16,48,fun _=>rfl,fun x u hu=>by simp[C16]at hu;rcases hu with rfl|rfl|rfl|rfl<;>rfl⟩
structure Lg where
 a:Option Addr
 c:Nat
 ts:List GU
def lgV(l:Lg):FZ:=FV l.a l.ts.length l.c
instance layG:Lay Lg:=⟨1,fun l=>[lgV l],46,fun _=>rfl,fun x u hu=>by simp at hu;subst hu;rfl⟩
def Pe.log(p:Pe):FZ:=FV p.a p.ts.length p.c
def sW(w:FX)(ps:List Pe):Prop:=∀p∈ps,NI w p.log p.ts
theorem sW.next{w':FX}{ps:List Pe}(h:sW w ps)(hb:B0 w w'):sW w' ps:=fun p hp=>(h p hp).next hb
theorem IE.pe0{xs:List Pe}(h:IE w b off (GK xs)){x:Pe}(hi:xs[i]?=G7 x):w.cell? ⟨b,off+i*4,G6⟩=G7 (I0 x.id):=
 h (i*4) _ (GY xs i x hi 0 (by decide))
theorem IE.pe1{xs:List Pe}(h:IE w b off (GK xs)){x:Pe}(hi:xs[i]?=G7 x):w.cell? ⟨b,off+i*4+1,G6⟩=G7 (I0 x.ep):=by
 rw[EM];exact h (i*4+1) _ (GY xs i x hi 1 (by decide))
theorem IE.pe2{xs:List Pe}(h:IE w b off (GK xs)){x:Pe}(hi:xs[i]?=G7 x):w.cell? ⟨b,off+i*4+2,G6⟩=G7 (FV x.a x.ts.length x.c):=by
 rw[EM];exact h (i*4+2) _ (GY xs i x hi 2 (by decide))
theorem IE.pe3{xs:List Pe}(h:IE w b off (GK xs)){x:Pe}(hi:xs[i]?=G7 x):w.cell? ⟨b,off+i*4+3,G6⟩=G7 (I0 x.dn):=by
 rw[EM];exact h (i*4+3) _ (GY xs i x hi 3 (by decide))
def YZ(W:FX)(g:Nat)(p:Pe):Prop:=W.heap[g]?=G7 (FW #[I0 p.id,I0 p.ep,FV p.a p.ts.length p.c,I0 p.dn] 48 (0,0))
theorem YZ.new(W:FX)(p:Pe):YZ (W.alloc (FW #[I0 p.id,I0 p.ep,FV p.a p.ts.length p.c,I0 p.dn] 48)) W.heap.size p:=heap_alloc_new W _
theorem YZ.next{V:FX}{p:Pe}(h:YZ W g p)(hb:B0 W V):YZ V g p:=(hb.block g (by unfold YZ at h;exact(Array.getElem?_eq_some_iff.1 h).1)).trans h
theorem YZ.lt{p:Pe}(h:YZ W g p):g<W.heap.size:=by unfold YZ at h;exact(Array.getElem?_eq_some_iff.1 h).1
theorem YZ.c0{p:Pe}(h:YZ W g p):W.cell? ⟨g,0,G6⟩=G7 (I0 p.id):=by unfold YZ at h;simp[AX,h]
theorem YZ.c1{p:Pe}(h:YZ W g p):W.cell? ⟨g,1,G6⟩=G7 (I0 p.ep):=by unfold YZ at h;simp[AX,h]
theorem YZ.c2{p:Pe}(h:YZ W g p):W.cell? ⟨g,2,G6⟩=G7 (FV p.a p.ts.length p.c):=by unfold YZ at h;simp[AX,h]
theorem YZ.c3{p:Pe}(h:YZ W g p):W.cell? ⟨g,3,G6⟩=G7 (I0 p.dn):=by unfold YZ at h;simp[AX,h]
theorem CP2:(prog.info? 48).map (fun i=>(i.zero,i.size,i.bytes))=G7 (G7 (peV pe0),4,48):=by kernel_rfl
theorem CZ6:∃i0,prog.info? 48=G7 i0/\i0.zero=G7 (peV pe0)/\i0.size=4/\i0.bytes=48:=by
 obtain⟨i0,h,e⟩:=Option.map_eq_some_iff.1 CP2;simp only[Prod.mk.injEq]at e;exact⟨i0,h,e⟩
theorem iE{B:Nat}{a:FX}(h:Below B a w):Below B a (w.drewN n):=⟨h.os,h.tape,h.output,h.size,h.block⟩
theorem iF[Lay α]{v:FZ}{xs:List α}(hv:IK w v xs){x:α}(hi:xs[i]?=G7 x):
  ∃b off cap,v=FV (G7 ⟨b,off,G6⟩) xs.length cap/\b<w.heap.size/\IE w b off (GK xs)/\i<xs.length/\xs.length<=cap/\cap<=maxLen:=by
 obtain⟨hi',_⟩:=AV.1 hi;obtain⟨b,off,cap,e,hb,hr,h1,h2⟩:=MZ hv (fun h0=>by rw[h0]at hi';simp at hi');exact⟨b,off,cap,e,hb,hr,hi',h1,h2⟩
def nxN(ep z:Int):Int:=if ep<=J4 z then jP z else if O7 ep 0=0 then jP (L6 ep 0)else 0
def nxE(ep z:Int):Int:=if ep<=J4 z then XA z else if O7 ep 0=0 then XA (L6 ep 0)else O7 ep 0
theorem BS6(p:Pe)(w:FX)(hp:NI w p.log p.ts):
  G5 prog 66 #[peV p] w (R0 w (.tuple #[I0 (nxN p.ep (J6 p.ts)),I0 (nxE p.ep (J6 p.ts))])):=by
 have CL:=fun W (h:B0 w W)=>TD p.log p.ts W (hp.next h);have B0:=GH w (FW #[I0 p.id,I0 p.ep,FV p.a p.ts.length p.c,I0 p.dn] 48);have P0:=YZ.new w p;have C0:=CL _ B0;have HP:=G9 P0;have d2:=P0.c2;have HB:=G9 B0;clear CL P0 B0 hp;obtain⟨i,ep,a,c,ts,dn⟩:=p;simp only[Pe.log]at*;unfold peV;simp only;generalize J6 ts=z at*;have HE:=G9 (show (J4 z>=ep->nxN ep z=jP z/\nxE ep z=XA z)/\(¬J4 z>=ep->(O7 ep 0=0->nxN ep z=jP (L6 ep 0)/\nxE ep z=XA (L6 ep 0))/\(O7 ep 0≠0->nxN ep z=0/\nxE ep z=O7 ep 0))from
  ⟨fun h=>by simp[nxN,nxE,h],fun h=>⟨fun k=>by simp[nxN,nxE,h,k],fun k=>by simp[nxN,nxE,h,k]⟩⟩)
 generalize nxN ep z=R at*;generalize nxE ep z=E at*;go_enter func66,ntmps66;go_wp2_with fail;refine C0.mono ?_;rintro e w1 ⟨rfl,hb1⟩;have HB1:Hid (B0 w w1):=G9 (GI (G8 HB) (by rw[hb1];exact AA _ _));have d1:w1.cell? ⟨w.heap.size,1,G6⟩=G7 (I0 ep):=((G8 HP).next (by rw[hb1];exact AA _ _)).c1;clear hb1;go_wp2_with fail
 go_quiet ((go_at_call 65;exact Calls.quiet_of_same (QM _ _)))
 by_cases h1:J4 z>=ep
 .have HR:=G9 ((G8 HE).1 h1);go_wp2_with fail;refine(yM _ _).mono ?_;rintro e w2 ⟨rfl,rfl⟩;go_wp2_with fail
  go_ret2
  rw[(G8 HR).1,(G8 HR).2];exact⟨rfl,iE (G8 HB1)⟩
 .have HS:=G9 ((G8 HE).2 (by simpa using h1));go_wp2_with fail;refine(VF _ _ _).mono ?_;rintro e w2 ⟨rfl,rfl⟩;by_cases h2:O7 ep 0=0
  .have HR:=G9 ((G8 HS).1 h2);go_wp2_with fail;refine(yM _ _).mono ?_;rintro e w3 ⟨rfl,rfl⟩;go_wp2_with fail
   go_ret2
   rw[(G8 HR).1,(G8 HR).2];exact⟨rfl,iE (G8 HB1)⟩
  .have HR:=G9 ((G8 HS).2 h2);go_wp2_with fail
   go_ret2
   rw[(G8 HR).1,(G8 HR).2];exact⟨rfl,iE (G8 HB1)⟩
def AH6(x y:Int):Int:=if x<y then -1 else if y<x then 1 else 0
theorem fV(x:Int)(w:FX):G5 prog 208 #[I0 x] w fun e w'=>e=.returned (.bool false)/\w'=w:=by
 go_enter func208,ntmps208;go_wp2_with fail;go_ret;exact⟨rfl,rfl⟩
theorem CD8(x y:Int)(w:FX):G5 prog 183 #[I0 x,I0 y] w fun e w'=>e=.returned (I0 (AH6 x y))/\w'=w:=by
 by_cases h:x<y
 .have e:AH6 x y=-1:=by simp[AH6,h]
  rw[e];clear e;go_enter func183,ntmps183;go_wp2_with fail;refine(fV _ _).mono ?_;rintro e w1 ⟨rfl,rfl⟩;go_wp2_with fail;refine(fV _ _).mono ?_;rintro e w1 ⟨rfl,rfl⟩;go_wp2_with fail;go_ret;exact⟨rfl,rfl⟩
 .by_cases h2:y<x
  .have e:AH6 x y=1:=by simp[AH6,h,h2]
   rw[e];clear e;go_enter func183,ntmps183;go_wp2_with fail;refine(fV _ _).mono ?_;rintro e w1 ⟨rfl,rfl⟩;go_wp2_with fail;refine(fV _ _).mono ?_;rintro e w1 ⟨rfl,rfl⟩;go_wp2_with fail;go_ret;exact⟨rfl,rfl⟩
  .have e:AH6 x y=0:=by simp[AH6,h,h2]
   rw[e];clear e;go_enter func183,ntmps183;go_wp2_with fail;refine(fV _ _).mono ?_;rintro e w1 ⟨rfl,rfl⟩;go_wp2_with fail;refine(fV _ _).mono ?_;rintro e w1 ⟨rfl,rfl⟩;go_wp2_with fail;go_ret;exact⟨rfl,rfl⟩
def orI(x y:Int):Int:=if x=0 then y else x
theorem CR0(g:Nat)(x y:Int)(w:FX)(h0:w.cell? ⟨g,0,G6⟩=G7 (I0 x))(h1:w.cell? ⟨g,1,G6⟩=G7 (I0 y)):
  G5 prog 182 #[FV (G7 ⟨g,0,G6⟩) 2 2] w fun e w'=>e=.returned (I0 (orI x y))/\w'=w:=by
 go_enter func182,ntmps182;go_wp2_with fail
 go_loopg [8] 2 (fun kx s8 wr=>∃k:Nat,s8=I0 k/\k<=2/\2-k<=kx/\wr=w/\(k=0\/k=1/\x=0\/k=2/\x=0/\y=0))
 case atStart=>exact⟨0,rfl,by omega,by omega,rfl,.inl rfl⟩
 case round=>
  obtain⟨k,rfl,hk,hkx,rfl,h⟩:=hrel;rcases h with rfl|⟨rfl,hx⟩|⟨rfl,hx,hy⟩
  .by_cases hx:x=0
   .go_wp2_with fail
    go_roundg 1
    case measure=>omega
    case rel=>exact⟨1,rfl,by omega,by omega,rfl,.inr (.inl ⟨rfl,hx⟩)⟩
   .have e:orI x y=x:=by simp[orI,hx]
    have HE:=G9 e;clear e;go_wp2_with fail;go_ret;rw[G8 HE];exact⟨rfl,rfl⟩
  .by_cases hy:y=0
   .go_wp2_with fail
    go_roundg 0
    case measure=>omega
    case rel=>exact⟨2,rfl,by omega,by omega,rfl,.inr (.inr ⟨rfl,hx,hy⟩)⟩
   .have e:orI x y=y:=by simp[orI,hx]
    have HE:=G9 e;clear e;go_wp2_with fail;go_ret;rw[G8 HE];exact⟨rfl,rfl⟩
  .have e:orI x y=0:=by simp[orI,hx,hy]
   have HE:=G9 e;clear e;go_wp2_with fail;go_ret;rw[G8 HE];exact⟨rfl,rfl⟩
theorem A80(p q:Pe)(w:FX)(hp:NI w p.log p.ts)(hq:NI w q.log q.ts):
  G5 prog 129 #[peV p,peV q] w (R0 w (I0 (orI (AH6 (J6 p.ts) (J6 q.ts)) (AH6 p.id q.id)))):=by
 obtain⟨W0,hW0⟩:∃W0,W0=(w.alloc (FW #[I0 p.id,I0 p.ep,FV p.a p.ts.length p.c,I0 p.dn] 48)).alloc (FW #[I0 q.id,I0 q.ep,FV q.a q.ts.length q.c,I0 q.dn] 48):=⟨_,rfl⟩;have B0:B0 w W0:=by rw[hW0];exact GI (GH _ _) (GH _ _)
 have P0:YZ W0 w.heap.size p:=by rw[hW0];exact(YZ.new w p).next (GH _ _)
 have Q0:YZ W0 (w.heap.size+1) q:=by
  rw[hW0];have:=YZ.new (w.alloc (FW #[I0 p.id,I0 p.ep,FV p.a p.ts.length p.c,I0 p.dn] 48)) q;simpa using this
 have CP:=G9 (fun W (h:W=W0.drew)=>TD p.log p.ts W (by rw[h];exact(hp.next B0).drew));have CQ:=G9 (fun W (h:W=W0.drew)=>TD q.log q.ts W (by rw[h];exact(hq.next B0).drew));have p0:=P0.c0;have p2:=P0.c2;have q0:=Q0.c0;have q2:=Q0.c2;have HB:=G9 B0;have hlt:=Q0.lt;clear B0 P0 Q0 hp hq;obtain⟨i,ep,a,c,ts,dn⟩:=p;obtain⟨j,eq,b,d,us,dm⟩:=q;simp only[Pe.log]at*;unfold peV;simp only;generalize J6 ts=z at*;generalize J6 us=y at*;go_enter func129,ntmps129;go_upto_region 1 with fail;rw[<-hW0];clear hW0;have KO:Hid (∀x y:Int,(W0.alloc (FW #[I0 x,I0 y] 3)).drew.cell? ⟨W0.heap.size,0,G6⟩=G7 (I0 x)/\(W0.alloc (FW #[I0 x,I0 y] 3)).drew.cell? ⟨W0.heap.size,1,G6⟩=G7 (I0 y)):=G9 (fun x y=>by
  have h:=heap_alloc_new W0 (FW #[I0 x,I0 y] 3);show (W0.alloc (FW #[I0 x,I0 y] 3)).cell? ⟨W0.heap.size,0,G6⟩=G7 (I0 x)/\(W0.alloc (FW #[I0 x,I0 y] 3)).cell? ⟨W0.heap.size,1,G6⟩=G7 (I0 y);unfold AX;rw[h];exact⟨rfl,rfl⟩)
 have HBO:Hid (∀o:Obj,B0 w (W0.alloc o).drew):=G9 (fun o=>(GI (G8 HB) (GH _ _)).drew);have K:Hid (∀W,W=W0.drew->W.cell? ⟨w.heap.size,0,G6⟩=G7 (I0 i)/\W.cell? ⟨w.heap.size,2,G6⟩=G7 (FV a ts.length c)/\W.cell? ⟨w.heap.size+1,0,G6⟩=G7 (I0 j)/\W.cell? ⟨w.heap.size+1,2,G6⟩=G7 (FV b us.length d)):=G9 (fun W h=>by rw[h];exact⟨p0,p2,q0,q2⟩);have KA:Hid (∀o:Obj,(W0.alloc o).drew.cell? ⟨w.heap.size,0,G6⟩=G7 (I0 i)/\(W0.alloc o).drew.cell? ⟨w.heap.size,2,G6⟩=G7 (FV a ts.length c)/\(W0.alloc o).drew.cell? ⟨w.heap.size+1,0,G6⟩=G7 (I0 j)/\(W0.alloc o).drew.cell? ⟨w.heap.size+1,2,G6⟩=G7 (FV b us.length d)):=G9 (fun o=>by
  have h:B0 W0 (W0.alloc o).drew:=(GH W0 o).drew;exact⟨(h.cell (p:=⟨w.heap.size,0,G6⟩) (by simp only;omega)).trans p0,(h.cell (p:=⟨w.heap.size,2,G6⟩) (by simp only;omega)).trans p2,(h.cell (p:=⟨w.heap.size+1,0,G6⟩) (by simp only;omega)).trans q0,(h.cell (p:=⟨w.heap.size+1,2,G6⟩) (by simp only;omega)).trans q2⟩)
 have KZ:=G9 (And.intro p0 (And.intro p2 (And.intro q0 q2)))
 go_region_held3 (fun w'=>w'.cell? ⟨w.heap.size,0,G6⟩=G7 (I0 i)/\w'.cell? ⟨w.heap.size,2,G6⟩=G7 (FV a ts.length c)/\w'.cell? ⟨w.heap.size+1,0,G6⟩=G7 (I0 j)/\w'.cell? ⟨w.heap.size+1,2,G6⟩=G7 (FV b us.length d)) (first|with_reducible exact G8 KZ|with_reducible exact G8 K _ rfl|with_reducible exact G8 KA _) (first
  |(go_at_call 59;first|(with_reducible refine(G8 CP _ rfl).mono ?_;rintro e w1 ⟨rfl,rfl⟩)|(with_reducible refine(G8 CQ _ rfl).mono ?_;rintro e w1 ⟨rfl,rfl⟩))
  |(go_at_call 183;refine(CD8 _ _ _).mono ?_;rintro e w1 ⟨rfl,rfl⟩)
  |(go_at_call 182;refine(CR0 _ _ _ _ (G8 KO _ _).1 (G8 KO _ _).2).mono ?_;rintro e w1 ⟨rfl,rfl⟩))
 all_goals go_wp2_with fail
 all_goals go_ret
 all_goals exact⟨rfl,G8 HBO _⟩
def kk(p:Pe):Key:=(p.id,p.ep,J6 p.ts)
theorem AH7{ps:List Pe}{p:Pe}(h:ps[i]?=G7 p):(ps.map kk)[i]?=G7 (kk p):=by rw[List.getElem?_map,h];rfl
theorem CD9(ps:List Pe)(i:Nat):(ps.map kk).take i=(ps.take i).map kk:=by rw[List.map_take]
theorem BC4{i:Int}{b:Bool}(h:decide (0<=i)=b):Ending.returned (.bool (decide (0<=i)))=.returned (.bool b):=by rw[h]
theorem BU8[Lay α]{cap:Nat}{xs:List α}(h:IK w (FV (G7 ⟨b,off,G6⟩) n cap) xs)(k:Nat)(hk:k<=xs.length):IK w (FV (G7 ⟨b,off,G6⟩) k cap) (xs.take k):=by
 have hl:(xs.take k).length=k:=by simp;omega
 rcases h with⟨a,c,e,rfl,hm⟩|⟨b',off',cap',e,h1,h2,h3,h0,h4⟩
 .simp only[AQ]at e;obtain⟨_,_,rfl⟩:=e;simp only[List.length_nil,Nat.le_zero]at hk;subst hk;exact .inl ⟨_,_,rfl,rfl,hm⟩
 .simp only[AQ,Option.some.injEq,Addr.mk.injEq,and_true]at e;obtain⟨⟨rfl,rfl⟩,_,rfl⟩:=e;by_cases hz:k=0
  .subst hz;exact .inl ⟨_,_,rfl,by simp,h2⟩
  .refine .inr ⟨b,off,cap,by rw[hl],by omega,h2,h3,fun e=>by rw[e]at hl;simp at hl;omega,fun j u hj=>h4 j u ?_⟩;have e:GK xs=GK (xs.take k)++GK (xs.drop k):=by rw[<-I8,List.take_append_drop]
   rw[e,List.getElem?_append_left (AV.1 hj).1];exact hj
theorem BU9(q p:Pe)(g:Nat)(w:FX)(hp:YZ w g p):
  G5 prog 127 #[peV q,P0 g] w (R0 w (.bool (q.id==p.id))):=by
 have B0:=GH w (FW #[I0 q.id,I0 q.ep,FV q.a q.ts.length q.c,I0 q.dn] 48);have e0:=(hp.next B0).c0;have f0:=(YZ.new w q).c0;have HB:=G9 B0;obtain⟨i,ep,a,c,ts,dn⟩:=q;obtain⟨j,eq,b,d,us,dm⟩:=p;simp only at*;clear hp B0;unfold peV;simp only;go_enter func127,ntmps127;go_wp2_with fail;go_ret;refine⟨?_,G8 HB⟩;by_cases h:i=j<;>simp[h]
theorem CE0(v:FZ)(xs:List Pe)(p:Pe)(g:Nat)(w:FX)(hv:IK w v xs)(hp:YZ w g p)(hl:xs.length<=140737488355328):
  G5 prog 181 #[v,.func (.func 127) #[] #[P0 g]] w fun e w'=>(∃i:Int,e=.returned (I0 i)/\decide (0<=i)=xs.any (fun q=>q.id==p.id))/\B0 w w':=by
 have HV:=G9 hv;have HP:=G9 hp;have HS:=G9 (fun q W h=>BU9 q p g W h);obtain⟨va,vc,rfl⟩:=GL hv;clear hv hp;unfold peV at HS;go_enter func181,ntmps181;go_wp2_with fail
 go_loopg [8] xs.length (fun kx s8 wr=>∃k:Nat,s8=I0 k/\k<=xs.length/\xs.length-k<=kx/\Hid ((xs.take k).any (fun q=>q.id==p.id)=false)/\Hid (B0 w wr))
 case atStart=>exact⟨0,rfl,AZ _,A8 _,G9 (by simp),G9 (AA _ _)⟩
 case round=>
  obtain⟨k,rfl,hk,hg,hh,hB⟩:=hrel;by_cases hlt:k<xs.length
  .obtain⟨y,hy⟩:∃y,xs[k]?=G7 y:=⟨_,AO hlt⟩;obtain⟨b,off,cap,he,hb,q,_⟩:=iF ((G8 HV).next (G8 hB)) hy;simp only[AQ]at he;obtain⟨rfl,_,rfl⟩:=he;have d0:=q.pe0 hy;have d1:=q.pe1 hy;have d2:=q.pe2 hy;have d3:=q.pe3 hy;have hkk:(k:Int)<(xs.length:Int):=by omega
   have C:=G8 HS y wr ((G8 HP).next (G8 hB));have HM:Hid (y∈xs):=G9 (BA hy);have HT:=G9 (QN hy);clear q hy hb
   cases hxy:(y.id==p.id)
   .rw[hxy]at C;have HX:=G9 hxy;clear hxy;go_wp2_with fail;refine C.mono ?_;rintro e w1 ⟨rfl,hb1⟩;have hB1:=GI (G8 hB) hb1;clear C hb1;go_wp2_with fail
    go_roundg (xs.length-(k+1))
    case measure=>omega
    case rel=>exact⟨k+1,rfl,by omega,A8 _,G9 (by rw[G8 HT,List.any_append,G8 hh];simpa using G8 HX),G9 hB1⟩
   .rw[hxy]at C;have HX:=G9 (show xs.any (fun q=>q.id==p.id)=true from List.any_eq_true.2 ⟨y,G8 HM,hxy⟩);clear hxy;go_wp2_with fail;refine C.mono ?_;rintro e w1 ⟨rfl,hb1⟩;have hB1:=GI (G8 hB) hb1;clear C hb1;go_wp2_with fail;go_ret;exact⟨⟨k,rfl,by rw[G8 HX];simp⟩,hB1⟩
  .obtain rfl:k=xs.length:=by omega
   have hh2:=G8 hh;rw[List.take_length]at hh2;have HH:=G9 hh2;have hki:¬ ((xs.length:Int)<(xs.length:Int)):=by omega
   clear hh2;go_wp2_with fail;go_ret;exact⟨⟨-1,rfl,by rw[G8 HH];rfl⟩,G8 hB⟩
theorem CE1(v:FZ)(xs:List Pe)(p:Pe)(g:Nat)(w:FX)(hv:IK w v xs)(hp:YZ w g p)(hl:xs.length<=140737488355328):
  G5 prog 128 #[v,.func (.func 127) #[] #[P0 g]] w (R0 w (.bool (xs.any (fun q=>q.id==p.id)))):=by
 have C:=CE0 v xs p g w hv hp hl;obtain⟨va,vc,rfl⟩:=GL hv;generalize xs.any (fun q=>q.id==p.id)=r at C⊢;clear hv hp;go_enter func128,ntmps128;go_wp2_with fail;refine C.mono ?_;rintro e w1 ⟨⟨i,rfl,hi⟩,hb1⟩;have HB:=G9 hb1;have HI:=G9 hi;clear C hb1 hi;go_wp2_with fail;go_ret;exact⟨BC4 (G8 HI),G8 HB⟩
theorem CR1(ps:List Pe)(k:Nat)(p:Pe):((ps.map kk).take k).any (fun q=>q.1==(kk p).1)=(ps.take k).any (fun q=>q.id==p.id):=by
 rw[CD9,List.any_map];rfl
theorem CR2(ps:List Pe)(k:Nat)(p:Pe):AF8 ((ps.map kk).take k) (kk p)=if(ps.take k).any (fun q=>q.id==p.id)=true then 8 else if p.id<0\/3<=p.id then 3 else if p.ep<0\/2147483647<p.ep then 3 else 0:=by
 unfold AF8;rw[CR1];rfl
theorem yZ(v:FZ)(ps:List Pe)(w:FX)(E:Int)(hv:IK w v ps)(hA:C15 (ps.map kk) E)(hl:ps.length<=140737488355328):
  G5 prog 83 #[v] w (R0 w (I0 E)):=by
 have HV:=G9 hv;have HA:=G9 hA;obtain⟨va,vc,rfl⟩:=GL hv;clear hv hA;go_enter func83,ntmps83;go_wp2_with fail
 go_loopg [8] ps.length (fun kx s8 wr=>∃k:Nat,s8=I0 k/\k<=ps.length/\ps.length-k<=kx/\Hid (∀i q,i<k->(ps.map kk)[i]?=G7 q->AF8 ((ps.map kk).take i) q=0)/\Hid (B0 w wr))
 case atStart=>exact⟨0,rfl,AZ _,A8 _,G9 (fun i q h=>by omega),G9 (AA _ _)⟩
 case round=>
  obtain⟨k,rfl,hk,hg,HI,hB⟩:=hrel;by_cases hlt:k<ps.length
  .obtain⟨p,hp⟩:∃p,ps[k]?=G7 p:=⟨_,AO hlt⟩;obtain⟨b,off,cap,he,hb,q,_,hcap,_⟩:=iF ((G8 HV).next (G8 hB)) hp;simp only[AQ]at he;obtain⟨rfl,_,rfl⟩:=he;have d0:=q.pe0 hp;have d1:=q.pe1 hp;have d2:=q.pe2 hp;have d3:=q.pe3 hp;have hkk:(k:Int)<(ps.length:Int):=by omega
   have HX:=G9 (AH7 hp);have HE:=G9 (CR2 ps k p);have HAl:=G9 (GH wr (FW #[I0 p.id,I0 p.ep,FV p.a p.ts.length p.c,I0 p.dn] 48));have HP:=G9 (YZ.new wr p);have HC:=G9 (fun W (hW:B0 w W) (hP:YZ W wr.heap.size p)=>CE1 _ (ps.take k) p wr.heap.size W (BU8 ((G8 HV).next hW) k (by omega)) hP (by simp;omega));have hcap2:k<=vc:=by omega
   clear q hp hb;obtain⟨id,ep,pa,pc,ts,dn⟩:=p;simp only at*;go_wp2_with fail;refine(G8 HC _ (GI (G8 hB) (G8 HAl)) (G8 HP)).mono ?_;rintro e w2 ⟨rfl,hb2⟩;have P2:=(G8 HP).next hb2;have c0:=P2.c0;have c1:=P2.c1;have HB2:=G9 (GI (GI (G8 hB) (G8 HAl)) hb2);clear P2 hb2 HC HAl HP d0 d1 d2 d3
   cases hA:(ps.take k).any (fun q=>q.id==id)
   .rw[hA]at HE;simp only at c0 c1;by_cases h1:id<0
    .have HR:=G9 (yL (G8 HA) (G8 HI) (G8 HX) (by rw[G8 HE];simp[h1]));rw[G8 HE]at HR;have HR2:Hid (E=3):=G9 (by rw[G8 HR];simp[h1]);clear hA;go_wp2_with fail;go_ret;rw[G8 HR2];exact⟨rfl,G8 HB2⟩
    .by_cases h2:id>=3
     .have HR:=G9 (yL (G8 HA) (G8 HI) (G8 HX) (by rw[G8 HE];simp[h2]));rw[G8 HE]at HR;have HR2:Hid (E=3):=G9 (by rw[G8 HR];simp[h2]);clear hA;go_wp2_with fail;go_ret;rw[G8 HR2];exact⟨rfl,G8 HB2⟩
     .by_cases h3:ep<0
      .have HR:=G9 (yL (G8 HA) (G8 HI) (G8 HX) (by rw[G8 HE];simp[h3]));rw[G8 HE]at HR;have HR2:Hid (E=3):=G9 (by rw[G8 HR];simp[h3]);clear hA;go_wp2_with fail;go_ret;rw[G8 HR2];exact⟨rfl,G8 HB2⟩
      .by_cases h4:ep>2147483647
       .have h4':2147483647<ep:=h4;have HR:=G9 (yL (G8 HA) (G8 HI) (G8 HX) (by rw[G8 HE];simp[h4']));rw[G8 HE]at HR;have HR2:Hid (E=3):=G9 (by rw[G8 HR];simp[h4']);clear hA;go_wp2_with fail;go_ret;rw[G8 HR2];exact⟨rfl,G8 HB2⟩
       .have HZ:Hid (AF8 ((ps.map kk).take k) (kk ⟨id,ep,pa,pc,ts,dn⟩)=0):=G9 (by rw[G8 HE];simp;omega);have HI2:Hid (∀i q,i<k+1->(ps.map kk)[i]?=G7 q->AF8 ((ps.map kk).take i) q=0):=G9 (fun i q hi hq=>by
         by_cases e:i=k
         .subst e;rw[G8 HX]at hq
          cases hq
          exact G8 HZ
         .exact G8 HI i q (by omega) hq)
        clear hA;go_wp2_with fail
        go_roundg (ps.length-(k+1))
        case measure=>omega
        case rel=>exact⟨k+1,rfl,by omega,A8 _,HI2,HB2⟩
   .rw[hA]at HE;have HR:=G9 (yL (G8 HA) (G8 HI) (G8 HX) (by rw[G8 HE];simp));rw[G8 HE]at HR;have HR2:Hid (E=8):=G9 (by rw[G8 HR];simp);clear hA;go_wp2_with fail;go_ret;rw[G8 HR2];exact⟨rfl,G8 HB2⟩
  .obtain rfl:k=ps.length:=by omega
   have hki:¬ ((ps.length:Int)<(ps.length:Int)):=by omega
   have HR:=G9 (CA7 (G8 HA) (by rw[EJ];exact G8 HI));go_wp2_with fail;go_ret;rw[G8 HR];exact⟨rfl,G8 hB⟩
theorem AS7(v:FZ)(ps:List Pe)(w:FX)(hv:IK w v ps)(hL:sW w ps)(hl:ps.length<=140737488355328):
  G5 prog 84 #[v] w (R0 w (I0 (WW (ps.map kk)))):=by
 have HV:=G9 hv;have HL:=G9 hL;obtain⟨va,vc,rfl⟩:=GL hv;clear hv hL;go_enter func84,ntmps84;go_wp2_with fail
 go_loopg [3,8] ps.length (fun kx s3 s8 wr=>∃ (k:Nat) (m:Int),s3=I0 m/\s8=I0 k/\k<=ps.length/\ps.length-k<=kx/\Hid (WW ((ps.map kk).take k)=m)/\Hid (B0 w wr))
 case atStart=>exact⟨0,0,rfl,rfl,AZ _,A8 _,G9 rfl,G9 (AA _ _)⟩
 case round=>
  obtain⟨k,m,rfl,rfl,hk,hg,HM,hB⟩:=hrel;by_cases hlt:k<ps.length
  .obtain⟨p,hp⟩:∃p,ps[k]?=G7 p:=⟨_,AO hlt⟩;obtain⟨b,off,cap,he,hb,q,_,hcap,_⟩:=iF ((G8 HV).next (G8 hB)) hp;simp only[AQ]at he;obtain⟨rfl,_,rfl⟩:=he;have d0:=q.pe0 hp;have d1:=q.pe1 hp;have d2:=q.pe2 hp;have d3:=q.pe3 hp;have hkk:(k:Int)<(ps.length:Int):=by omega
   have HN:Hid (WW ((ps.map kk).take (k+1))=max (max m p.ep) (J4 (J6 p.ts))):=G9 (by rw[QN (AH7 hp),B94,G8 HM];rfl);have HAl:=G9 (GH wr (FW #[I0 p.id,I0 p.ep,FV p.a p.ts.length p.c,I0 p.dn] 48));have HP:=G9 (YZ.new wr p);have HC:=G9 (fun W (hW:B0 w W)=>TD p.log p.ts W ((G8 HL p (BA hp)).next hW));clear q hp hb;obtain⟨id,ep,pa,pc,ts,dn⟩:=p;simp only[Pe.log]at*;generalize J6 ts=z at*;go_upto_region 5 with fail;obtain⟨W1,hW1⟩:∃W1,W1=wr.alloc (FW #[I0 id,I0 ep,FV pa ts.length pc,I0 dn] 48):=⟨_,rfl⟩;rw[<-hW1]at HAl HP⊢;have e1:=(G8 HP).c1;have e2:=(G8 HP).c2;simp only at e1 e2;have HB1:=G9 (GI (G8 hB) (G8 HAl));have HCN:=G9 (fun n=>G8 HC (W1.drewN n) (iE (G8 HB1)));clear hW1 HC HAl HP d0 d1 d2 d3;by_cases c1:m<ep
   .by_cases c2:ep<J4 z
    .go_quiet (first|(go_at_call 59;exact Calls.quiet_of_same (G8 HCN _))|(go_at_call 65;exact Calls.quiet_of_same (QM _ _)))
     go_wp2_with fail
     go_roundg (ps.length-(k+1))
     case measure=>omega
     case rel=>exact⟨k+1,J4 z,rfl,rfl,by omega,A8 _,G9 ((G8 HN).trans (by omega)),G9 (iE (G8 HB1))⟩
    .go_quiet (first|(go_at_call 59;exact Calls.quiet_of_same (G8 HCN _))|(go_at_call 65;exact Calls.quiet_of_same (QM _ _)))
     go_wp2_with fail
     go_roundg (ps.length-(k+1))
     case measure=>omega
     case rel=>exact⟨k+1,ep,rfl,rfl,by omega,A8 _,G9 ((G8 HN).trans (by omega)),G9 (iE (G8 HB1))⟩
   .by_cases c2:m<J4 z
    .go_quiet (first|(go_at_call 59;exact Calls.quiet_of_same (G8 HCN _))|(go_at_call 65;exact Calls.quiet_of_same (QM _ _)))
     go_wp2_with fail
     go_roundg (ps.length-(k+1))
     case measure=>omega
     case rel=>exact⟨k+1,J4 z,rfl,rfl,by omega,A8 _,G9 ((G8 HN).trans (by omega)),G9 (iE (G8 HB1))⟩
    .go_quiet (first|(go_at_call 59;exact Calls.quiet_of_same (G8 HCN _))|(go_at_call 65;exact Calls.quiet_of_same (QM _ _)))
     go_wp2_with fail
     go_roundg (ps.length-(k+1))
     case measure=>omega
     case rel=>exact⟨k+1,m,rfl,rfl,by omega,A8 _,G9 ((G8 HN).trans (by omega)),G9 (iE (G8 HB1))⟩
  .obtain rfl:k=ps.length:=by omega
   have hki:¬ ((ps.length:Int)<(ps.length:Int)):=by omega
   have HR:Hid (WW (ps.map kk)=m):=G9 (by
    have:=G8 HM;rwa[show (ps.map kk).take ps.length=ps.map kk by rw[List.take_of_length_le (by simp)]]at this)
   go_wp2_with fail;go_ret;rw[G8 HR];exact⟨rfl,G8 hB⟩
theorem CR3(p q:Pe):decide (0<orI (AH6 (J6 p.ts) (J6 q.ts)) (AH6 p.id q.id))=bet (kk p) (kk q):=by
 unfold orI AH6 bet kk;simp only;by_cases h1:J6 p.ts<J6 q.ts
 .have h2:¬J6 q.ts<J6 p.ts:=by omega
  have h3:¬J6 p.ts=J6 q.ts:=by omega
  simp[h1,h2,h3]
 .by_cases h2:J6 q.ts<J6 p.ts
  .simp[h1,h2]
  .have h3:J6 p.ts=J6 q.ts:=by omega
   rw[h3];by_cases h4:p.id<q.id
   .have h5:¬q.id<p.id:=by omega
    simp[h4,h5]
   .by_cases h5:q.id<p.id
    .simp[h4,h5]
    .simp[h4,h5]
theorem A81(v:FZ)(ps:List Pe)(w:FX)(hv:IK w v ps)(hL:sW w ps)(hl:ps.length<=140737488355328):
  G5 prog 85 #[v] w (R0 w (I0 (MN (ps.map kk) ps.length))):=by
 have HV:=G9 hv;have HL:=G9 hL;obtain⟨va,vc,rfl⟩:=GL hv;clear hv hL;go_enter func85,ntmps85;go_wp2_with fail
 go_loopg [3,8] ps.length (fun kx s3 s8 wr=>∃ (k m:Nat),s3=I0 m/\s8=I0 k/\k<=ps.length/\ps.length-k<=kx/\Hid (MN (ps.map kk) k=m)/\Hid (B0 w wr))
 case atStart=>exact⟨0,0,rfl,rfl,AZ _,A8 _,G9 rfl,G9 (AA _ _)⟩
 case round=>
  obtain⟨k,m,rfl,rfl,hk,hg,HM,hB⟩:=hrel;by_cases hlt:k<ps.length
  .obtain⟨p,hp⟩:∃p,ps[k]?=G7 p:=⟨_,AO hlt⟩;have hm:m<ps.length:=by have:=YC (ps.map kk) k;rw[G8 HM]at this;omega
   obtain⟨r,hr⟩:∃r,ps[m]?=G7 r:=⟨_,AO hm⟩;obtain⟨b,off,cap,he,hb,q,_,hcap,_⟩:=iF ((G8 HV).next (G8 hB)) hp;simp only[AQ]at he;obtain⟨rfl,_,rfl⟩:=he;have d0:=q.pe0 hp;have d1:=q.pe1 hp;have d2:=q.pe2 hp;have d3:=q.pe3 hp;have hkk:(k:Int)<(ps.length:Int):=by omega
   have hmm:(m:Int)<(ps.length:Int):=by omega
   have HN:Hid (MN (ps.map kk) (k+1)=if bet (kk p) (kk r)=true then k else m):=G9 (by rw[A69 (AH7 hp) (by rw[G8 HM];exact AH7 hr),G8 HM]);have HAl:=G9 (GH wr (FW #[I0 p.id,I0 p.ep,FV p.a p.ts.length p.c,I0 p.dn] 48));have HP:=G9 (YZ.new wr p);have HC:=G9 (fun W (hW:B0 w W)=>A80 p r W ((G8 HL p (BA hp)).next hW) ((G8 HL r (BA hr)).next hW));have CX0:=G9 (CR3 p r);have HRW:Hid (∀W,B0 wr W->W.cell? ⟨b,off+m*4,G6⟩=G7 (I0 r.id)/\W.cell? ⟨b,off+m*4+1,G6⟩=G7 (I0 r.ep)/\W.cell? ⟨b,off+m*4+2,G6⟩=G7 (FV r.a r.ts.length r.c)/\W.cell? ⟨b,off+m*4+3,G6⟩=G7 (I0 r.dn)):=G9 (fun W hW=>by
    have q':=q.kept hW hb;exact⟨q'.pe0 hr,q'.pe1 hr,q'.pe2 hr,q'.pe3 hr⟩)
   clear q hp hb hr;generalize bet (kk p) (kk r)=B at*;unfold peV at HC;obtain⟨id,ep,pa,pc,ts,dn⟩:=p;obtain⟨jd,eq,qa,qc,us,dm⟩:=r;simp only at*;generalize orI (AH6 (J6 ts) (J6 us)) (AH6 id jd)=R at*;go_upto_region 5 with fail;obtain⟨W1,hW1⟩:∃W1,W1=wr.alloc (FW #[I0 id,I0 ep,FV pa ts.length pc,I0 dn] 48):=⟨_,rfl⟩;rw[<-hW1]at HAl HP⊢;have e0:=(G8 HP).c0;have e1:=(G8 HP).c1;have e2:=(G8 HP).c2;have e3:=(G8 HP).c3;simp only at e0 e1 e2 e3;obtain⟨f0,f1,f2,f3⟩:=G8 HRW W1 (G8 HAl);have HB1:=G9 (GI (G8 hB) (G8 HAl));have hbw:b<W1.heap.size:=World.block_lt_of_cell? _ _ f0;have hpw:=(G8 HP).lt;clear hW1 HAl HP d0 d1 d2 d3 HRW;have c0':=fun d os=>Calls.regrown_of (w:=W1) (d:=d) (os:=os) (G8 HC _ (GI (G8 HB1) (below_regrown W1 d os)));have g0:=fun d os=>cell_regrown e0 d os;have g1:=fun d os=>cell_regrown e1 d os;have g2:=fun d os=>cell_regrown e2 d os;have g3:=fun d os=>cell_regrown e3 d os;have r0:=fun d os=>cell_regrown f0 d os;have r1:=fun d os=>cell_regrown f1 d os;have r2:=fun d os=>cell_regrown f2 d os;have r3:=fun d os=>cell_regrown f3 d os;clear e0 e1 e2 e3 f0 f1 f2 f3 HC;refine wp_region_quiet_below (by kernel_rfl) (by kernel_rfl) ?_
   repeat (first|go_big_quiet_step (with_reducible exact c0' _ _)|quiet_step (with_reducible exact c0' _ _))
   refine wpQuiet_nil ?_;intro _ hw';obtain⟨⟨dq,osq⟩,hw''⟩:=hw';subst hw'';have HB2:=G9 (GI (G8 HB1) (below_regrown W1 dq osq));clear c0' g0 g1 g2 g3 r0 r1 r2 r3;generalize Go.Sort.grow (redrawn W1 dq) osq=W2 at*
   cases B
   .have hR:¬R>0:=by have:=G8 CX0;simp at this;omega
    have HN2:Hid (MN (ps.map kk) (k+1)=m):=G9 (by rw[G8 HN];simp);clear CX0 HN;go_wp2_with fail
    go_roundg (ps.length-(k+1))
    case measure=>omega
    case rel=>exact⟨k+1,m,rfl,rfl,by omega,A8 _,HN2,HB2⟩
   .have hR:R>0:=by have:=G8 CX0;simp at this;omega
    have HN2:Hid (MN (ps.map kk) (k+1)=k):=G9 (by rw[G8 HN];simp);clear CX0 HN;go_wp2_with fail
    go_roundg (ps.length-(k+1))
    case measure=>omega
    case rel=>exact⟨k+1,k,rfl,rfl,by omega,A8 _,HN2,HB2⟩
  .obtain rfl:k=ps.length:=by omega
   have hki:¬ ((ps.length:Int)<(ps.length:Int)):=by omega
   go_wp2_with fail;go_ret;rw[G8 HM];exact⟨rfl,G8 hB⟩
theorem fZ(w:FX):G5 prog 46 #[] w fun e w'=>e=.returned (I0 2)/\w'=w:=by
 go_enter func46,ntmps46;go_wp2_with fail;go_ret;exact⟨rfl,rfl⟩
theorem BV0{ks:List Key}(h:C15 ks 0):0<=WW ks/\WW ks<=2147483647:=
 ⟨lW ks,B95 2147483647 (by decide) fun k hk=>by
  obtain⟨i,hi⟩:=List.getElem?_of_mem hk;have:=h.ok hi;have:=B96 k.2.2;omega⟩
theorem zA(v:FZ)(ps:List Pe)(w:FX)(k n E:Int)(hv:IK w v ps)(hL:sW w ps)(hA:CZ5 (ps.map kk) k n E)(hl:ps.length<=140737488355328):
  G5 prog 56 #[v] w (R0 w (.tuple #[I0 k,I0 n,I0 E])):=by
 obtain⟨A,hA,hR⟩:=hA;have CA:=yZ v ps w A hv hA hl;have CN:=G9 (fun W (hW:B0 w W)=>AS7 v ps W (hv.next hW) (hL.next hW) hl);have CL:=G9 (fun W (hW:B0 w W)=>A81 v ps W (hv.next hW) (hL.next hW) hl);have HN:=G9 (fun h:A=0=>BV0 (ks:=ps.map kk) (by rw[h]at hA;exact hA));rw[EJ]at hR;obtain⟨va,vc,rfl⟩:=GL hv;clear hv hL hA;generalize WW (ps.map kk)=N at*;generalize MN (ps.map kk) ps.length=L at*;rcases hR with⟨h0,rfl,rfl,rfl⟩|⟨rfl,⟨h1,rfl,rfl,rfl⟩|⟨h1,⟨h2,rfl,rfl,rfl⟩|⟨h2,rfl,rfl,rfl⟩⟩⟩
 .go_enter func56,ntmps56;go_wp2_with fail;refine CA.mono ?_;rintro e w1 ⟨rfl,hb1⟩;have HB:=G9 hb1;clear CA hb1;go_wp2_with fail
  go_ret3
  exact⟨rfl,G8 HB⟩
 all_goals
  obtain⟨n0,n1⟩:=G8 HN rfl;go_enter func56,ntmps56;go_wp2_with fail;refine CA.mono ?_;rintro e w1 ⟨rfl,hb1⟩;have HB:=G9 hb1;clear CA hb1;go_wp2_with fail;refine(fZ _).mono ?_;rintro e w2 ⟨rfl,rfl⟩
 .have h1':(ps.length:Int)<2:=by omega
  go_wp2_with fail
  go_ret3
  exact⟨rfl,G8 HB⟩
 .have h1':¬ (ps.length:Int)<2:=by omega
  have h2':N+1>2147483647:=by omega
  go_wp2_with fail;refine(G8 CN _ (G8 HB)).mono ?_;rintro e w3 ⟨rfl,hb3⟩;have HB3:=G9 (GI (G8 HB) hb3);clear hb3;go_wp2_with fail
  go_ret3
  exact⟨rfl,G8 HB3⟩
 .have h1':¬ (ps.length:Int)<2:=by omega
  have h2':¬N+1>2147483647:=by omega
  go_wp2_with fail;refine(G8 CN _ (G8 HB)).mono ?_;rintro e w3 ⟨rfl,hb3⟩;have HB3:=G9 (GI (G8 HB) hb3);clear hb3;go_wp2_with fail;refine(G8 CL _ (G8 HB3)).mono ?_;rintro e w4 ⟨rfl,hb4⟩;have HB4:=G9 (GI (G8 HB3) hb4);clear hb4;go_wp2_with fail
  go_ret3
  exact⟨rfl,G8 HB4⟩
