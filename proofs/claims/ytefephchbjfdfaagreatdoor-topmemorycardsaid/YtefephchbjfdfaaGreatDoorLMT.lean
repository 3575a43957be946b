/-
  Part.
-/
import Derived.Test.YtefephchbjfdfaaGreatDoorLMP
set_option maxRecDepth 20000
set_option maxHeartbeats 8000000
namespace Go.Proofs.YtefephchbjfdfaaGreatDoor
open Go.RowKit Go.Proofs.Tryz
open _root_.Nat renaming le_refl->AA,zero_le->AZ,add_assoc->EM
open Go.RowKit.Below renaming refl->AB
open _root_.List renaming getElem?_eq_getElem->AO,getElem?_eq_some_iff->AV,mem_of_getElem?->BA,length_map->EJ
open Go.Value.slice renaming injEq->AQ
open Go.World renaming cell?->AX
open Go.Value renaming slice->FV
open Go.Obj renaming cells->FW
open Go renaming World->FX,Value->FZ,Calls->G5
open _root_.Option renaming none->G6,some->G8
variable{n i b off g:Nat}{α:Type}{w W:FX}
abbrev Key:=Int×Int×Int
def AD2(pre:List Key)(k:Key):Int:=
 if pre.any (fun q=>q.1==k.1)=true then 8 else if k.1<0\/3<=k.1 then 3 else if k.2.1<0\/2147483647<k.2.1 then 3 else 0
def BY2(ks:List Key)(E:Int):Prop:=
 (E=0/\∀i k,ks[i]?=G8 k->AD2 (ks.take i) k=0)\/
 (E≠0/\∃n k,ks[n]?=G8 k/\AD2 (ks.take n) k=E/\∀i q,i<n->ks[i]?=G8 q->AD2 (ks.take i) q=0)
theorem xX{ks:List Key}{E:Int}(h:BY2 ks E)(hn:∀i q,i<n->ks[i]?=G8 q->AD2 (ks.take i) q=0){x:Key}(hx:ks[n]?=G8 x)(he:AD2 (ks.take n) x≠0):E=AD2 (ks.take n) x:=by
 rcases h with⟨_,h⟩|⟨h0,m,k,hk,e,h⟩
 .exact absurd (h n x hx) he
 .rcases Nat.lt_trichotomy m n with hl|hl|hl
  .exact absurd ((hn m k hl hk).symm.trans e).symm h0
  .subst hl;rw[hk]at hx
   cases hx
   exact e.symm
  .exact absurd (h n x hl hx) he
theorem C76{ks:List Key}{E:Int}(h:BY2 ks E)(hn:∀i q,i<ks.length->ks[i]?=G8 q->AD2 (ks.take i) q=0):E=0:=by
 rcases h with⟨h,_⟩|⟨h0,m,k,hk,e,_⟩
 .exact h
 .exact absurd ((hn m k (AV.1 hk).1 hk).symm.trans e).symm h0
def WJ(ks:List Key):Int:=ks.foldl (fun a k=>max (max a k.2.1) (J6 k.2.2)) 0
theorem B64(ks:List Key)(k:Key):WJ (ks++[k])=max (max (WJ ks) k.2.1) (J6 k.2.2):=by simp[WJ]
theorem QH{l:List α}{k:Nat}{x:α}(h:l[k]?=G8 x):l.take (k+1)=l.take k++[x]:=by
 obtain⟨hk,rfl⟩:=AV.1 h;exact List.take_succ_eq_append_getElem hk
def bet(p q:Key):Bool:=decide (q.2.2<p.2.2)||(decide (p.2.2=q.2.2)&&decide (q.1<p.1))
def MN(ks:List Key):Nat->Nat
 |0=>0
 |n+1=>if bet (ks.getD n (0,0,0)) (ks.getD (MN ks n) (0,0,0))=true then n else MN ks n
theorem XU(ks:List Key):∀n,MN ks n<max n 1
 |0=>by simp[MN]
 |n+1=>by
  have:=XU ks n;unfold MN
  split<;>omega
theorem A44{ks:List Key}{p q:Key}(hp:ks[n]?=G8 p)(hq:ks[MN ks n]?=G8 q):MN ks (n+1)=if bet p q=true then n else MN ks n:=by
 rw[MN,List.getD_eq_getElem?_getD,List.getD_eq_getElem?_getD,hp,hq];rfl
def CW0(ks:List Key)(k n E:Int):Prop:=
 ∃A,BY2 ks A/\((A≠0/\k=0/\n=0/\E=A)\/(A=0/\((ks.length<2/\k=0/\n=0/\E=14)\/(2<=ks.length/\((2147483647<WJ ks+1/\k=0/\n=0/\E=6)\/(WJ ks+1<=2147483647/\k=MN ks ks.length/\n=WJ ks+1/\E=0))))))
theorem BY2.ok{ks:List Key}(h:BY2 ks 0){k:Key}(hk:ks[i]?=G8 k):(∀q∈ks.take i,q.1≠k.1)/\0<=k.1/\k.1<3/\0<=k.2.1/\k.2.1<=2147483647:=by
 rcases h with⟨_,h⟩|⟨h,_⟩
 .have:=h i k hk;unfold AD2 at this;by_cases h1:(ks.take i).any (fun q=>q.1==k.1)=true
  .simp[h1]at this
  .by_cases h2:k.1<0\/3<=k.1
   .simp[h1,h2]at this
   .by_cases h3:k.2.1<0\/2147483647<k.2.1
    .simp[h1,h2,h3]at this
    .refine⟨fun q hq e=>h1 ?_,by omega,by omega,by omega,by omega⟩;exact List.any_eq_true.2 ⟨q,hq,by simp[e]⟩
 .exact absurd rfl h
theorem B65{ks:List Key}(M:Int)(h0:0<=M):(∀k∈ks,k.2.1<=M/\J6 k.2.2<=M)->WJ ks<=M:=by
 have main:∀ (l:List Key) (a:Int),a<=M->(∀k∈l,k.2.1<=M/\J6 k.2.2<=M)->l.foldl (fun a k=>max (max a k.2.1) (J6 k.2.2)) a<=M:=by
  intro l
  induction l with
  |nil=>intro a ha _;exact ha
  |cons x r ih=>
   intro a ha h;have:=h x (by simp);exact ih (max (max a x.2.1) (J6 x.2.2)) (by omega) fun k hk=>h k (by simp[hk])
 exact main ks 0 h0
theorem C77{ks:List Key}{k:Key}(hk:k∈ks):k.2.1<=WJ ks/\J6 k.2.2<=WJ ks:=by
 have up:∀ (l:List Key) (a:Int),a<=l.foldl (fun a k=>max (max a k.2.1) (J6 k.2.2)) a:=by
  intro l
  induction l with
  |nil=>intro a;exact Int.le_refl _
  |cons x r ih=>intro a;exact Int.le_trans (show a<=max (max a x.2.1) (J6 x.2.2) by omega) (ih _)
 have main:∀ (l:List Key) (a:Int),k∈l->k.2.1<=l.foldl (fun a k=>max (max a k.2.1) (J6 k.2.2)) a/\J6 k.2.2<=l.foldl (fun a k=>max (max a k.2.1) (J6 k.2.2)) a:=by
  intro l
  induction l with
  |nil=>intro a h;simp at h
  |cons x r ih=>
   intro a h;rcases List.mem_cons.1 h with rfl|h
   .have:=up r (max (max a k.2.1) (J6 k.2.2));constructor
    .exact Int.le_trans (by omega) this
    .exact Int.le_trans (by omega) this
   .exact ih _ h
 exact main ks 0 hk
theorem B66(z:Int):0<=J6 z/\J6 z<=2147483647:=by
 cases hg:KP z with
 |false=>rw[uI hg];decide
 |true=>
  have:=MC.1 hg;rw[MF hg];omega
theorem kY(ks:List Key):0<=WJ ks:=by
 have up:∀ (l:List Key) (a:Int),a<=l.foldl (fun a k=>max (max a k.2.1) (J6 k.2.2)) a:=by
  intro l
  induction l with
  |nil=>intro a;exact Int.le_refl _
  |cons x r ih=>intro a;exact Int.le_trans (show a<=max (max a x.2.1) (J6 x.2.2) by omega) (ih _)
 exact up ks 0
structure Pe where
 id:Int
 ep:Int
 a:Option Addr
 c:Nat
 ts:List GV
 dn:Int
def pe0:Pe:=⟨0,0,G6,0,[],0⟩
def peV(p:Pe):FZ:=.agg #[I0 p.id,I0 p.ep,FV p.a p.ts.length p.c,I0 p.dn]
def BY3(p:Pe):List FZ:=[I0 p.id,I0 p.ep,FV p.a p.ts.length p.c,I0 p.dn]
instance layP:Lay Pe:=⟨4,BY3,48,fun _=>rfl,fun x u hu=>by simp[BY3]at hu;rcases hu with rfl|rfl|rfl|rfl<;>rfl⟩
structure Lg where
 a:Option Addr
 c:Nat
 ts:List GV
def lgV(l:Lg):FZ:=FV l.a l.ts.length l.c
instance layG:Lay Lg:=⟨1,fun l=>[lgV l],46,fun _=>rfl,fun x u hu=>by simp at hu;subst hu;rfl⟩
def Pe.log(p:Pe):FZ:=FV p.a p.ts.length p.c
def rU(w:FX)(ps:List Pe):Prop:=∀p∈ps,NQ w p.log p.ts
theorem rU.next{w':FX}{ps:List Pe}(h:rU w ps)(hb:B0 w w'):rU w' ps:=fun p hp=>(h p hp).next hb
theorem II.pe0{xs:List Pe}(h:II w b off (GL xs)){x:Pe}(hi:xs[i]?=G8 x):w.cell? ⟨b,off+i*4,G6⟩=G8 (I0 x.id):=
 h (i*4) _ (GZ xs i x hi 0 (by decide))
theorem II.pe1{xs:List Pe}(h:II w b off (GL xs)){x:Pe}(hi:xs[i]?=G8 x):w.cell? ⟨b,off+i*4+1,G6⟩=G8 (I0 x.ep):=by
 rw[EM];exact h (i*4+1) _ (GZ xs i x hi 1 (by decide))
theorem II.pe2{xs:List Pe}(h:II w b off (GL xs)){x:Pe}(hi:xs[i]?=G8 x):w.cell? ⟨b,off+i*4+2,G6⟩=G8 (FV x.a x.ts.length x.c):=by
 rw[EM];exact h (i*4+2) _ (GZ xs i x hi 2 (by decide))
theorem II.pe3{xs:List Pe}(h:II w b off (GL xs)){x:Pe}(hi:xs[i]?=G8 x):w.cell? ⟨b,off+i*4+3,G6⟩=G8 (I0 x.dn):=by
 rw[EM];exact h (i*4+3) _ (GZ xs i x hi 3 (by decide))
def YN(W:FX)(g:Nat)(p:Pe):Prop:=W.heap[g]?=G8 (FW #[I0 p.id,I0 p.ep,FV p.a p.ts.length p.c,I0 p.dn] 48 (0,0))
theorem YN.new(W:FX)(p:Pe):YN (W.alloc (FW #[I0 p.id,I0 p.ep,FV p.a p.ts.length p.c,I0 p.dn] 48)) W.heap.size p:=heap_alloc_new W _
theorem YN.next{V:FX}{p:Pe}(h:YN W g p)(hb:B0 W V):YN V g p:=(hb.block g (by unfold YN at h;exact(Array.getElem?_eq_some_iff.1 h).1)).trans h
theorem YN.lt{p:Pe}(h:YN W g p):g<W.heap.size:=by unfold YN at h;exact(Array.getElem?_eq_some_iff.1 h).1
theorem YN.c0{p:Pe}(h:YN W g p):W.cell? ⟨g,0,G6⟩=G8 (I0 p.id):=by unfold YN at h;simp[AX,h]
theorem YN.c1{p:Pe}(h:YN W g p):W.cell? ⟨g,1,G6⟩=G8 (I0 p.ep):=by unfold YN at h;simp[AX,h]
theorem YN.c2{p:Pe}(h:YN W g p):W.cell? ⟨g,2,G6⟩=G8 (FV p.a p.ts.length p.c):=by unfold YN at h;simp[AX,h]
theorem YN.c3{p:Pe}(h:YN W g p):W.cell? ⟨g,3,G6⟩=G8 (I0 p.dn):=by unfold YN at h;simp[AX,h]
theorem CM2:(prog.info? 48).map (fun i=>(i.zero,i.size,i.bytes))=G8 (G8 (peV pe0),4,48):=by kernel_rfl
theorem CW1:∃i0,prog.info? 48=G8 i0/\i0.zero=G8 (peV pe0)/\i0.size=4/\i0.bytes=48:=by
 obtain⟨i0,h,e⟩:=Option.map_eq_some_iff.1 CM2;simp only[Prod.mk.injEq]at e;exact⟨i0,h,e⟩
theorem fZ{B:Nat}{a:FX}(h:Below B a w):Below B a (w.drewN n):=⟨h.os,h.tape,h.output,h.size,h.block⟩
theorem oW[Lay α]{v:FZ}{xs:List α}(hv:IV w v xs){x:α}(hi:xs[i]?=G8 x):
  ∃b off cap,v=FV (G8 ⟨b,off,G6⟩) xs.length cap/\b<w.heap.size/\II w b off (GL xs)/\i<xs.length/\xs.length<=cap/\cap<=maxLen:=by
 obtain⟨hi',_⟩:=AV.1 hi;obtain⟨b,off,cap,e,hb,hr,h1,h2⟩:=N8 hv (fun h0=>by rw[h0]at hi';simp at hi');exact⟨b,off,cap,e,hb,hr,hi',h1,h2⟩
def nxN(ep z:Int):Int:=if ep<=J6 z then iW z else if OC ep 0=0 then iW (L9 ep 0)else 0
def nxE(ep z:Int):Int:=if ep<=J6 z then WM z else if OC ep 0=0 then WM (L9 ep 0)else OC ep 0
theorem BP5(p:Pe)(w:FX)(hp:NQ w p.log p.ts):
  G5 prog 78 #[peV p] w (R0 w (.tuple #[I0 (nxN p.ep (J7 p.ts)),I0 (nxE p.ep (J7 p.ts))])):=by
 have CL:=fun W (h:B0 w W)=>SH p.log p.ts W (hp.next h);have B0:=GI w (FW #[I0 p.id,I0 p.ep,FV p.a p.ts.length p.c,I0 p.dn] 48);have P0:=YN.new w p;have C0:=CL _ B0;have HP:=GH P0;have d2:=P0.c2;have HB:=GH B0;clear CL P0 B0 hp;obtain⟨i,ep,a,c,ts,dn⟩:=p;simp only[Pe.log]at*;unfold peV;simp only;generalize J7 ts=z at*;have HE:=GH (show (J6 z>=ep->nxN ep z=iW z/\nxE ep z=WM z)/\(¬J6 z>=ep->(OC ep 0=0->nxN ep z=iW (L9 ep 0)/\nxE ep z=WM (L9 ep 0))/\(OC ep 0≠0->nxN ep z=0/\nxE ep z=OC ep 0))from
  ⟨fun h=>by simp[nxN,nxE,h],fun h=>⟨fun k=>by simp[nxN,nxE,h,k],fun k=>by simp[nxN,nxE,h,k]⟩⟩)
 generalize nxN ep z=R at*;generalize nxE ep z=E at*;go_enter func78,ntmps78;go_wp2_with fail;refine C0.mono ?_;rintro e w1 ⟨rfl,hb1⟩;have HB1:Hid (B0 w w1):=GH (GK (G9 HB) (by rw[hb1];exact AB _ _));have d1:w1.cell? ⟨w.heap.size,1,G6⟩=G8 (I0 ep):=((G9 HP).next (by rw[hb1];exact AB _ _)).c1;clear hb1;go_wp2_with fail
 go_quiet ((go_at_call 44;exact Calls.quiet_of_same (QG _ _)))
 by_cases h1:J6 z>=ep
 .have HR:=GH ((G9 HE).1 h1);go_wp2_with fail;refine(xY _ _).mono ?_;rintro e w2 ⟨rfl,rfl⟩;go_wp2_with fail
  go_ret2
  rw[(G9 HR).1,(G9 HR).2];exact⟨rfl,fZ (G9 HB1)⟩
 .have HS:=GH ((G9 HE).2 (by simpa using h1));go_wp2_with fail;refine(UR _ _ _).mono ?_;rintro e w2 ⟨rfl,rfl⟩;by_cases h2:OC ep 0=0
  .have HR:=GH ((G9 HS).1 h2);go_wp2_with fail;refine(xY _ _).mono ?_;rintro e w3 ⟨rfl,rfl⟩;go_wp2_with fail
   go_ret2
   rw[(G9 HR).1,(G9 HR).2];exact⟨rfl,fZ (G9 HB1)⟩
  .have HR:=GH ((G9 HS).2 h2);go_wp2_with fail
   go_ret2
   rw[(G9 HR).1,(G9 HR).2];exact⟨rfl,fZ (G9 HB1)⟩
def AE9(x y:Int):Int:=if x<y then -1 else if y<x then 1 else 0
theorem fC(x:Int)(w:FX):G5 prog 211 #[I0 x] w fun e w'=>e=.returned (.bool false)/\w'=w:=by
 go_enter func211,ntmps211;go_wp2_with fail;go_ret;exact⟨rfl,rfl⟩
theorem CA3(x y:Int)(w:FX):G5 prog 182 #[I0 x,I0 y] w fun e w'=>e=.returned (I0 (AE9 x y))/\w'=w:=by
 by_cases h:x<y
 .have e:AE9 x y=-1:=by simp[AE9,h]
  rw[e];clear e;go_enter func182,ntmps182;go_wp2_with fail;refine(fC _ _).mono ?_;rintro e w1 ⟨rfl,rfl⟩;go_wp2_with fail;refine(fC _ _).mono ?_;rintro e w1 ⟨rfl,rfl⟩;go_wp2_with fail;go_ret;exact⟨rfl,rfl⟩
 .by_cases h2:y<x
  .have e:AE9 x y=1:=by simp[AE9,h,h2]
   rw[e];clear e;go_enter func182,ntmps182;go_wp2_with fail;refine(fC _ _).mono ?_;rintro e w1 ⟨rfl,rfl⟩;go_wp2_with fail;refine(fC _ _).mono ?_;rintro e w1 ⟨rfl,rfl⟩;go_wp2_with fail;go_ret;exact⟨rfl,rfl⟩
  .have e:AE9 x y=0:=by simp[AE9,h,h2]
   rw[e];clear e;go_enter func182,ntmps182;go_wp2_with fail;refine(fC _ _).mono ?_;rintro e w1 ⟨rfl,rfl⟩;go_wp2_with fail;refine(fC _ _).mono ?_;rintro e w1 ⟨rfl,rfl⟩;go_wp2_with fail;go_ret;exact⟨rfl,rfl⟩
def orI(x y:Int):Int:=if x=0 then y else x
theorem CN7(g:Nat)(x y:Int)(w:FX)(h0:w.cell? ⟨g,0,G6⟩=G8 (I0 x))(h1:w.cell? ⟨g,1,G6⟩=G8 (I0 y)):
  G5 prog 181 #[FV (G8 ⟨g,0,G6⟩) 2 2] w fun e w'=>e=.returned (I0 (orI x y))/\w'=w:=by
 go_enter func181,ntmps181;go_wp2_with fail
 go_loopg [8] 2 (fun kx s8 wr=>∃k:Nat,s8=I0 k/\k<=2/\2-k<=kx/\wr=w/\(k=0\/k=1/\x=0\/k=2/\x=0/\y=0))
 case atStart=>exact⟨0,rfl,by omega,by omega,rfl,.inl rfl⟩
 case round=>
  obtain⟨k,rfl,hk,hkx,rfl,h⟩:=hrel;rcases h with rfl|⟨rfl,hx⟩|⟨rfl,hx,hy⟩
  .by_cases hx:x=0
   .go_wp2_with fail
    go_roundg 1
    case measure=>omega
    case rel=>exact⟨1,rfl,by omega,by omega,rfl,.inr (.inl ⟨rfl,hx⟩)⟩
   .have e:orI x y=x:=by simp[orI,hx]
    have HE:=GH e;clear e;go_wp2_with fail;go_ret;rw[G9 HE];exact⟨rfl,rfl⟩
  .by_cases hy:y=0
   .go_wp2_with fail
    go_roundg 0
    case measure=>omega
    case rel=>exact⟨2,rfl,by omega,by omega,rfl,.inr (.inr ⟨rfl,hx,hy⟩)⟩
   .have e:orI x y=y:=by simp[orI,hx]
    have HE:=GH e;clear e;go_wp2_with fail;go_ret;rw[G9 HE];exact⟨rfl,rfl⟩
  .have e:orI x y=0:=by simp[orI,hx,hy]
   have HE:=GH e;clear e;go_wp2_with fail;go_ret;rw[G9 HE];exact⟨rfl,rfl⟩
theorem A52(p q:Pe)(w:FX)(hp:NQ w p.log p.ts)(hq:NQ w q.log q.ts):
  G5 prog 139 #[peV p,peV q] w (R0 w (I0 (orI (AE9 (J7 p.ts) (J7 q.ts)) (AE9 p.id q.id)))):=by
 obtain⟨W0,hW0⟩:∃W0,W0=(w.alloc (FW #[I0 p.id,I0 p.ep,FV p.a p.ts.length p.c,I0 p.dn] 48)).alloc (FW #[I0 q.id,I0 q.ep,FV q.a q.ts.length q.c,I0 q.dn] 48):=⟨_,rfl⟩;have B0:B0 w W0:=by rw[hW0];exact GK (GI _ _) (GI _ _)
 have P0:YN W0 w.heap.size p:=by rw[hW0];exact(YN.new w p).next (GI _ _)
 have Q0:YN W0 (w.heap.size+1) q:=by
  rw[hW0];have:=YN.new (w.alloc (FW #[I0 p.id,I0 p.ep,FV p.a p.ts.length p.c,I0 p.dn] 48)) q;simpa using this
 have CP:=GH (fun W (h:W=W0.drew)=>SH p.log p.ts W (by rw[h];exact(hp.next B0).drew));have CQ:=GH (fun W (h:W=W0.drew)=>SH q.log q.ts W (by rw[h];exact(hq.next B0).drew));have p0:=P0.c0;have p2:=P0.c2;have q0:=Q0.c0;have q2:=Q0.c2;have HB:=GH B0;have hlt:=Q0.lt;clear B0 P0 Q0 hp hq;obtain⟨i,ep,a,c,ts,dn⟩:=p;obtain⟨j,eq,b,d,us,dm⟩:=q;simp only[Pe.log]at*;unfold peV;simp only;generalize J7 ts=z at*;generalize J7 us=y at*;go_enter func139,ntmps139;go_upto_region 1 with fail;rw[<-hW0];clear hW0;have KO:Hid (∀x y:Int,(W0.alloc (FW #[I0 x,I0 y] 3)).drew.cell? ⟨W0.heap.size,0,G6⟩=G8 (I0 x)/\(W0.alloc (FW #[I0 x,I0 y] 3)).drew.cell? ⟨W0.heap.size,1,G6⟩=G8 (I0 y)):=GH (fun x y=>by
  have h:=heap_alloc_new W0 (FW #[I0 x,I0 y] 3);show (W0.alloc (FW #[I0 x,I0 y] 3)).cell? ⟨W0.heap.size,0,G6⟩=G8 (I0 x)/\(W0.alloc (FW #[I0 x,I0 y] 3)).cell? ⟨W0.heap.size,1,G6⟩=G8 (I0 y);unfold AX;rw[h];exact⟨rfl,rfl⟩)
 have HBO:Hid (∀o:Obj,B0 w (W0.alloc o).drew):=GH (fun o=>(GK (G9 HB) (GI _ _)).drew);have K:Hid (∀W,W=W0.drew->W.cell? ⟨w.heap.size,0,G6⟩=G8 (I0 i)/\W.cell? ⟨w.heap.size,2,G6⟩=G8 (FV a ts.length c)/\W.cell? ⟨w.heap.size+1,0,G6⟩=G8 (I0 j)/\W.cell? ⟨w.heap.size+1,2,G6⟩=G8 (FV b us.length d)):=GH (fun W h=>by rw[h];exact⟨p0,p2,q0,q2⟩);have KA:Hid (∀o:Obj,(W0.alloc o).drew.cell? ⟨w.heap.size,0,G6⟩=G8 (I0 i)/\(W0.alloc o).drew.cell? ⟨w.heap.size,2,G6⟩=G8 (FV a ts.length c)/\(W0.alloc o).drew.cell? ⟨w.heap.size+1,0,G6⟩=G8 (I0 j)/\(W0.alloc o).drew.cell? ⟨w.heap.size+1,2,G6⟩=G8 (FV b us.length d)):=GH (fun o=>by
  have h:B0 W0 (W0.alloc o).drew:=(GI W0 o).drew;exact⟨(h.cell (p:=⟨w.heap.size,0,G6⟩) (by simp only;omega)).trans p0,(h.cell (p:=⟨w.heap.size,2,G6⟩) (by simp only;omega)).trans p2,(h.cell (p:=⟨w.heap.size+1,0,G6⟩) (by simp only;omega)).trans q0,(h.cell (p:=⟨w.heap.size+1,2,G6⟩) (by simp only;omega)).trans q2⟩)
 have KZ:=GH (And.intro p0 (And.intro p2 (And.intro q0 q2)))
 go_region_held3 (fun w'=>w'.cell? ⟨w.heap.size,0,G6⟩=G8 (I0 i)/\w'.cell? ⟨w.heap.size,2,G6⟩=G8 (FV a ts.length c)/\w'.cell? ⟨w.heap.size+1,0,G6⟩=G8 (I0 j)/\w'.cell? ⟨w.heap.size+1,2,G6⟩=G8 (FV b us.length d)) (first|with_reducible exact G9 KZ|with_reducible exact G9 K _ rfl|with_reducible exact G9 KA _) (first
  |(go_at_call 61;first|(with_reducible refine(G9 CP _ rfl).mono ?_;rintro e w1 ⟨rfl,rfl⟩)|(with_reducible refine(G9 CQ _ rfl).mono ?_;rintro e w1 ⟨rfl,rfl⟩))
  |(go_at_call 182;refine(CA3 _ _ _).mono ?_;rintro e w1 ⟨rfl,rfl⟩)
  |(go_at_call 181;refine(CN7 _ _ _ _ (G9 KO _ _).1 (G9 KO _ _).2).mono ?_;rintro e w1 ⟨rfl,rfl⟩))
 all_goals go_wp2_with fail
 all_goals go_ret
 all_goals exact⟨rfl,G9 HBO _⟩
def kk(p:Pe):Key:=(p.id,p.ep,J7 p.ts)
theorem AF0{ps:List Pe}{p:Pe}(h:ps[i]?=G8 p):(ps.map kk)[i]?=G8 (kk p):=by rw[List.getElem?_map,h];rfl
theorem CA4(ps:List Pe)(i:Nat):(ps.map kk).take i=(ps.take i).map kk:=by rw[List.map_take]
theorem B88{i:Int}{b:Bool}(h:decide (0<=i)=b):Ending.returned (.bool (decide (0<=i)))=.returned (.bool b):=by rw[h]
theorem BR3[Lay α]{cap:Nat}{xs:List α}(h:IV w (FV (G8 ⟨b,off,G6⟩) n cap) xs)(k:Nat)(hk:k<=xs.length):IV w (FV (G8 ⟨b,off,G6⟩) k cap) (xs.take k):=by
 have hl:(xs.take k).length=k:=by simp;omega
 rcases h with⟨a,c,e,rfl,hm⟩|⟨b',off',cap',e,h1,h2,h3,h0,h4⟩
 .simp only[AQ]at e;obtain⟨_,_,rfl⟩:=e;simp only[List.length_nil,Nat.le_zero]at hk;subst hk;exact .inl ⟨_,_,rfl,rfl,hm⟩
 .simp only[AQ,Option.some.injEq,Addr.mk.injEq,and_true]at e;obtain⟨⟨rfl,rfl⟩,_,rfl⟩:=e;by_cases hz:k=0
  .subst hz;exact .inl ⟨_,_,rfl,by simp,h2⟩
  .refine .inr ⟨b,off,cap,by rw[hl],by omega,h2,h3,fun e=>by rw[e]at hl;simp at hl;omega,fun j u hj=>h4 j u ?_⟩;have e:GL xs=GL (xs.take k)++GL (xs.drop k):=by rw[<-I8,List.take_append_drop]
   rw[e,List.getElem?_append_left (AV.1 hj).1];exact hj
theorem BR4(q p:Pe)(g:Nat)(w:FX)(hp:YN w g p):
  G5 prog 137 #[peV q,P0 g] w (R0 w (.bool (q.id==p.id))):=by
 have B0:=GI w (FW #[I0 q.id,I0 q.ep,FV q.a q.ts.length q.c,I0 q.dn] 48);have e0:=(hp.next B0).c0;have f0:=(YN.new w q).c0;have HB:=GH B0;obtain⟨i,ep,a,c,ts,dn⟩:=q;obtain⟨j,eq,b,d,us,dm⟩:=p;simp only at*;clear hp B0;unfold peV;simp only;go_enter func137,ntmps137;go_wp2_with fail;go_ret;refine⟨?_,G9 HB⟩;by_cases h:i=j<;>simp[h]
theorem CA5(v:FZ)(xs:List Pe)(p:Pe)(g:Nat)(w:FX)(hv:IV w v xs)(hp:YN w g p)(hl:xs.length<=140737488355328):
  G5 prog 180 #[v,.func (.func 137) #[] #[P0 g]] w fun e w'=>(∃i:Int,e=.returned (I0 i)/\decide (0<=i)=xs.any (fun q=>q.id==p.id))/\B0 w w':=by
 have HV:=GH hv;have HP:=GH hp;have HS:=GH (fun q W h=>BR4 q p g W h);obtain⟨va,vc,rfl⟩:=GU hv;clear hv hp;unfold peV at HS;go_enter func180,ntmps180;go_wp2_with fail
 go_loopg [8] xs.length (fun kx s8 wr=>∃k:Nat,s8=I0 k/\k<=xs.length/\xs.length-k<=kx/\Hid ((xs.take k).any (fun q=>q.id==p.id)=false)/\Hid (B0 w wr))
 case atStart=>exact⟨0,rfl,AZ _,AA _,GH (by simp),GH (AB _ _)⟩
 case round=>
  obtain⟨k,rfl,hk,hg,hh,hB⟩:=hrel;by_cases hlt:k<xs.length
  .obtain⟨y,hy⟩:∃y,xs[k]?=G8 y:=⟨_,AO hlt⟩;obtain⟨b,off,cap,he,hb,q,_⟩:=oW ((G9 HV).next (G9 hB)) hy;simp only[AQ]at he;obtain⟨rfl,_,rfl⟩:=he;have d0:=q.pe0 hy;have d1:=q.pe1 hy;have d2:=q.pe2 hy;have d3:=q.pe3 hy;have hkk:(k:Int)<(xs.length:Int):=by omega
   have C:=G9 HS y wr ((G9 HP).next (G9 hB));have HM:Hid (y∈xs):=GH (BA hy);have HT:=GH (QH hy);clear q hy hb
   cases hxy:(y.id==p.id)
   .rw[hxy]at C;have HX:=GH hxy;clear hxy;go_wp2_with fail;refine C.mono ?_;rintro e w1 ⟨rfl,hb1⟩;have hB1:=GK (G9 hB) hb1;clear C hb1;go_wp2_with fail
    go_roundg (xs.length-(k+1))
    case measure=>omega
    case rel=>exact⟨k+1,rfl,by omega,AA _,GH (by rw[G9 HT,List.any_append,G9 hh];simpa using G9 HX),GH hB1⟩
   .rw[hxy]at C;have HX:=GH (show xs.any (fun q=>q.id==p.id)=true from List.any_eq_true.2 ⟨y,G9 HM,hxy⟩);clear hxy;go_wp2_with fail;refine C.mono ?_;rintro e w1 ⟨rfl,hb1⟩;have hB1:=GK (G9 hB) hb1;clear C hb1;go_wp2_with fail;go_ret;exact⟨⟨k,rfl,by rw[G9 HX];simp⟩,hB1⟩
  .obtain rfl:k=xs.length:=by omega
   have hh2:=G9 hh;rw[List.take_length]at hh2;have HH:=GH hh2;have hki:¬ ((xs.length:Int)<(xs.length:Int)):=by omega
   clear hh2;go_wp2_with fail;go_ret;exact⟨⟨-1,rfl,by rw[G9 HH];rfl⟩,G9 hB⟩
theorem CA6(v:FZ)(xs:List Pe)(p:Pe)(g:Nat)(w:FX)(hv:IV w v xs)(hp:YN w g p)(hl:xs.length<=140737488355328):
  G5 prog 138 #[v,.func (.func 137) #[] #[P0 g]] w (R0 w (.bool (xs.any (fun q=>q.id==p.id)))):=by
 have C:=CA5 v xs p g w hv hp hl;obtain⟨va,vc,rfl⟩:=GU hv;generalize xs.any (fun q=>q.id==p.id)=r at C⊢;clear hv hp;go_enter func138,ntmps138;go_wp2_with fail;refine C.mono ?_;rintro e w1 ⟨⟨i,rfl,hi⟩,hb1⟩;have HB:=GH hb1;have HI:=GH hi;clear C hb1 hi;go_wp2_with fail;go_ret;exact⟨B88 (G9 HI),G9 HB⟩
theorem CN8(ps:List Pe)(k:Nat)(p:Pe):((ps.map kk).take k).any (fun q=>q.1==(kk p).1)=(ps.take k).any (fun q=>q.id==p.id):=by
 rw[CA4,List.any_map];rfl
theorem CN9(ps:List Pe)(k:Nat)(p:Pe):AD2 ((ps.map kk).take k) (kk p)=if(ps.take k).any (fun q=>q.id==p.id)=true then 8 else if p.id<0\/3<=p.id then 3 else if p.ep<0\/2147483647<p.ep then 3 else 0:=by
 unfold AD2;rw[CN8];rfl
theorem yH(v:FZ)(ps:List Pe)(w:FX)(E:Int)(hv:IV w v ps)(hA:BY2 (ps.map kk) E)(hl:ps.length<=140737488355328):
  G5 prog 95 #[v] w (R0 w (I0 E)):=by
 have HV:=GH hv;have HA:=GH hA;obtain⟨va,vc,rfl⟩:=GU hv;clear hv hA;go_enter func95,ntmps95;go_wp2_with fail
 go_loopg [8] ps.length (fun kx s8 wr=>∃k:Nat,s8=I0 k/\k<=ps.length/\ps.length-k<=kx/\Hid (∀i q,i<k->(ps.map kk)[i]?=G8 q->AD2 ((ps.map kk).take i) q=0)/\Hid (B0 w wr))
 case atStart=>exact⟨0,rfl,AZ _,AA _,GH (fun i q h=>by omega),GH (AB _ _)⟩
 case round=>
  obtain⟨k,rfl,hk,hg,HI,hB⟩:=hrel;by_cases hlt:k<ps.length
  .obtain⟨p,hp⟩:∃p,ps[k]?=G8 p:=⟨_,AO hlt⟩;obtain⟨b,off,cap,he,hb,q,_,hcap,_⟩:=oW ((G9 HV).next (G9 hB)) hp;simp only[AQ]at he;obtain⟨rfl,_,rfl⟩:=he;have d0:=q.pe0 hp;have d1:=q.pe1 hp;have d2:=q.pe2 hp;have d3:=q.pe3 hp;have hkk:(k:Int)<(ps.length:Int):=by omega
   have HX:=GH (AF0 hp);have HE:=GH (CN9 ps k p);have HAl:=GH (GI wr (FW #[I0 p.id,I0 p.ep,FV p.a p.ts.length p.c,I0 p.dn] 48));have HP:=GH (YN.new wr p);have HC:=GH (fun W (hW:B0 w W) (hP:YN W wr.heap.size p)=>CA6 _ (ps.take k) p wr.heap.size W (BR3 ((G9 HV).next hW) k (by omega)) hP (by simp;omega));have hcap2:k<=vc:=by omega
   clear q hp hb;obtain⟨id,ep,pa,pc,ts,dn⟩:=p;simp only at*;go_wp2_with fail;refine(G9 HC _ (GK (G9 hB) (G9 HAl)) (G9 HP)).mono ?_;rintro e w2 ⟨rfl,hb2⟩;have P2:=(G9 HP).next hb2;have c0:=P2.c0;have c1:=P2.c1;have HB2:=GH (GK (GK (G9 hB) (G9 HAl)) hb2);clear P2 hb2 HC HAl HP d0 d1 d2 d3
   cases hA:(ps.take k).any (fun q=>q.id==id)
   .rw[hA]at HE;simp only at c0 c1;by_cases h1:id<0
    .have HR:=GH (xX (G9 HA) (G9 HI) (G9 HX) (by rw[G9 HE];simp[h1]));rw[G9 HE]at HR;have HR2:Hid (E=3):=GH (by rw[G9 HR];simp[h1]);clear hA;go_wp2_with fail;go_ret;rw[G9 HR2];exact⟨rfl,G9 HB2⟩
    .by_cases h2:id>=3
     .have HR:=GH (xX (G9 HA) (G9 HI) (G9 HX) (by rw[G9 HE];simp[h2]));rw[G9 HE]at HR;have HR2:Hid (E=3):=GH (by rw[G9 HR];simp[h2]);clear hA;go_wp2_with fail;go_ret;rw[G9 HR2];exact⟨rfl,G9 HB2⟩
     .by_cases h3:ep<0
      .have HR:=GH (xX (G9 HA) (G9 HI) (G9 HX) (by rw[G9 HE];simp[h3]));rw[G9 HE]at HR;have HR2:Hid (E=3):=GH (by rw[G9 HR];simp[h3]);clear hA;go_wp2_with fail;go_ret;rw[G9 HR2];exact⟨rfl,G9 HB2⟩
      .by_cases h4:ep>2147483647
       .have h4':2147483647<ep:=h4;have HR:=GH (xX (G9 HA) (G9 HI) (G9 HX) (by rw[G9 HE];simp[h4']));rw[G9 HE]at HR;have HR2:Hid (E=3):=GH (by rw[G9 HR];simp[h4']);clear hA;go_wp2_with fail;go_ret;rw[G9 HR2];exact⟨rfl,G9 HB2⟩
       .have HZ:Hid (AD2 ((ps.map kk).take k) (kk ⟨id,ep,pa,pc,ts,dn⟩)=0):=GH (by rw[G9 HE];simp;omega);have HI2:Hid (∀i q,i<k+1->(ps.map kk)[i]?=G8 q->AD2 ((ps.map kk).take i) q=0):=GH (fun i q hi hq=>by
         by_cases e:i=k
         .subst e;rw[G9 HX]at hq
          cases hq
          exact G9 HZ
         .exact G9 HI i q (by omega) hq)
        clear hA;go_wp2_with fail
        go_roundg (ps.length-(k+1))
        case measure=>omega
        case rel=>exact⟨k+1,rfl,by omega,AA _,HI2,HB2⟩
   .rw[hA]at HE;have HR:=GH (xX (G9 HA) (G9 HI) (G9 HX) (by rw[G9 HE];simp));rw[G9 HE]at HR;have HR2:Hid (E=8):=GH (by rw[G9 HR];simp);clear hA;go_wp2_with fail;go_ret;rw[G9 HR2];exact⟨rfl,G9 HB2⟩
  .obtain rfl:k=ps.length:=by omega
   have hki:¬ ((ps.length:Int)<(ps.length:Int)):=by omega
   have HR:=GH (C76 (G9 HA) (by rw[EJ];exact G9 HI));go_wp2_with fail;go_ret;rw[G9 HR];exact⟨rfl,G9 hB⟩
theorem AP7(v:FZ)(ps:List Pe)(w:FX)(hv:IV w v ps)(hL:rU w ps)(hl:ps.length<=140737488355328):
  G5 prog 96 #[v] w (R0 w (I0 (WJ (ps.map kk)))):=by
 have HV:=GH hv;have HL:=GH hL;obtain⟨va,vc,rfl⟩:=GU hv;clear hv hL;go_enter func96,ntmps96;go_wp2_with fail
 go_loopg [3,8] ps.length (fun kx s3 s8 wr=>∃ (k:Nat) (m:Int),s3=I0 m/\s8=I0 k/\k<=ps.length/\ps.length-k<=kx/\Hid (WJ ((ps.map kk).take k)=m)/\Hid (B0 w wr))
 case atStart=>exact⟨0,0,rfl,rfl,AZ _,AA _,GH rfl,GH (AB _ _)⟩
 case round=>
  obtain⟨k,m,rfl,rfl,hk,hg,HM,hB⟩:=hrel;by_cases hlt:k<ps.length
  .obtain⟨p,hp⟩:∃p,ps[k]?=G8 p:=⟨_,AO hlt⟩;obtain⟨b,off,cap,he,hb,q,_,hcap,_⟩:=oW ((G9 HV).next (G9 hB)) hp;simp only[AQ]at he;obtain⟨rfl,_,rfl⟩:=he;have d0:=q.pe0 hp;have d1:=q.pe1 hp;have d2:=q.pe2 hp;have d3:=q.pe3 hp;have hkk:(k:Int)<(ps.length:Int):=by omega
   have HN:Hid (WJ ((ps.map kk).take (k+1))=max (max m p.ep) (J6 (J7 p.ts))):=GH (by rw[QH (AF0 hp),B64,G9 HM];rfl);have HAl:=GH (GI wr (FW #[I0 p.id,I0 p.ep,FV p.a p.ts.length p.c,I0 p.dn] 48));have HP:=GH (YN.new wr p);have HC:=GH (fun W (hW:B0 w W)=>SH p.log p.ts W ((G9 HL p (BA hp)).next hW));clear q hp hb;obtain⟨id,ep,pa,pc,ts,dn⟩:=p;simp only[Pe.log]at*;generalize J7 ts=z at*;go_upto_region 5 with fail;obtain⟨W1,hW1⟩:∃W1,W1=wr.alloc (FW #[I0 id,I0 ep,FV pa ts.length pc,I0 dn] 48):=⟨_,rfl⟩;rw[<-hW1]at HAl HP⊢;have e1:=(G9 HP).c1;have e2:=(G9 HP).c2;simp only at e1 e2;have HB1:=GH (GK (G9 hB) (G9 HAl));have HCN:=GH (fun n=>G9 HC (W1.drewN n) (fZ (G9 HB1)));clear hW1 HC HAl HP d0 d1 d2 d3;by_cases c1:m<ep
   .by_cases c2:ep<J6 z
    .go_quiet (first|(go_at_call 61;exact Calls.quiet_of_same (G9 HCN _))|(go_at_call 44;exact Calls.quiet_of_same (QG _ _)))
     go_wp2_with fail
     go_roundg (ps.length-(k+1))
     case measure=>omega
     case rel=>exact⟨k+1,J6 z,rfl,rfl,by omega,AA _,GH ((G9 HN).trans (by omega)),GH (fZ (G9 HB1))⟩
    .go_quiet (first|(go_at_call 61;exact Calls.quiet_of_same (G9 HCN _))|(go_at_call 44;exact Calls.quiet_of_same (QG _ _)))
     go_wp2_with fail
     go_roundg (ps.length-(k+1))
     case measure=>omega
     case rel=>exact⟨k+1,ep,rfl,rfl,by omega,AA _,GH ((G9 HN).trans (by omega)),GH (fZ (G9 HB1))⟩
   .by_cases c2:m<J6 z
    .go_quiet (first|(go_at_call 61;exact Calls.quiet_of_same (G9 HCN _))|(go_at_call 44;exact Calls.quiet_of_same (QG _ _)))
     go_wp2_with fail
     go_roundg (ps.length-(k+1))
     case measure=>omega
     case rel=>exact⟨k+1,J6 z,rfl,rfl,by omega,AA _,GH ((G9 HN).trans (by omega)),GH (fZ (G9 HB1))⟩
    .go_quiet (first|(go_at_call 61;exact Calls.quiet_of_same (G9 HCN _))|(go_at_call 44;exact Calls.quiet_of_same (QG _ _)))
     go_wp2_with fail
     go_roundg (ps.length-(k+1))
     case measure=>omega
     case rel=>exact⟨k+1,m,rfl,rfl,by omega,AA _,GH ((G9 HN).trans (by omega)),GH (fZ (G9 HB1))⟩
  .obtain rfl:k=ps.length:=by omega
   have hki:¬ ((ps.length:Int)<(ps.length:Int)):=by omega
   have HR:Hid (WJ (ps.map kk)=m):=GH (by
    have:=G9 HM;rwa[show (ps.map kk).take ps.length=ps.map kk by rw[List.take_of_length_le (by simp)]]at this)
   go_wp2_with fail;go_ret;rw[G9 HR];exact⟨rfl,G9 hB⟩
theorem CO0(p q:Pe):decide (0<orI (AE9 (J7 p.ts) (J7 q.ts)) (AE9 p.id q.id))=bet (kk p) (kk q):=by
 unfold orI AE9 bet kk;simp only;by_cases h1:J7 p.ts<J7 q.ts
 .have h2:¬J7 q.ts<J7 p.ts:=by omega
  have h3:¬J7 p.ts=J7 q.ts:=by omega
  simp[h1,h2,h3]
 .by_cases h2:J7 q.ts<J7 p.ts
  .simp[h1,h2]
  .have h3:J7 p.ts=J7 q.ts:=by omega
   rw[h3];by_cases h4:p.id<q.id
   .have h5:¬q.id<p.id:=by omega
    simp[h4,h5]
   .by_cases h5:q.id<p.id
    .simp[h4,h5]
    .simp[h4,h5]
theorem A53(v:FZ)(ps:List Pe)(w:FX)(hv:IV w v ps)(hL:rU w ps)(hl:ps.length<=140737488355328):
  G5 prog 97 #[v] w (R0 w (I0 (MN (ps.map kk) ps.length))):=by
 have HV:=GH hv;have HL:=GH hL;obtain⟨va,vc,rfl⟩:=GU hv;clear hv hL;go_enter func97,ntmps97;go_wp2_with fail
 go_loopg [3,8] ps.length (fun kx s3 s8 wr=>∃ (k m:Nat),s3=I0 m/\s8=I0 k/\k<=ps.length/\ps.length-k<=kx/\Hid (MN (ps.map kk) k=m)/\Hid (B0 w wr))
 case atStart=>exact⟨0,0,rfl,rfl,AZ _,AA _,GH rfl,GH (AB _ _)⟩
 case round=>
  obtain⟨k,m,rfl,rfl,hk,hg,HM,hB⟩:=hrel;by_cases hlt:k<ps.length
  .obtain⟨p,hp⟩:∃p,ps[k]?=G8 p:=⟨_,AO hlt⟩;have hm:m<ps.length:=by have:=XU (ps.map kk) k;rw[G9 HM]at this;omega
   obtain⟨r,hr⟩:∃r,ps[m]?=G8 r:=⟨_,AO hm⟩;obtain⟨b,off,cap,he,hb,q,_,hcap,_⟩:=oW ((G9 HV).next (G9 hB)) hp;simp only[AQ]at he;obtain⟨rfl,_,rfl⟩:=he;have d0:=q.pe0 hp;have d1:=q.pe1 hp;have d2:=q.pe2 hp;have d3:=q.pe3 hp;have hkk:(k:Int)<(ps.length:Int):=by omega
   have hmm:(m:Int)<(ps.length:Int):=by omega
   have HN:Hid (MN (ps.map kk) (k+1)=if bet (kk p) (kk r)=true then k else m):=GH (by rw[A44 (AF0 hp) (by rw[G9 HM];exact AF0 hr),G9 HM]);have HAl:=GH (GI wr (FW #[I0 p.id,I0 p.ep,FV p.a p.ts.length p.c,I0 p.dn] 48));have HP:=GH (YN.new wr p);have HC:=GH (fun W (hW:B0 w W)=>A52 p r W ((G9 HL p (BA hp)).next hW) ((G9 HL r (BA hr)).next hW));have CT4:=GH (CO0 p r);have HRW:Hid (∀W,B0 wr W->W.cell? ⟨b,off+m*4,G6⟩=G8 (I0 r.id)/\W.cell? ⟨b,off+m*4+1,G6⟩=G8 (I0 r.ep)/\W.cell? ⟨b,off+m*4+2,G6⟩=G8 (FV r.a r.ts.length r.c)/\W.cell? ⟨b,off+m*4+3,G6⟩=G8 (I0 r.dn)):=GH (fun W hW=>by
    have q':=q.kept hW hb;exact⟨q'.pe0 hr,q'.pe1 hr,q'.pe2 hr,q'.pe3 hr⟩)
   clear q hp hb hr;generalize bet (kk p) (kk r)=B at*;unfold peV at HC;obtain⟨id,ep,pa,pc,ts,dn⟩:=p;obtain⟨jd,eq,qa,qc,us,dm⟩:=r;simp only at*;generalize orI (AE9 (J7 ts) (J7 us)) (AE9 id jd)=R at*;go_upto_region 5 with fail;obtain⟨W1,hW1⟩:∃W1,W1=wr.alloc (FW #[I0 id,I0 ep,FV pa ts.length pc,I0 dn] 48):=⟨_,rfl⟩;rw[<-hW1]at HAl HP⊢;have e0:=(G9 HP).c0;have e1:=(G9 HP).c1;have e2:=(G9 HP).c2;have e3:=(G9 HP).c3;simp only at e0 e1 e2 e3;obtain⟨f0,f1,f2,f3⟩:=G9 HRW W1 (G9 HAl);have HB1:=GH (GK (G9 hB) (G9 HAl));have hbw:b<W1.heap.size:=World.block_lt_of_cell? _ _ f0;have hpw:=(G9 HP).lt;clear hW1 HAl HP d0 d1 d2 d3 HRW;have c0':=fun d os=>Calls.regrown_of (w:=W1) (d:=d) (os:=os) (G9 HC _ (GK (G9 HB1) (below_regrown W1 d os)));have g0:=fun d os=>cell_regrown e0 d os;have g1:=fun d os=>cell_regrown e1 d os;have g2:=fun d os=>cell_regrown e2 d os;have g3:=fun d os=>cell_regrown e3 d os;have r0:=fun d os=>cell_regrown f0 d os;have r1:=fun d os=>cell_regrown f1 d os;have r2:=fun d os=>cell_regrown f2 d os;have r3:=fun d os=>cell_regrown f3 d os;clear e0 e1 e2 e3 f0 f1 f2 f3 HC;refine wp_region_quiet_below (by kernel_rfl) (by kernel_rfl) ?_
   repeat (first|go_big_quiet_step (with_reducible exact c0' _ _)|quiet_step (with_reducible exact c0' _ _))
   refine wpQuiet_nil ?_;intro _ hw';obtain⟨⟨dq,osq⟩,hw''⟩:=hw';subst hw'';have HB2:=GH (GK (G9 HB1) (below_regrown W1 dq osq));clear c0' g0 g1 g2 g3 r0 r1 r2 r3;generalize Go.Sort.grow (redrawn W1 dq) osq=W2 at*
   cases B
   .have hR:¬R>0:=by have:=G9 CT4;simp at this;omega
    have HN2:Hid (MN (ps.map kk) (k+1)=m):=GH (by rw[G9 HN];simp);clear CT4 HN;go_wp2_with fail
    go_roundg (ps.length-(k+1))
    case measure=>omega
    case rel=>exact⟨k+1,m,rfl,rfl,by omega,AA _,HN2,HB2⟩
   .have hR:R>0:=by have:=G9 CT4;simp at this;omega
    have HN2:Hid (MN (ps.map kk) (k+1)=k):=GH (by rw[G9 HN];simp);clear CT4 HN;go_wp2_with fail
    go_roundg (ps.length-(k+1))
    case measure=>omega
    case rel=>exact⟨k+1,k,rfl,rfl,by omega,AA _,HN2,HB2⟩
  .obtain rfl:k=ps.length:=by omega
   have hki:¬ ((ps.length:Int)<(ps.length:Int)):=by omega
   go_wp2_with fail;go_ret;rw[G9 HM];exact⟨rfl,G9 hB⟩
theorem fD(w:FX):G5 prog 48 #[] w fun e w'=>e=.returned (I0 2)/\w'=w:=by
 go_enter func48,ntmps48;go_wp2_with fail;go_ret;exact⟨rfl,rfl⟩
theorem BR5{ks:List Key}(h:BY2 ks 0):0<=WJ ks/\WJ ks<=2147483647:=
 ⟨kY ks,B65 2147483647 (by decide) fun k hk=>by
  obtain⟨i,hi⟩:=List.getElem?_of_mem hk;have:=h.ok hi;have:=B66 k.2.2;omega⟩
theorem yI(v:FZ)(ps:List Pe)(w:FX)(k n E:Int)(hv:IV w v ps)(hL:rU w ps)(hA:CW0 (ps.map kk) k n E)(hl:ps.length<=140737488355328):
  G5 prog 58 #[v] w (R0 w (.tuple #[I0 k,I0 n,I0 E])):=by
 obtain⟨A,hA,hR⟩:=hA;have CA:=yH v ps w A hv hA hl;have CN:=GH (fun W (hW:B0 w W)=>AP7 v ps W (hv.next hW) (hL.next hW) hl);have CL:=GH (fun W (hW:B0 w W)=>A53 v ps W (hv.next hW) (hL.next hW) hl);have HN:=GH (fun h:A=0=>BR5 (ks:=ps.map kk) (by rw[h]at hA;exact hA));rw[EJ]at hR;obtain⟨va,vc,rfl⟩:=GU hv;clear hv hL hA;generalize WJ (ps.map kk)=N at*;generalize MN (ps.map kk) ps.length=L at*;rcases hR with⟨h0,rfl,rfl,rfl⟩|⟨rfl,⟨h1,rfl,rfl,rfl⟩|⟨h1,⟨h2,rfl,rfl,rfl⟩|⟨h2,rfl,rfl,rfl⟩⟩⟩
 .go_enter func58,ntmps58;go_wp2_with fail;refine CA.mono ?_;rintro e w1 ⟨rfl,hb1⟩;have HB:=GH hb1;clear CA hb1;go_wp2_with fail
  go_ret3
  exact⟨rfl,G9 HB⟩
 all_goals
  obtain⟨n0,n1⟩:=G9 HN rfl;go_enter func58,ntmps58;go_wp2_with fail;refine CA.mono ?_;rintro e w1 ⟨rfl,hb1⟩;have HB:=GH hb1;clear CA hb1;go_wp2_with fail;refine(fD _).mono ?_;rintro e w2 ⟨rfl,rfl⟩
 .have h1':(ps.length:Int)<2:=by omega
  go_wp2_with fail
  go_ret3
  exact⟨rfl,G9 HB⟩
 .have h1':¬ (ps.length:Int)<2:=by omega
  have h2':N+1>2147483647:=by omega
  go_wp2_with fail;refine(G9 CN _ (G9 HB)).mono ?_;rintro e w3 ⟨rfl,hb3⟩;have HB3:=GH (GK (G9 HB) hb3);clear hb3;go_wp2_with fail
  go_ret3
  exact⟨rfl,G9 HB3⟩
 .have h1':¬ (ps.length:Int)<2:=by omega
  have h2':¬N+1>2147483647:=by omega
  go_wp2_with fail;refine(G9 CN _ (G9 HB)).mono ?_;rintro e w3 ⟨rfl,hb3⟩;have HB3:=GH (GK (G9 HB) hb3);clear hb3;go_wp2_with fail;refine(G9 CL _ (G9 HB3)).mono ?_;rintro e w4 ⟨rfl,hb4⟩;have HB4:=GH (GK (G9 HB3) hb4);clear hb4;go_wp2_with fail
  go_ret3
  exact⟨rfl,G9 HB4⟩
