/-
  Part.
-/
import Derived.Test.YtppjdeblncincaaGreatDoorLOU
set_option maxRecDepth 20000
set_option maxHeartbeats 8000000
namespace Go.Proofs.YtppjdeblncincaaGreatDoor
open Go.RowKit Go.Proofs.Tryz
open _root_.Nat renaming le_refl->A8,zero_le->AZ,add_assoc->EK
open Go.RowKit.Below renaming refl->AA
open _root_.List renaming getElem?_eq_getElem->AO,getElem?_eq_some_iff->AV,mem_of_getElem?->BA,length_map->EI
open Go.Value.slice renaming injEq->AQ
open Go.World renaming cell?->AX
open Go.Value renaming slice->FU
open Go.Obj renaming cells->FV
open Go renaming World->FW,Value->FX,Calls->FZ
open _root_.Option renaming none->G5,some->G6
variable{n i b off g:Nat}{α:Type}{w W:FW}
abbrev Key:=Int×Int×Int
def AC8(pre:List Key)(k:Key):Int:=
 if pre.any (fun q=>q.1==k.1)=true then 8 else if k.1<0\/3<=k.1 then 3 else if k.2.1<0\/2147483647<k.2.1 then 3 else 0
def BY5(ks:List Key)(E:Int):Prop:=
 (E=0/\∀i k,ks[i]?=G6 k->AC8 (ks.take i) k=0)\/
 (E≠0/\∃n k,ks[n]?=G6 k/\AC8 (ks.take n) k=E/\∀i q,i<n->ks[i]?=G6 q->AC8 (ks.take i) q=0)
theorem xM{ks:List Key}{E:Int}(h:BY5 ks E)(hn:∀i q,i<n->ks[i]?=G6 q->AC8 (ks.take i) q=0){x:Key}(hx:ks[n]?=G6 x)(he:AC8 (ks.take n) x≠0):E=AC8 (ks.take n) x:=by
 rcases h with⟨_,h⟩|⟨h0,m,k,hk,e,h⟩
 .exact absurd (h n x hx) he
 .rcases Nat.lt_trichotomy m n with hl|hl|hl
  .exact absurd ((hn m k hl hk).symm.trans e).symm h0
  .subst hl;rw[hk]at hx
   cases hx
   exact e.symm
  .exact absurd (h n x hl hx) he
theorem C80{ks:List Key}{E:Int}(h:BY5 ks E)(hn:∀i q,i<ks.length->ks[i]?=G6 q->AC8 (ks.take i) q=0):E=0:=by
 rcases h with⟨h,_⟩|⟨h0,m,k,hk,e,_⟩
 .exact h
 .exact absurd ((hn m k (AV.1 hk).1 hk).symm.trans e).symm h0
def WI(ks:List Key):Int:=ks.foldl (fun a k=>max (max a k.2.1) (J4 k.2.2)) 0
theorem B66(ks:List Key)(k:Key):WI (ks++[k])=max (max (WI ks) k.2.1) (J4 k.2.2):=by simp[WI]
theorem Q8{l:List α}{k:Nat}{x:α}(h:l[k]?=G6 x):l.take (k+1)=l.take k++[x]:=by
 obtain⟨hk,rfl⟩:=AV.1 h;exact List.take_succ_eq_append_getElem hk
def bet(p q:Key):Bool:=decide (q.2.2<p.2.2)||(decide (p.2.2=q.2.2)&&decide (q.1<p.1))
def MI(ks:List Key):Nat->Nat
 |0=>0
 |n+1=>if bet (ks.getD n (0,0,0)) (ks.getD (MI ks n) (0,0,0))=true then n else MI ks n
theorem XT(ks:List Key):∀n,MI ks n<max n 1
 |0=>by simp[MI]
 |n+1=>by
  have:=XT ks n;unfold MI
  split<;>omega
theorem A41{ks:List Key}{p q:Key}(hp:ks[n]?=G6 p)(hq:ks[MI ks n]?=G6 q):MI ks (n+1)=if bet p q=true then n else MI ks n:=by
 rw[MI,List.getD_eq_getElem?_getD,List.getD_eq_getElem?_getD,hp,hq];rfl
def CW2(ks:List Key)(k n E:Int):Prop:=
 ∃A,BY5 ks A/\((A≠0/\k=0/\n=0/\E=A)\/(A=0/\((ks.length<2/\k=0/\n=0/\E=14)\/(2<=ks.length/\((2147483647<WI ks+1/\k=0/\n=0/\E=6)\/(WI ks+1<=2147483647/\k=MI ks ks.length/\n=WI ks+1/\E=0))))))
theorem BY5.ok{ks:List Key}(h:BY5 ks 0){k:Key}(hk:ks[i]?=G6 k):(∀q∈ks.take i,q.1≠k.1)/\0<=k.1/\k.1<3/\0<=k.2.1/\k.2.1<=2147483647:=by
 rcases h with⟨_,h⟩|⟨h,_⟩
 .have:=h i k hk;unfold AC8 at this;by_cases h1:(ks.take i).any (fun q=>q.1==k.1)=true
  .simp[h1]at this
  .by_cases h2:k.1<0\/3<=k.1
   .simp[h1,h2]at this
   .by_cases h3:k.2.1<0\/2147483647<k.2.1
    .simp[h1,h2,h3]at this
    .refine⟨fun q hq e=>h1 ?_,by omega,by omega,by omega,by omega⟩;exact List.any_eq_true.2 ⟨q,hq,by simp[e]⟩
 .exact absurd rfl h
theorem B67{ks:List Key}(M:Int)(h0:0<=M):(∀k∈ks,k.2.1<=M/\J4 k.2.2<=M)->WI ks<=M:=by
 have main:∀ (l:List Key) (a:Int),a<=M->(∀k∈l,k.2.1<=M/\J4 k.2.2<=M)->l.foldl (fun a k=>max (max a k.2.1) (J4 k.2.2)) a<=M:=by
  intro l
  induction l with
  |nil=>intro a ha _;exact ha
  |cons x r ih=>
   intro a ha h;have:=h x (by simp);exact ih (max (max a x.2.1) (J4 x.2.2)) (by omega) fun k hk=>h k (by simp[hk])
 exact main ks 0 h0
theorem C81{ks:List Key}{k:Key}(hk:k∈ks):k.2.1<=WI ks/\J4 k.2.2<=WI ks:=by
 have up:∀ (l:List Key) (a:Int),a<=l.foldl (fun a k=>max (max a k.2.1) (J4 k.2.2)) a:=by
  intro l
  induction l with
  |nil=>intro a;exact Int.le_refl _
  |cons x r ih=>intro a;exact Int.le_trans (show a<=max (max a x.2.1) (J4 x.2.2) by omega) (ih _)
 have main:∀ (l:List Key) (a:Int),k∈l->k.2.1<=l.foldl (fun a k=>max (max a k.2.1) (J4 k.2.2)) a/\J4 k.2.2<=l.foldl (fun a k=>max (max a k.2.1) (J4 k.2.2)) a:=by
  intro l
  induction l with
  |nil=>intro a h;simp at h
  |cons x r ih=>
   intro a h;rcases List.mem_cons.1 h with rfl|h
   .have:=up r (max (max a k.2.1) (J4 k.2.2));constructor
    .exact Int.le_trans (by omega) this
    .exact Int.le_trans (by omega) this
   .exact ih _ h
 exact main ks 0 hk
theorem B68(z:Int):0<=J4 z/\J4 z<=2147483647:=by
 cases hg:KN z with
 |false=>rw[tY hg];decide
 |true=>
  have:=LY.1 hg;rw[LZ hg];omega
theorem kY(ks:List Key):0<=WI ks:=by
 have up:∀ (l:List Key) (a:Int),a<=l.foldl (fun a k=>max (max a k.2.1) (J4 k.2.2)) a:=by
  intro l
  induction l with
  |nil=>intro a;exact Int.le_refl _
  |cons x r ih=>intro a;exact Int.le_trans (show a<=max (max a x.2.1) (J4 x.2.2) by omega) (ih _)
 exact up ks 0
structure Pe where
 id:Int
 ep:Int
 a:Option Addr
 c:Nat
 ts:List GN
 dn:Int
def pe0:Pe:=⟨0,0,G5,0,[],0⟩
def peV(p:Pe):FX:=.agg #[I0 p.id,I0 p.ep,FU p.a p.ts.length p.c,I0 p.dn]
def BY6(p:Pe):List FX:=[I0 p.id,I0 p.ep,FU p.a p.ts.length p.c,I0 p.dn]
instance layP:Lay Pe:=⟨4,BY6,33,fun _=>rfl,fun x u hu=>by simp[BY6]at hu;rcases hu with rfl|rfl|rfl|rfl<;>rfl⟩
structure Lg where
 a:Option Addr
 c:Nat
 ts:List GN
def lgV(l:Lg):FX:=FU l.a l.ts.length l.c
instance layG:Lay Lg:=⟨1,fun l=>[lgV l],31,fun _=>rfl,fun x u hu=>by simp at hu;subst hu;rfl⟩
def Pe.log(p:Pe):FX:=FU p.a p.ts.length p.c
def rO(w:FW)(ps:List Pe):Prop:=∀p∈ps,NC w p.log p.ts
theorem rO.next{w':FW}{ps:List Pe}(h:rO w ps)(hb:B0 w w'):rO w' ps:=fun p hp=>(h p hp).next hb
theorem IC.pe0{xs:List Pe}(h:IC w b off (GI xs)){x:Pe}(hi:xs[i]?=G6 x):w.cell? ⟨b,off+i*4,G5⟩=G6 (I0 x.id):=
 h (i*4) _ (GY xs i x hi 0 (by decide))
theorem IC.pe1{xs:List Pe}(h:IC w b off (GI xs)){x:Pe}(hi:xs[i]?=G6 x):w.cell? ⟨b,off+i*4+1,G5⟩=G6 (I0 x.ep):=by
 rw[EK];exact h (i*4+1) _ (GY xs i x hi 1 (by decide))
theorem IC.pe2{xs:List Pe}(h:IC w b off (GI xs)){x:Pe}(hi:xs[i]?=G6 x):w.cell? ⟨b,off+i*4+2,G5⟩=G6 (FU x.a x.ts.length x.c):=by
 rw[EK];exact h (i*4+2) _ (GY xs i x hi 2 (by decide))
theorem IC.pe3{xs:List Pe}(h:IC w b off (GI xs)){x:Pe}(hi:xs[i]?=G6 x):w.cell? ⟨b,off+i*4+3,G5⟩=G6 (I0 x.dn):=by
 rw[EK];exact h (i*4+3) _ (GY xs i x hi 3 (by decide))
def YO(W:FW)(g:Nat)(p:Pe):Prop:=W.heap[g]?=G6 (FV #[I0 p.id,I0 p.ep,FU p.a p.ts.length p.c,I0 p.dn] 33 (0,0))
theorem YO.new(W:FW)(p:Pe):YO (W.alloc (FV #[I0 p.id,I0 p.ep,FU p.a p.ts.length p.c,I0 p.dn] 33)) W.heap.size p:=heap_alloc_new W _
theorem YO.next{V:FW}{p:Pe}(h:YO W g p)(hb:B0 W V):YO V g p:=(hb.block g (by unfold YO at h;exact(Array.getElem?_eq_some_iff.1 h).1)).trans h
theorem YO.lt{p:Pe}(h:YO W g p):g<W.heap.size:=by unfold YO at h;exact(Array.getElem?_eq_some_iff.1 h).1
theorem YO.c0{p:Pe}(h:YO W g p):W.cell? ⟨g,0,G5⟩=G6 (I0 p.id):=by unfold YO at h;simp[AX,h]
theorem YO.c1{p:Pe}(h:YO W g p):W.cell? ⟨g,1,G5⟩=G6 (I0 p.ep):=by unfold YO at h;simp[AX,h]
theorem YO.c2{p:Pe}(h:YO W g p):W.cell? ⟨g,2,G5⟩=G6 (FU p.a p.ts.length p.c):=by unfold YO at h;simp[AX,h]
theorem YO.c3{p:Pe}(h:YO W g p):W.cell? ⟨g,3,G5⟩=G6 (I0 p.dn):=by unfold YO at h;simp[AX,h]
theorem CM0:(prog.info? 33).map (fun i=>(i.zero,i.size,i.bytes))=G6 (G6 (peV pe0),4,48):=by kernel_rfl
theorem CW3:∃i0,prog.info? 33=G6 i0/\i0.zero=G6 (peV pe0)/\i0.size=4/\i0.bytes=48:=by
 obtain⟨i0,h,e⟩:=Option.map_eq_some_iff.1 CM0;simp only[Prod.mk.injEq]at e;exact⟨i0,h,e⟩
theorem fU{B:Nat}{a:FW}(h:Below B a w):Below B a (w.drewN n):=⟨h.os,h.tape,h.output,h.size,h.block⟩
theorem oW[Lay α]{v:FX}{xs:List α}(hv:IL w v xs){x:α}(hi:xs[i]?=G6 x):
  ∃b off cap,v=FU (G6 ⟨b,off,G5⟩) xs.length cap/\b<w.heap.size/\IC w b off (GI xs)/\i<xs.length/\xs.length<=cap/\cap<=maxLen:=by
 obtain⟨hi',_⟩:=AV.1 hi;obtain⟨b,off,cap,e,hb,hr,h1,h2⟩:=MV hv (fun h0=>by rw[h0]at hi';simp at hi');exact⟨b,off,cap,e,hb,hr,hi',h1,h2⟩
def nxN(ep z:Int):Int:=if ep<=J4 z then iW z else if NT ep 0=0 then iW (KY ep 0)else 0
def nxE(ep z:Int):Int:=if ep<=J4 z then WL z else if NT ep 0=0 then WL (KY ep 0)else NT ep 0
theorem BQ0(p:Pe)(w:FW)(hp:NC w p.log p.ts):
  FZ prog 76 #[peV p] w (R0 w (.tuple #[I0 (nxN p.ep (J5 p.ts)),I0 (nxE p.ep (J5 p.ts))])):=by
 have CL:=fun W (h:B0 w W)=>RX p.log p.ts W (hp.next h);have B0:=G9 w (FV #[I0 p.id,I0 p.ep,FU p.a p.ts.length p.c,I0 p.dn] 33);have P0:=YO.new w p;have C0:=CL _ B0;have HP:=G8 P0;have d2:=P0.c2;have HB:=G8 B0;clear CL P0 B0 hp;obtain⟨i,ep,a,c,ts,dn⟩:=p;simp only[Pe.log]at*;unfold peV;simp only;generalize J5 ts=z at*;have HE:=G8 (show (J4 z>=ep->nxN ep z=iW z/\nxE ep z=WL z)/\(¬J4 z>=ep->(NT ep 0=0->nxN ep z=iW (KY ep 0)/\nxE ep z=WL (KY ep 0))/\(NT ep 0≠0->nxN ep z=0/\nxE ep z=NT ep 0))from
  ⟨fun h=>by simp[nxN,nxE,h],fun h=>⟨fun k=>by simp[nxN,nxE,h,k],fun k=>by simp[nxN,nxE,h,k]⟩⟩)
 generalize nxN ep z=R at*;generalize nxE ep z=E at*;go_enter func76,ntmps76;go_wp2_with fail;refine C0.mono ?_;rintro e w1 ⟨rfl,hb1⟩;have HB1:Hid (B0 w w1):=G8 (GH (G7 HB) (by rw[hb1];exact AA _ _));have d1:w1.cell? ⟨w.heap.size,1,G5⟩=G6 (I0 ep):=((G7 HP).next (by rw[hb1];exact AA _ _)).c1;clear hb1;go_wp2_with fail
 go_quiet ((go_at_call 75;exact Calls.quiet_of_same (PZ _ _)))
 by_cases h1:J4 z>=ep
 .have HR:=G8 ((G7 HE).1 h1);go_wp2_with fail;refine(xO _ _).mono ?_;rintro e w2 ⟨rfl,rfl⟩;go_wp2_with fail
  go_ret2
  rw[(G7 HR).1,(G7 HR).2];exact⟨rfl,fU (G7 HB1)⟩
 .have HS:=G8 ((G7 HE).2 (by simpa using h1));go_wp2_with fail;refine(UN _ _ _).mono ?_;rintro e w2 ⟨rfl,rfl⟩;by_cases h2:NT ep 0=0
  .have HR:=G8 ((G7 HS).1 h2);go_wp2_with fail;refine(xO _ _).mono ?_;rintro e w3 ⟨rfl,rfl⟩;go_wp2_with fail
   go_ret2
   rw[(G7 HR).1,(G7 HR).2];exact⟨rfl,fU (G7 HB1)⟩
  .have HR:=G8 ((G7 HS).2 h2);go_wp2_with fail
   go_ret2
   rw[(G7 HR).1,(G7 HR).2];exact⟨rfl,fU (G7 HB1)⟩
def AE8(x y:Int):Int:=if x<y then -1 else if y<x then 1 else 0
theorem fB(x:Int)(w:FW):FZ prog 210 #[I0 x] w fun e w'=>e=.returned (.bool false)/\w'=w:=by
 go_enter func210,ntmps210;go_wp2_with fail;go_ret;exact⟨rfl,rfl⟩
theorem CA9(x y:Int)(w:FW):FZ prog 186 #[I0 x,I0 y] w fun e w'=>e=.returned (I0 (AE8 x y))/\w'=w:=by
 by_cases h:x<y
 .have e:AE8 x y=-1:=by simp[AE8,h]
  rw[e];clear e;go_enter func186,ntmps186;go_wp2_with fail;refine(fB _ _).mono ?_;rintro e w1 ⟨rfl,rfl⟩;go_wp2_with fail;refine(fB _ _).mono ?_;rintro e w1 ⟨rfl,rfl⟩;go_wp2_with fail;go_ret;exact⟨rfl,rfl⟩
 .by_cases h2:y<x
  .have e:AE8 x y=1:=by simp[AE8,h,h2]
   rw[e];clear e;go_enter func186,ntmps186;go_wp2_with fail;refine(fB _ _).mono ?_;rintro e w1 ⟨rfl,rfl⟩;go_wp2_with fail;refine(fB _ _).mono ?_;rintro e w1 ⟨rfl,rfl⟩;go_wp2_with fail;go_ret;exact⟨rfl,rfl⟩
  .have e:AE8 x y=0:=by simp[AE8,h,h2]
   rw[e];clear e;go_enter func186,ntmps186;go_wp2_with fail;refine(fB _ _).mono ?_;rintro e w1 ⟨rfl,rfl⟩;go_wp2_with fail;refine(fB _ _).mono ?_;rintro e w1 ⟨rfl,rfl⟩;go_wp2_with fail;go_ret;exact⟨rfl,rfl⟩
def orI(x y:Int):Int:=if x=0 then y else x
theorem CN6(g:Nat)(x y:Int)(w:FW)(h0:w.cell? ⟨g,0,G5⟩=G6 (I0 x))(h1:w.cell? ⟨g,1,G5⟩=G6 (I0 y)):
  FZ prog 185 #[FU (G6 ⟨g,0,G5⟩) 2 2] w fun e w'=>e=.returned (I0 (orI x y))/\w'=w:=by
 go_enter func185,ntmps185;go_wp2_with fail
 go_loopg [8] 2 (fun kx s8 wr=>∃k:Nat,s8=I0 k/\k<=2/\2-k<=kx/\wr=w/\(k=0\/k=1/\x=0\/k=2/\x=0/\y=0))
 case atStart=>exact⟨0,rfl,by omega,by omega,rfl,.inl rfl⟩
 case round=>
  obtain⟨k,rfl,hk,hkx,rfl,h⟩:=hrel;rcases h with rfl|⟨rfl,hx⟩|⟨rfl,hx,hy⟩
  .by_cases hx:x=0
   .go_wp2_with fail
    go_roundg 1
    case measure=>omega
    case rel=>exact⟨1,rfl,by omega,by omega,rfl,.inr (.inl ⟨rfl,hx⟩)⟩
   .have e:orI x y=x:=by simp[orI,hx]
    have HE:=G8 e;clear e;go_wp2_with fail;go_ret;rw[G7 HE];exact⟨rfl,rfl⟩
  .by_cases hy:y=0
   .go_wp2_with fail
    go_roundg 0
    case measure=>omega
    case rel=>exact⟨2,rfl,by omega,by omega,rfl,.inr (.inr ⟨rfl,hx,hy⟩)⟩
   .have e:orI x y=y:=by simp[orI,hx]
    have HE:=G8 e;clear e;go_wp2_with fail;go_ret;rw[G7 HE];exact⟨rfl,rfl⟩
  .have e:orI x y=0:=by simp[orI,hx,hy]
   have HE:=G8 e;clear e;go_wp2_with fail;go_ret;rw[G7 HE];exact⟨rfl,rfl⟩
theorem A51(p q:Pe)(w:FW)(hp:NC w p.log p.ts)(hq:NC w q.log q.ts):
  FZ prog 134 #[peV p,peV q] w (R0 w (I0 (orI (AE8 (J5 p.ts) (J5 q.ts)) (AE8 p.id q.id)))):=by
 obtain⟨W0,hW0⟩:∃W0,W0=(w.alloc (FV #[I0 p.id,I0 p.ep,FU p.a p.ts.length p.c,I0 p.dn] 33)).alloc (FV #[I0 q.id,I0 q.ep,FU q.a q.ts.length q.c,I0 q.dn] 33):=⟨_,rfl⟩;have B0:B0 w W0:=by rw[hW0];exact GH (G9 _ _) (G9 _ _)
 have P0:YO W0 w.heap.size p:=by rw[hW0];exact(YO.new w p).next (G9 _ _)
 have Q0:YO W0 (w.heap.size+1) q:=by
  rw[hW0];have:=YO.new (w.alloc (FV #[I0 p.id,I0 p.ep,FU p.a p.ts.length p.c,I0 p.dn] 33)) q;simpa using this
 have CP:=G8 (fun W (h:W=W0.drew)=>RX p.log p.ts W (by rw[h];exact(hp.next B0).drew));have CQ:=G8 (fun W (h:W=W0.drew)=>RX q.log q.ts W (by rw[h];exact(hq.next B0).drew));have p0:=P0.c0;have p2:=P0.c2;have q0:=Q0.c0;have q2:=Q0.c2;have HB:=G8 B0;have hlt:=Q0.lt;clear B0 P0 Q0 hp hq;obtain⟨i,ep,a,c,ts,dn⟩:=p;obtain⟨j,eq,b,d,us,dm⟩:=q;simp only[Pe.log]at*;unfold peV;simp only;generalize J5 ts=z at*;generalize J5 us=y at*;go_enter func134,ntmps134;go_upto_region 1 with fail;rw[<-hW0];clear hW0;have KO:Hid (∀x y:Int,(W0.alloc (FV #[I0 x,I0 y] 3)).drew.cell? ⟨W0.heap.size,0,G5⟩=G6 (I0 x)/\(W0.alloc (FV #[I0 x,I0 y] 3)).drew.cell? ⟨W0.heap.size,1,G5⟩=G6 (I0 y)):=G8 (fun x y=>by
  have h:=heap_alloc_new W0 (FV #[I0 x,I0 y] 3);show (W0.alloc (FV #[I0 x,I0 y] 3)).cell? ⟨W0.heap.size,0,G5⟩=G6 (I0 x)/\(W0.alloc (FV #[I0 x,I0 y] 3)).cell? ⟨W0.heap.size,1,G5⟩=G6 (I0 y);unfold AX;rw[h];exact⟨rfl,rfl⟩)
 have HBO:Hid (∀o:Obj,B0 w (W0.alloc o).drew):=G8 (fun o=>(GH (G7 HB) (G9 _ _)).drew);have K:Hid (∀W,W=W0.drew->W.cell? ⟨w.heap.size,0,G5⟩=G6 (I0 i)/\W.cell? ⟨w.heap.size,2,G5⟩=G6 (FU a ts.length c)/\W.cell? ⟨w.heap.size+1,0,G5⟩=G6 (I0 j)/\W.cell? ⟨w.heap.size+1,2,G5⟩=G6 (FU b us.length d)):=G8 (fun W h=>by rw[h];exact⟨p0,p2,q0,q2⟩);have KA:Hid (∀o:Obj,(W0.alloc o).drew.cell? ⟨w.heap.size,0,G5⟩=G6 (I0 i)/\(W0.alloc o).drew.cell? ⟨w.heap.size,2,G5⟩=G6 (FU a ts.length c)/\(W0.alloc o).drew.cell? ⟨w.heap.size+1,0,G5⟩=G6 (I0 j)/\(W0.alloc o).drew.cell? ⟨w.heap.size+1,2,G5⟩=G6 (FU b us.length d)):=G8 (fun o=>by
  have h:B0 W0 (W0.alloc o).drew:=(G9 W0 o).drew;exact⟨(h.cell (p:=⟨w.heap.size,0,G5⟩) (by simp only;omega)).trans p0,(h.cell (p:=⟨w.heap.size,2,G5⟩) (by simp only;omega)).trans p2,(h.cell (p:=⟨w.heap.size+1,0,G5⟩) (by simp only;omega)).trans q0,(h.cell (p:=⟨w.heap.size+1,2,G5⟩) (by simp only;omega)).trans q2⟩)
 have KZ:=G8 (And.intro p0 (And.intro p2 (And.intro q0 q2)))
 go_region_held3 (fun w'=>w'.cell? ⟨w.heap.size,0,G5⟩=G6 (I0 i)/\w'.cell? ⟨w.heap.size,2,G5⟩=G6 (FU a ts.length c)/\w'.cell? ⟨w.heap.size+1,0,G5⟩=G6 (I0 j)/\w'.cell? ⟨w.heap.size+1,2,G5⟩=G6 (FU b us.length d)) (first|with_reducible exact G7 KZ|with_reducible exact G7 K _ rfl|with_reducible exact G7 KA _) (first
  |(go_at_call 67;first|(with_reducible refine(G7 CP _ rfl).mono ?_;rintro e w1 ⟨rfl,rfl⟩)|(with_reducible refine(G7 CQ _ rfl).mono ?_;rintro e w1 ⟨rfl,rfl⟩))
  |(go_at_call 186;refine(CA9 _ _ _).mono ?_;rintro e w1 ⟨rfl,rfl⟩)
  |(go_at_call 185;refine(CN6 _ _ _ _ (G7 KO _ _).1 (G7 KO _ _).2).mono ?_;rintro e w1 ⟨rfl,rfl⟩))
 all_goals go_wp2_with fail
 all_goals go_ret
 all_goals exact⟨rfl,G7 HBO _⟩
def kk(p:Pe):Key:=(p.id,p.ep,J5 p.ts)
theorem AE9{ps:List Pe}{p:Pe}(h:ps[i]?=G6 p):(ps.map kk)[i]?=G6 (kk p):=by rw[List.getElem?_map,h];rfl
theorem CB0(ps:List Pe)(i:Nat):(ps.map kk).take i=(ps.take i).map kk:=by rw[List.map_take]
theorem B96{i:Int}{b:Bool}(h:decide (0<=i)=b):Ending.returned (.bool (decide (0<=i)))=.returned (.bool b):=by rw[h]
theorem BS1[Lay α]{cap:Nat}{xs:List α}(h:IL w (FU (G6 ⟨b,off,G5⟩) n cap) xs)(k:Nat)(hk:k<=xs.length):IL w (FU (G6 ⟨b,off,G5⟩) k cap) (xs.take k):=by
 have hl:(xs.take k).length=k:=by simp;omega
 rcases h with⟨a,c,e,rfl,hm⟩|⟨b',off',cap',e,h1,h2,h3,h0,h4⟩
 .simp only[AQ]at e;obtain⟨_,_,rfl⟩:=e;simp only[List.length_nil,Nat.le_zero]at hk;subst hk;exact .inl ⟨_,_,rfl,rfl,hm⟩
 .simp only[AQ,Option.some.injEq,Addr.mk.injEq,and_true]at e;obtain⟨⟨rfl,rfl⟩,_,rfl⟩:=e;by_cases hz:k=0
  .subst hz;exact .inl ⟨_,_,rfl,by simp,h2⟩
  .refine .inr ⟨b,off,cap,by rw[hl],by omega,h2,h3,fun e=>by rw[e]at hl;simp at hl;omega,fun j u hj=>h4 j u ?_⟩;have e:GI xs=GI (xs.take k)++GI (xs.drop k):=by rw[<-I5,List.take_append_drop]
   rw[e,List.getElem?_append_left (AV.1 hj).1];exact hj
theorem BS2(q p:Pe)(g:Nat)(w:FW)(hp:YO w g p):
  FZ prog 132 #[peV q,P0 g] w (R0 w (.bool (q.id==p.id))):=by
 have B0:=G9 w (FV #[I0 q.id,I0 q.ep,FU q.a q.ts.length q.c,I0 q.dn] 33);have e0:=(hp.next B0).c0;have f0:=(YO.new w q).c0;have HB:=G8 B0;obtain⟨i,ep,a,c,ts,dn⟩:=q;obtain⟨j,eq,b,d,us,dm⟩:=p;simp only at*;clear hp B0;unfold peV;simp only;go_enter func132,ntmps132;go_wp2_with fail;go_ret;refine⟨?_,G7 HB⟩;by_cases h:i=j<;>simp[h]
theorem CB1(v:FX)(xs:List Pe)(p:Pe)(g:Nat)(w:FW)(hv:IL w v xs)(hp:YO w g p)(hl:xs.length<=140737488355328):
  FZ prog 184 #[v,.func (.func 132) #[] #[P0 g]] w fun e w'=>(∃i:Int,e=.returned (I0 i)/\decide (0<=i)=xs.any (fun q=>q.id==p.id))/\B0 w w':=by
 have HV:=G8 hv;have HP:=G8 hp;have HS:=G8 (fun q W h=>BS2 q p g W h);obtain⟨va,vc,rfl⟩:=GK hv;clear hv hp;unfold peV at HS;go_enter func184,ntmps184;go_wp2_with fail
 go_loopg [8] xs.length (fun kx s8 wr=>∃k:Nat,s8=I0 k/\k<=xs.length/\xs.length-k<=kx/\Hid ((xs.take k).any (fun q=>q.id==p.id)=false)/\Hid (B0 w wr))
 case atStart=>exact⟨0,rfl,AZ _,A8 _,G8 (by simp),G8 (AA _ _)⟩
 case round=>
  obtain⟨k,rfl,hk,hg,hh,hB⟩:=hrel;by_cases hlt:k<xs.length
  .obtain⟨y,hy⟩:∃y,xs[k]?=G6 y:=⟨_,AO hlt⟩;obtain⟨b,off,cap,he,hb,q,_⟩:=oW ((G7 HV).next (G7 hB)) hy;simp only[AQ]at he;obtain⟨rfl,_,rfl⟩:=he;have d0:=q.pe0 hy;have d1:=q.pe1 hy;have d2:=q.pe2 hy;have d3:=q.pe3 hy;have hkk:(k:Int)<(xs.length:Int):=by omega
   have C:=G7 HS y wr ((G7 HP).next (G7 hB));have HM:Hid (y∈xs):=G8 (BA hy);have HT:=G8 (Q8 hy);clear q hy hb
   cases hxy:(y.id==p.id)
   .rw[hxy]at C;have HX:=G8 hxy;clear hxy;go_wp2_with fail;refine C.mono ?_;rintro e w1 ⟨rfl,hb1⟩;have hB1:=GH (G7 hB) hb1;clear C hb1;go_wp2_with fail
    go_roundg (xs.length-(k+1))
    case measure=>omega
    case rel=>exact⟨k+1,rfl,by omega,A8 _,G8 (by rw[G7 HT,List.any_append,G7 hh];simpa using G7 HX),G8 hB1⟩
   .rw[hxy]at C;have HX:=G8 (show xs.any (fun q=>q.id==p.id)=true from List.any_eq_true.2 ⟨y,G7 HM,hxy⟩);clear hxy;go_wp2_with fail;refine C.mono ?_;rintro e w1 ⟨rfl,hb1⟩;have hB1:=GH (G7 hB) hb1;clear C hb1;go_wp2_with fail;go_ret;exact⟨⟨k,rfl,by rw[G7 HX];simp⟩,hB1⟩
  .obtain rfl:k=xs.length:=by omega
   have hh2:=G7 hh;rw[List.take_length]at hh2;have HH:=G8 hh2;have hki:¬ ((xs.length:Int)<(xs.length:Int)):=by omega
   clear hh2;go_wp2_with fail;go_ret;exact⟨⟨-1,rfl,by rw[G7 HH];rfl⟩,G7 hB⟩
theorem CB3(v:FX)(xs:List Pe)(p:Pe)(g:Nat)(w:FW)(hv:IL w v xs)(hp:YO w g p)(hl:xs.length<=140737488355328):
  FZ prog 133 #[v,.func (.func 132) #[] #[P0 g]] w (R0 w (.bool (xs.any (fun q=>q.id==p.id)))):=by
 have C:=CB1 v xs p g w hv hp hl;obtain⟨va,vc,rfl⟩:=GK hv;generalize xs.any (fun q=>q.id==p.id)=r at C⊢;clear hv hp;go_enter func133,ntmps133;go_wp2_with fail;refine C.mono ?_;rintro e w1 ⟨⟨i,rfl,hi⟩,hb1⟩;have HB:=G8 hb1;have HI:=G8 hi;clear C hb1 hi;go_wp2_with fail;go_ret;exact⟨B96 (G7 HI),G7 HB⟩
theorem CN7(ps:List Pe)(k:Nat)(p:Pe):((ps.map kk).take k).any (fun q=>q.1==(kk p).1)=(ps.take k).any (fun q=>q.id==p.id):=by
 rw[CB0,List.any_map];rfl
theorem CN8(ps:List Pe)(k:Nat)(p:Pe):AC8 ((ps.map kk).take k) (kk p)=if(ps.take k).any (fun q=>q.id==p.id)=true then 8 else if p.id<0\/3<=p.id then 3 else if p.ep<0\/2147483647<p.ep then 3 else 0:=by
 unfold AC8;rw[CN7];rfl
theorem yC(v:FX)(ps:List Pe)(w:FW)(E:Int)(hv:IL w v ps)(hA:BY5 (ps.map kk) E)(hl:ps.length<=140737488355328):
  FZ prog 91 #[v] w (R0 w (I0 E)):=by
 have HV:=G8 hv;have HA:=G8 hA;obtain⟨va,vc,rfl⟩:=GK hv;clear hv hA;go_enter func91,ntmps91;go_wp2_with fail
 go_loopg [8] ps.length (fun kx s8 wr=>∃k:Nat,s8=I0 k/\k<=ps.length/\ps.length-k<=kx/\Hid (∀i q,i<k->(ps.map kk)[i]?=G6 q->AC8 ((ps.map kk).take i) q=0)/\Hid (B0 w wr))
 case atStart=>exact⟨0,rfl,AZ _,A8 _,G8 (fun i q h=>by omega),G8 (AA _ _)⟩
 case round=>
  obtain⟨k,rfl,hk,hg,HI,hB⟩:=hrel;by_cases hlt:k<ps.length
  .obtain⟨p,hp⟩:∃p,ps[k]?=G6 p:=⟨_,AO hlt⟩;obtain⟨b,off,cap,he,hb,q,_,hcap,_⟩:=oW ((G7 HV).next (G7 hB)) hp;simp only[AQ]at he;obtain⟨rfl,_,rfl⟩:=he;have d0:=q.pe0 hp;have d1:=q.pe1 hp;have d2:=q.pe2 hp;have d3:=q.pe3 hp;have hkk:(k:Int)<(ps.length:Int):=by omega
   have HX:=G8 (AE9 hp);have HE:=G8 (CN8 ps k p);have HAl:=G8 (G9 wr (FV #[I0 p.id,I0 p.ep,FU p.a p.ts.length p.c,I0 p.dn] 33));have HP:=G8 (YO.new wr p);have HC:=G8 (fun W (hW:B0 w W) (hP:YO W wr.heap.size p)=>CB3 _ (ps.take k) p wr.heap.size W (BS1 ((G7 HV).next hW) k (by omega)) hP (by simp;omega));have hcap2:k<=vc:=by omega
   clear q hp hb;obtain⟨id,ep,pa,pc,ts,dn⟩:=p;simp only at*;go_wp2_with fail;refine(G7 HC _ (GH (G7 hB) (G7 HAl)) (G7 HP)).mono ?_;rintro e w2 ⟨rfl,hb2⟩;have P2:=(G7 HP).next hb2;have c0:=P2.c0;have c1:=P2.c1;have HB2:=G8 (GH (GH (G7 hB) (G7 HAl)) hb2);clear P2 hb2 HC HAl HP d0 d1 d2 d3
   cases hA:(ps.take k).any (fun q=>q.id==id)
   .rw[hA]at HE;simp only at c0 c1;by_cases h1:id<0
    .have HR:=G8 (xM (G7 HA) (G7 HI) (G7 HX) (by rw[G7 HE];simp[h1]));rw[G7 HE]at HR;have HR2:Hid (E=3):=G8 (by rw[G7 HR];simp[h1]);clear hA;go_wp2_with fail;go_ret;rw[G7 HR2];exact⟨rfl,G7 HB2⟩
    .by_cases h2:id>=3
     .have HR:=G8 (xM (G7 HA) (G7 HI) (G7 HX) (by rw[G7 HE];simp[h2]));rw[G7 HE]at HR;have HR2:Hid (E=3):=G8 (by rw[G7 HR];simp[h2]);clear hA;go_wp2_with fail;go_ret;rw[G7 HR2];exact⟨rfl,G7 HB2⟩
     .by_cases h3:ep<0
      .have HR:=G8 (xM (G7 HA) (G7 HI) (G7 HX) (by rw[G7 HE];simp[h3]));rw[G7 HE]at HR;have HR2:Hid (E=3):=G8 (by rw[G7 HR];simp[h3]);clear hA;go_wp2_with fail;go_ret;rw[G7 HR2];exact⟨rfl,G7 HB2⟩
      .by_cases h4:ep>2147483647
       .have h4':2147483647<ep:=h4;have HR:=G8 (xM (G7 HA) (G7 HI) (G7 HX) (by rw[G7 HE];simp[h4']));rw[G7 HE]at HR;have HR2:Hid (E=3):=G8 (by rw[G7 HR];simp[h4']);clear hA;go_wp2_with fail;go_ret;rw[G7 HR2];exact⟨rfl,G7 HB2⟩
       .have HZ:Hid (AC8 ((ps.map kk).take k) (kk ⟨id,ep,pa,pc,ts,dn⟩)=0):=G8 (by rw[G7 HE];simp;omega);have HI2:Hid (∀i q,i<k+1->(ps.map kk)[i]?=G6 q->AC8 ((ps.map kk).take i) q=0):=G8 (fun i q hi hq=>by
         by_cases e:i=k
         .subst e;rw[G7 HX]at hq
          cases hq
          exact G7 HZ
         .exact G7 HI i q (by omega) hq)
        clear hA;go_wp2_with fail
        go_roundg (ps.length-(k+1))
        case measure=>omega
        case rel=>exact⟨k+1,rfl,by omega,A8 _,HI2,HB2⟩
   .rw[hA]at HE;have HR:=G8 (xM (G7 HA) (G7 HI) (G7 HX) (by rw[G7 HE];simp));rw[G7 HE]at HR;have HR2:Hid (E=8):=G8 (by rw[G7 HR];simp);clear hA;go_wp2_with fail;go_ret;rw[G7 HR2];exact⟨rfl,G7 HB2⟩
  .obtain rfl:k=ps.length:=by omega
   have hki:¬ ((ps.length:Int)<(ps.length:Int)):=by omega
   have HR:=G8 (C80 (G7 HA) (by rw[EI];exact G7 HI));go_wp2_with fail;go_ret;rw[G7 HR];exact⟨rfl,G7 hB⟩
theorem AP5(v:FX)(ps:List Pe)(w:FW)(hv:IL w v ps)(hL:rO w ps)(hl:ps.length<=140737488355328):
  FZ prog 92 #[v] w (R0 w (I0 (WI (ps.map kk)))):=by
 have HV:=G8 hv;have HL:=G8 hL;obtain⟨va,vc,rfl⟩:=GK hv;clear hv hL;go_enter func92,ntmps92;go_wp2_with fail
 go_loopg [3,8] ps.length (fun kx s3 s8 wr=>∃ (k:Nat) (m:Int),s3=I0 m/\s8=I0 k/\k<=ps.length/\ps.length-k<=kx/\Hid (WI ((ps.map kk).take k)=m)/\Hid (B0 w wr))
 case atStart=>exact⟨0,0,rfl,rfl,AZ _,A8 _,G8 rfl,G8 (AA _ _)⟩
 case round=>
  obtain⟨k,m,rfl,rfl,hk,hg,HM,hB⟩:=hrel;by_cases hlt:k<ps.length
  .obtain⟨p,hp⟩:∃p,ps[k]?=G6 p:=⟨_,AO hlt⟩;obtain⟨b,off,cap,he,hb,q,_,hcap,_⟩:=oW ((G7 HV).next (G7 hB)) hp;simp only[AQ]at he;obtain⟨rfl,_,rfl⟩:=he;have d0:=q.pe0 hp;have d1:=q.pe1 hp;have d2:=q.pe2 hp;have d3:=q.pe3 hp;have hkk:(k:Int)<(ps.length:Int):=by omega
   have HN:Hid (WI ((ps.map kk).take (k+1))=max (max m p.ep) (J4 (J5 p.ts))):=G8 (by rw[Q8 (AE9 hp),B66,G7 HM];rfl);have HAl:=G8 (G9 wr (FV #[I0 p.id,I0 p.ep,FU p.a p.ts.length p.c,I0 p.dn] 33));have HP:=G8 (YO.new wr p);have HC:=G8 (fun W (hW:B0 w W)=>RX p.log p.ts W ((G7 HL p (BA hp)).next hW));clear q hp hb;obtain⟨id,ep,pa,pc,ts,dn⟩:=p;simp only[Pe.log]at*;generalize J5 ts=z at*;go_upto_region 5 with fail;obtain⟨W1,hW1⟩:∃W1,W1=wr.alloc (FV #[I0 id,I0 ep,FU pa ts.length pc,I0 dn] 33):=⟨_,rfl⟩;rw[<-hW1]at HAl HP⊢;have e1:=(G7 HP).c1;have e2:=(G7 HP).c2;simp only at e1 e2;have HB1:=G8 (GH (G7 hB) (G7 HAl));have HCN:=G8 (fun n=>G7 HC (W1.drewN n) (fU (G7 HB1)));clear hW1 HC HAl HP d0 d1 d2 d3;by_cases c1:m<ep
   .by_cases c2:ep<J4 z
    .go_quiet (first|(go_at_call 67;exact Calls.quiet_of_same (G7 HCN _))|(go_at_call 75;exact Calls.quiet_of_same (PZ _ _)))
     go_wp2_with fail
     go_roundg (ps.length-(k+1))
     case measure=>omega
     case rel=>exact⟨k+1,J4 z,rfl,rfl,by omega,A8 _,G8 ((G7 HN).trans (by omega)),G8 (fU (G7 HB1))⟩
    .go_quiet (first|(go_at_call 67;exact Calls.quiet_of_same (G7 HCN _))|(go_at_call 75;exact Calls.quiet_of_same (PZ _ _)))
     go_wp2_with fail
     go_roundg (ps.length-(k+1))
     case measure=>omega
     case rel=>exact⟨k+1,ep,rfl,rfl,by omega,A8 _,G8 ((G7 HN).trans (by omega)),G8 (fU (G7 HB1))⟩
   .by_cases c2:m<J4 z
    .go_quiet (first|(go_at_call 67;exact Calls.quiet_of_same (G7 HCN _))|(go_at_call 75;exact Calls.quiet_of_same (PZ _ _)))
     go_wp2_with fail
     go_roundg (ps.length-(k+1))
     case measure=>omega
     case rel=>exact⟨k+1,J4 z,rfl,rfl,by omega,A8 _,G8 ((G7 HN).trans (by omega)),G8 (fU (G7 HB1))⟩
    .go_quiet (first|(go_at_call 67;exact Calls.quiet_of_same (G7 HCN _))|(go_at_call 75;exact Calls.quiet_of_same (PZ _ _)))
     go_wp2_with fail
     go_roundg (ps.length-(k+1))
     case measure=>omega
     case rel=>exact⟨k+1,m,rfl,rfl,by omega,A8 _,G8 ((G7 HN).trans (by omega)),G8 (fU (G7 HB1))⟩
  .obtain rfl:k=ps.length:=by omega
   have hki:¬ ((ps.length:Int)<(ps.length:Int)):=by omega
   have HR:Hid (WI (ps.map kk)=m):=G8 (by
    have:=G7 HM;rwa[show (ps.map kk).take ps.length=ps.map kk by rw[List.take_of_length_le (by simp)]]at this)
   go_wp2_with fail;go_ret;rw[G7 HR];exact⟨rfl,G7 hB⟩
theorem CN9(p q:Pe):decide (0<orI (AE8 (J5 p.ts) (J5 q.ts)) (AE8 p.id q.id))=bet (kk p) (kk q):=by
 unfold orI AE8 bet kk;simp only;by_cases h1:J5 p.ts<J5 q.ts
 .have h2:¬J5 q.ts<J5 p.ts:=by omega
  have h3:¬J5 p.ts=J5 q.ts:=by omega
  simp[h1,h2,h3]
 .by_cases h2:J5 q.ts<J5 p.ts
  .simp[h1,h2]
  .have h3:J5 p.ts=J5 q.ts:=by omega
   rw[h3];by_cases h4:p.id<q.id
   .have h5:¬q.id<p.id:=by omega
    simp[h4,h5]
   .by_cases h5:q.id<p.id
    .simp[h4,h5]
    .simp[h4,h5]
theorem A52(v:FX)(ps:List Pe)(w:FW)(hv:IL w v ps)(hL:rO w ps)(hl:ps.length<=140737488355328):
  FZ prog 93 #[v] w (R0 w (I0 (MI (ps.map kk) ps.length))):=by
 have HV:=G8 hv;have HL:=G8 hL;obtain⟨va,vc,rfl⟩:=GK hv;clear hv hL;go_enter func93,ntmps93;go_wp2_with fail
 go_loopg [3,8] ps.length (fun kx s3 s8 wr=>∃ (k m:Nat),s3=I0 m/\s8=I0 k/\k<=ps.length/\ps.length-k<=kx/\Hid (MI (ps.map kk) k=m)/\Hid (B0 w wr))
 case atStart=>exact⟨0,0,rfl,rfl,AZ _,A8 _,G8 rfl,G8 (AA _ _)⟩
 case round=>
  obtain⟨k,m,rfl,rfl,hk,hg,HM,hB⟩:=hrel;by_cases hlt:k<ps.length
  .obtain⟨p,hp⟩:∃p,ps[k]?=G6 p:=⟨_,AO hlt⟩;have hm:m<ps.length:=by have:=XT (ps.map kk) k;rw[G7 HM]at this;omega
   obtain⟨r,hr⟩:∃r,ps[m]?=G6 r:=⟨_,AO hm⟩;obtain⟨b,off,cap,he,hb,q,_,hcap,_⟩:=oW ((G7 HV).next (G7 hB)) hp;simp only[AQ]at he;obtain⟨rfl,_,rfl⟩:=he;have d0:=q.pe0 hp;have d1:=q.pe1 hp;have d2:=q.pe2 hp;have d3:=q.pe3 hp;have hkk:(k:Int)<(ps.length:Int):=by omega
   have hmm:(m:Int)<(ps.length:Int):=by omega
   have HN:Hid (MI (ps.map kk) (k+1)=if bet (kk p) (kk r)=true then k else m):=G8 (by rw[A41 (AE9 hp) (by rw[G7 HM];exact AE9 hr),G7 HM]);have HAl:=G8 (G9 wr (FV #[I0 p.id,I0 p.ep,FU p.a p.ts.length p.c,I0 p.dn] 33));have HP:=G8 (YO.new wr p);have HC:=G8 (fun W (hW:B0 w W)=>A51 p r W ((G7 HL p (BA hp)).next hW) ((G7 HL r (BA hr)).next hW));have CT8:=G8 (CN9 p r);have HRW:Hid (∀W,B0 wr W->W.cell? ⟨b,off+m*4,G5⟩=G6 (I0 r.id)/\W.cell? ⟨b,off+m*4+1,G5⟩=G6 (I0 r.ep)/\W.cell? ⟨b,off+m*4+2,G5⟩=G6 (FU r.a r.ts.length r.c)/\W.cell? ⟨b,off+m*4+3,G5⟩=G6 (I0 r.dn)):=G8 (fun W hW=>by
    have q':=q.kept hW hb;exact⟨q'.pe0 hr,q'.pe1 hr,q'.pe2 hr,q'.pe3 hr⟩)
   clear q hp hb hr;generalize bet (kk p) (kk r)=B at*;unfold peV at HC;obtain⟨id,ep,pa,pc,ts,dn⟩:=p;obtain⟨jd,eq,qa,qc,us,dm⟩:=r;simp only at*;generalize orI (AE8 (J5 ts) (J5 us)) (AE8 id jd)=R at*;go_upto_region 5 with fail;obtain⟨W1,hW1⟩:∃W1,W1=wr.alloc (FV #[I0 id,I0 ep,FU pa ts.length pc,I0 dn] 33):=⟨_,rfl⟩;rw[<-hW1]at HAl HP⊢;have e0:=(G7 HP).c0;have e1:=(G7 HP).c1;have e2:=(G7 HP).c2;have e3:=(G7 HP).c3;simp only at e0 e1 e2 e3;obtain⟨f0,f1,f2,f3⟩:=G7 HRW W1 (G7 HAl);have HB1:=G8 (GH (G7 hB) (G7 HAl));have hbw:b<W1.heap.size:=World.block_lt_of_cell? _ _ f0;have hpw:=(G7 HP).lt;clear hW1 HAl HP d0 d1 d2 d3 HRW;have c0':=fun d os=>Calls.regrown_of (w:=W1) (d:=d) (os:=os) (G7 HC _ (GH (G7 HB1) (below_regrown W1 d os)));have g0:=fun d os=>cell_regrown e0 d os;have g1:=fun d os=>cell_regrown e1 d os;have g2:=fun d os=>cell_regrown e2 d os;have g3:=fun d os=>cell_regrown e3 d os;have r0:=fun d os=>cell_regrown f0 d os;have r1:=fun d os=>cell_regrown f1 d os;have r2:=fun d os=>cell_regrown f2 d os;have r3:=fun d os=>cell_regrown f3 d os;clear e0 e1 e2 e3 f0 f1 f2 f3 HC;refine wp_region_quiet_below (by kernel_rfl) (by kernel_rfl) ?_
   repeat (first|go_big_quiet_step (with_reducible exact c0' _ _)|quiet_step (with_reducible exact c0' _ _))
   refine wpQuiet_nil ?_;intro _ hw';obtain⟨⟨dq,osq⟩,hw''⟩:=hw';subst hw'';have HB2:=G8 (GH (G7 HB1) (below_regrown W1 dq osq));clear c0' g0 g1 g2 g3 r0 r1 r2 r3;generalize Go.Sort.grow (redrawn W1 dq) osq=W2 at*
   cases B
   .have hR:¬R>0:=by have:=G7 CT8;simp at this;omega
    have HN2:Hid (MI (ps.map kk) (k+1)=m):=G8 (by rw[G7 HN];simp);clear CT8 HN;go_wp2_with fail
    go_roundg (ps.length-(k+1))
    case measure=>omega
    case rel=>exact⟨k+1,m,rfl,rfl,by omega,A8 _,HN2,HB2⟩
   .have hR:R>0:=by have:=G7 CT8;simp at this;omega
    have HN2:Hid (MI (ps.map kk) (k+1)=k):=G8 (by rw[G7 HN];simp);clear CT8 HN;go_wp2_with fail
    go_roundg (ps.length-(k+1))
    case measure=>omega
    case rel=>exact⟨k+1,k,rfl,rfl,by omega,A8 _,HN2,HB2⟩
  .obtain rfl:k=ps.length:=by omega
   have hki:¬ ((ps.length:Int)<(ps.length:Int)):=by omega
   go_wp2_with fail;go_ret;rw[G7 HM];exact⟨rfl,G7 hB⟩
theorem fC(w:FW):FZ prog 55 #[] w fun e w'=>e=.returned (I0 2)/\w'=w:=by
 go_enter func55,ntmps55;go_wp2_with fail;go_ret;exact⟨rfl,rfl⟩
theorem BS3{ks:List Key}(h:BY5 ks 0):0<=WI ks/\WI ks<=2147483647:=
 ⟨kY ks,B67 2147483647 (by decide) fun k hk=>by
  obtain⟨i,hi⟩:=List.getElem?_of_mem hk;have:=h.ok hi;have:=B68 k.2.2;omega⟩
theorem yD(v:FX)(ps:List Pe)(w:FW)(k n E:Int)(hv:IL w v ps)(hL:rO w ps)(hA:CW2 (ps.map kk) k n E)(hl:ps.length<=140737488355328):
  FZ prog 64 #[v] w (R0 w (.tuple #[I0 k,I0 n,I0 E])):=by
 obtain⟨A,hA,hR⟩:=hA;have CA:=yC v ps w A hv hA hl;have CN:=G8 (fun W (hW:B0 w W)=>AP5 v ps W (hv.next hW) (hL.next hW) hl);have CL:=G8 (fun W (hW:B0 w W)=>A52 v ps W (hv.next hW) (hL.next hW) hl);have HN:=G8 (fun h:A=0=>BS3 (ks:=ps.map kk) (by rw[h]at hA;exact hA));rw[EI]at hR;obtain⟨va,vc,rfl⟩:=GK hv;clear hv hL hA;generalize WI (ps.map kk)=N at*;generalize MI (ps.map kk) ps.length=L at*;rcases hR with⟨h0,rfl,rfl,rfl⟩|⟨rfl,⟨h1,rfl,rfl,rfl⟩|⟨h1,⟨h2,rfl,rfl,rfl⟩|⟨h2,rfl,rfl,rfl⟩⟩⟩
 .go_enter func64,ntmps64;go_wp2_with fail;refine CA.mono ?_;rintro e w1 ⟨rfl,hb1⟩;have HB:=G8 hb1;clear CA hb1;go_wp2_with fail
  go_ret3
  exact⟨rfl,G7 HB⟩
 all_goals
  obtain⟨n0,n1⟩:=G7 HN rfl;go_enter func64,ntmps64;go_wp2_with fail;refine CA.mono ?_;rintro e w1 ⟨rfl,hb1⟩;have HB:=G8 hb1;clear CA hb1;go_wp2_with fail;refine(fC _).mono ?_;rintro e w2 ⟨rfl,rfl⟩
 .have h1':(ps.length:Int)<2:=by omega
  go_wp2_with fail
  go_ret3
  exact⟨rfl,G7 HB⟩
 .have h1':¬ (ps.length:Int)<2:=by omega
  have h2':N+1>2147483647:=by omega
  go_wp2_with fail;refine(G7 CN _ (G7 HB)).mono ?_;rintro e w3 ⟨rfl,hb3⟩;have HB3:=G8 (GH (G7 HB) hb3);clear hb3;go_wp2_with fail
  go_ret3
  exact⟨rfl,G7 HB3⟩
 .have h1':¬ (ps.length:Int)<2:=by omega
  have h2':¬N+1>2147483647:=by omega
  go_wp2_with fail;refine(G7 CN _ (G7 HB)).mono ?_;rintro e w3 ⟨rfl,hb3⟩;have HB3:=G8 (GH (G7 HB) hb3);clear hb3;go_wp2_with fail;refine(G7 CL _ (G7 HB3)).mono ?_;rintro e w4 ⟨rfl,hb4⟩;have HB4:=G8 (GH (G7 HB3) hb4);clear hb4;go_wp2_with fail
  go_ret3
  exact⟨rfl,G7 HB4⟩
