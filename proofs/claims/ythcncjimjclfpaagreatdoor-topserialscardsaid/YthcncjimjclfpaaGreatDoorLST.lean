/-
  Part.
-/
import Derived.Test.YthcncjimjclfpaaGreatDoorLSP
set_option maxRecDepth 20000
set_option maxHeartbeats 8000000
namespace Go.Proofs.YthcncjimjclfpaaGreatDoor
open Go.RowKit Go.Proofs.Tryz
open _root_.Nat renaming le_refl->A8,zero_le->AY,add_assoc->EI
open Go.RowKit.Below renaming refl->AA
open _root_.List renaming getElem?_eq_getElem->AL,getElem?_eq_some_iff->AU,mem_of_getElem?->AZ,length_map->EG
open Go.Value.slice renaming injEq->AP
open Go.World renaming cell?->AV
open Go.Value renaming slice->FQ
open Go.Obj renaming cells->FT
open Go renaming World->FU,Value->FV,Calls->FW
open _root_.Option renaming none->FX,some->FZ
variable{n i b off g:Nat}{α:Type}{w W:FU}
abbrev Key:=Int×Int×Int
def AF1(pre:List Key)(k:Key):Int:=
 if pre.any (fun q=>q.1==k.1)=true then 8 else if k.1<0\/3<=k.1 then 3 else if k.2.1<0\/2147483647<k.2.1 then 3 else 0
def BZ2(ks:List Key)(E:Int):Prop:=
 (E=0/\∀i k,ks[i]?=FZ k->AF1 (ks.take i) k=0)\/
 (E≠0/\∃n k,ks[n]?=FZ k/\AF1 (ks.take n) k=E/\∀i q,i<n->ks[i]?=FZ q->AF1 (ks.take i) q=0)
theorem yE{ks:List Key}{E:Int}(h:BZ2 ks E)(hn:∀i q,i<n->ks[i]?=FZ q->AF1 (ks.take i) q=0){x:Key}(hx:ks[n]?=FZ x)(he:AF1 (ks.take n) x≠0):E=AF1 (ks.take n) x:=by
 rcases h with⟨_,h⟩|⟨h0,m,k,hk,e,h⟩
 .exact absurd (h n x hx) he
 .rcases Nat.lt_trichotomy m n with hl|hl|hl
  .exact absurd ((hn m k hl hk).symm.trans e).symm h0
  .subst hl;rw[hk]at hx
   cases hx
   exact e.symm
  .exact absurd (h n x hl hx) he
theorem C87{ks:List Key}{E:Int}(h:BZ2 ks E)(hn:∀i q,i<ks.length->ks[i]?=FZ q->AF1 (ks.take i) q=0):E=0:=by
 rcases h with⟨h,_⟩|⟨h0,m,k,hk,e,_⟩
 .exact h
 .exact absurd ((hn m k (AU.1 hk).1 hk).symm.trans e).symm h0
def WL(ks:List Key):Int:=ks.foldl (fun a k=>max (max a k.2.1) (J3 k.2.2)) 0
theorem B70(ks:List Key)(k:Key):WL (ks++[k])=max (max (WL ks) k.2.1) (J3 k.2.2):=by simp[WL]
theorem QF{l:List α}{k:Nat}{x:α}(h:l[k]?=FZ x):l.take (k+1)=l.take k++[x]:=by
 obtain⟨hk,rfl⟩:=AU.1 h;exact List.take_succ_eq_append_getElem hk
def bet(p q:Key):Bool:=decide (q.2.2<p.2.2)||(decide (p.2.2=q.2.2)&&decide (q.1<p.1))
def MJ(ks:List Key):Nat->Nat
 |0=>0
 |n+1=>if bet (ks.getD n (0,0,0)) (ks.getD (MJ ks n) (0,0,0))=true then n else MJ ks n
theorem XZ(ks:List Key):∀n,MJ ks n<max n 1
 |0=>by simp[MJ]
 |n+1=>by
  have:=XZ ks n;unfold MJ
  split<;>omega
theorem A57{ks:List Key}{p q:Key}(hp:ks[n]?=FZ p)(hq:ks[MJ ks n]?=FZ q):MJ ks (n+1)=if bet p q=true then n else MJ ks n:=by
 rw[MJ,List.getD_eq_getElem?_getD,List.getD_eq_getElem?_getD,hp,hq];rfl
def CW1(ks:List Key)(k n E:Int):Prop:=
 ∃A,BZ2 ks A/\((A≠0/\k=0/\n=0/\E=A)\/(A=0/\((ks.length<2/\k=0/\n=0/\E=14)\/(2<=ks.length/\((2147483647<WL ks+1/\k=0/\n=0/\E=6)\/(WL ks+1<=2147483647/\k=MJ ks ks.length/\n=WL ks+1/\E=0))))))
theorem BZ2.ok{ks:List Key}(h:BZ2 ks 0){k:Key}(hk:ks[i]?=FZ k):(∀q∈ks.take i,q.1≠k.1)/\0<=k.1/\k.1<3/\0<=k.2.1/\k.2.1<=2147483647:=by
 rcases h with⟨_,h⟩|⟨h,_⟩
 .have:=h i k hk;unfold AF1 at this;by_cases h1:(ks.take i).any (fun q=>q.1==k.1)=true
  .simp[h1]at this
  .by_cases h2:k.1<0\/3<=k.1
   .simp[h1,h2]at this
   .by_cases h3:k.2.1<0\/2147483647<k.2.1
    .simp[h1,h2,h3]at this
    .refine⟨fun q hq e=>h1 ?_,by omega,by omega,by omega,by omega⟩;exact List.any_eq_true.2 ⟨q,hq,by simp[e]⟩
 .exact absurd rfl h
theorem B71{ks:List Key}(M:Int)(h0:0<=M):(∀k∈ks,k.2.1<=M/\J3 k.2.2<=M)->WL ks<=M:=by
 have main:∀ (l:List Key) (a:Int),a<=M->(∀k∈l,k.2.1<=M/\J3 k.2.2<=M)->l.foldl (fun a k=>max (max a k.2.1) (J3 k.2.2)) a<=M:=by
  intro l
  induction l with
  |nil=>intro a ha _;exact ha
  |cons x r ih=>
   intro a ha h;have:=h x (by simp);exact ih (max (max a x.2.1) (J3 x.2.2)) (by omega) fun k hk=>h k (by simp[hk])
 exact main ks 0 h0
theorem C88{ks:List Key}{k:Key}(hk:k∈ks):k.2.1<=WL ks/\J3 k.2.2<=WL ks:=by
 have up:∀ (l:List Key) (a:Int),a<=l.foldl (fun a k=>max (max a k.2.1) (J3 k.2.2)) a:=by
  intro l
  induction l with
  |nil=>intro a;exact Int.le_refl _
  |cons x r ih=>intro a;exact Int.le_trans (show a<=max (max a x.2.1) (J3 x.2.2) by omega) (ih _)
 have main:∀ (l:List Key) (a:Int),k∈l->k.2.1<=l.foldl (fun a k=>max (max a k.2.1) (J3 k.2.2)) a/\J3 k.2.2<=l.foldl (fun a k=>max (max a k.2.1) (J3 k.2.2)) a:=by
  intro l
  induction l with
  |nil=>intro a h;simp at h
  |cons x r ih=>
   intro a h;rcases List.mem_cons.1 h with rfl|h
   .have:=up r (max (max a k.2.1) (J3 k.2.2));constructor
    .exact Int.le_trans (by omega) this
    .exact Int.le_trans (by omega) this
   .exact ih _ h
 exact main ks 0 hk
theorem B72(z:Int):0<=J3 z/\J3 z<=2147483647:=by
 cases hg:KD z with
 |false=>rw[uO hg];decide
 |true=>
  have:=LZ.1 hg;rw[MB hg];omega
theorem lK(ks:List Key):0<=WL ks:=by
 have up:∀ (l:List Key) (a:Int),a<=l.foldl (fun a k=>max (max a k.2.1) (J3 k.2.2)) a:=by
  intro l
  induction l with
  |nil=>intro a;exact Int.le_refl _
  |cons x r ih=>intro a;exact Int.le_trans (show a<=max (max a x.2.1) (J3 x.2.2) by omega) (ih _)
 exact up ks 0
structure Pe where
 id:Int
 ep:Int
 a:Option Addr
 c:Nat
 ts:List GI
 dn:Int
def pe0:Pe:=⟨0,0,FX,0,[],0⟩
def peV(p:Pe):FV:=.agg #[I0 p.id,I0 p.ep,FQ p.a p.ts.length p.c,I0 p.dn]
def BZ3(p:Pe):List FV:=[I0 p.id,I0 p.ep,FQ p.a p.ts.length p.c,I0 p.dn]
instance layP:Lay Pe:=⟨4,BZ3,57,fun _=>rfl,fun x u hu=>by simp[BZ3]at hu;rcases hu with rfl|rfl|rfl|rfl<;>rfl⟩
structure Lg where
 a:Option Addr
 c:Nat
 ts:List GI
def lgV(l:Lg):FV:=FQ l.a l.ts.length l.c
instance layG:Lay Lg:=⟨1,fun l=>[lgV l],55,fun _=>rfl,fun x u hu=>by simp at hu;subst hu;rfl⟩
def Pe.log(p:Pe):FV:=FQ p.a p.ts.length p.c
def sF(w:FU)(ps:List Pe):Prop:=∀p∈ps,NV w p.log p.ts
theorem sF.next{w':FU}{ps:List Pe}(h:sF w ps)(hb:B0 w w'):sF w' ps:=fun p hp=>(h p hp).next hb
theorem IE.pe0{xs:List Pe}(h:IE w b off (G9 xs)){x:Pe}(hi:xs[i]?=FZ x):w.cell? ⟨b,off+i*4,FX⟩=FZ (I0 x.id):=
 h (i*4) _ (GV xs i x hi 0 (by decide))
theorem IE.pe1{xs:List Pe}(h:IE w b off (G9 xs)){x:Pe}(hi:xs[i]?=FZ x):w.cell? ⟨b,off+i*4+1,FX⟩=FZ (I0 x.ep):=by
 rw[EI];exact h (i*4+1) _ (GV xs i x hi 1 (by decide))
theorem IE.pe2{xs:List Pe}(h:IE w b off (G9 xs)){x:Pe}(hi:xs[i]?=FZ x):w.cell? ⟨b,off+i*4+2,FX⟩=FZ (FQ x.a x.ts.length x.c):=by
 rw[EI];exact h (i*4+2) _ (GV xs i x hi 2 (by decide))
theorem IE.pe3{xs:List Pe}(h:IE w b off (G9 xs)){x:Pe}(hi:xs[i]?=FZ x):w.cell? ⟨b,off+i*4+3,FX⟩=FZ (I0 x.dn):=by
 rw[EI];exact h (i*4+3) _ (GV xs i x hi 3 (by decide))
def YV(W:FU)(g:Nat)(p:Pe):Prop:=W.heap[g]?=FZ (FT #[I0 p.id,I0 p.ep,FQ p.a p.ts.length p.c,I0 p.dn] 57 (0,0))
theorem YV.new(W:FU)(p:Pe):YV (W.alloc (FT #[I0 p.id,I0 p.ep,FQ p.a p.ts.length p.c,I0 p.dn] 57)) W.heap.size p:=heap_alloc_new W _
theorem YV.next{V:FU}{p:Pe}(h:YV W g p)(hb:B0 W V):YV V g p:=(hb.block g (by unfold YV at h;exact(Array.getElem?_eq_some_iff.1 h).1)).trans h
theorem YV.lt{p:Pe}(h:YV W g p):g<W.heap.size:=by unfold YV at h;exact(Array.getElem?_eq_some_iff.1 h).1
theorem YV.c0{p:Pe}(h:YV W g p):W.cell? ⟨g,0,FX⟩=FZ (I0 p.id):=by unfold YV at h;simp[AV,h]
theorem YV.c1{p:Pe}(h:YV W g p):W.cell? ⟨g,1,FX⟩=FZ (I0 p.ep):=by unfold YV at h;simp[AV,h]
theorem YV.c2{p:Pe}(h:YV W g p):W.cell? ⟨g,2,FX⟩=FZ (FQ p.a p.ts.length p.c):=by unfold YV at h;simp[AV,h]
theorem YV.c3{p:Pe}(h:YV W g p):W.cell? ⟨g,3,FX⟩=FZ (I0 p.dn):=by unfold YV at h;simp[AV,h]
theorem CM5:(prog.info? 57).map (fun i=>(i.zero,i.size,i.bytes))=FZ (FZ (peV pe0),4,48):=by kernel_rfl
theorem CW2:∃i0,prog.info? 57=FZ i0/\i0.zero=FZ (peV pe0)/\i0.size=4/\i0.bytes=48:=by
 obtain⟨i0,h,e⟩:=Option.map_eq_some_iff.1 CM5;simp only[Prod.mk.injEq]at e;exact⟨i0,h,e⟩
theorem gG{B:Nat}{a:FU}(h:Below B a w):Below B a (w.drewN n):=⟨h.os,h.tape,h.output,h.size,h.block⟩
theorem pR[Lay α]{v:FV}{xs:List α}(hv:IU w v xs){x:α}(hi:xs[i]?=FZ x):
  ∃b off cap,v=FQ (FZ ⟨b,off,FX⟩) xs.length cap/\b<w.heap.size/\IE w b off (G9 xs)/\i<xs.length/\xs.length<=cap/\cap<=maxLen:=by
 obtain⟨hi',_⟩:=AU.1 hi;obtain⟨b,off,cap,e,hb,hr,h1,h2⟩:=NZ hv (fun h0=>by rw[h0]at hi';simp at hi');exact⟨b,off,cap,e,hb,hr,hi',h1,h2⟩
def nxN(ep z:Int):Int:=if ep<=J3 z then iZ z else if NU ep 0=0 then iZ (L6 ep 0)else 0
def nxE(ep z:Int):Int:=if ep<=J3 z then WM z else if NU ep 0=0 then WM (L6 ep 0)else NU ep 0
theorem BQ3(p:Pe)(w:FU)(hp:NV w p.log p.ts):
  FW prog 91 #[peV p] w (R0 w (.tuple #[I0 (nxN p.ep (J4 p.ts)),I0 (nxE p.ep (J4 p.ts))])):=by
 have CL:=fun W (h:B0 w W)=>RZ p.log p.ts W (hp.next h);have B0:=G7 w (FT #[I0 p.id,I0 p.ep,FQ p.a p.ts.length p.c,I0 p.dn] 57);have P0:=YV.new w p;have C0:=CL _ B0;have HP:=G6 P0;have d2:=P0.c2;have HB:=G6 B0;clear CL P0 B0 hp;obtain⟨i,ep,a,c,ts,dn⟩:=p;simp only[Pe.log]at*;unfold peV;simp only;generalize J4 ts=z at*;have HE:=G6 (show (J3 z>=ep->nxN ep z=iZ z/\nxE ep z=WM z)/\(¬J3 z>=ep->(NU ep 0=0->nxN ep z=iZ (L6 ep 0)/\nxE ep z=WM (L6 ep 0))/\(NU ep 0≠0->nxN ep z=0/\nxE ep z=NU ep 0))from
  ⟨fun h=>by simp[nxN,nxE,h],fun h=>⟨fun k=>by simp[nxN,nxE,h,k],fun k=>by simp[nxN,nxE,h,k]⟩⟩)
 generalize nxN ep z=R at*;generalize nxE ep z=E at*;go_enter func91,ntmps91;go_wp2_with fail;refine C0.mono ?_;rintro e w1 ⟨rfl,hb1⟩;have HB1:Hid (B0 w w1):=G6 (G8 (G5 HB) (by rw[hb1];exact AA _ _));have d1:w1.cell? ⟨w.heap.size,1,FX⟩=FZ (I0 ep):=((G5 HP).next (by rw[hb1];exact AA _ _)).c1;clear hb1;go_wp2_with fail
 go_quiet ((go_at_call 59;exact Calls.quiet_of_same (QE _ _)))
 by_cases h1:J3 z>=ep
 .have HR:=G6 ((G5 HE).1 h1);go_wp2_with fail;refine(yF _ _).mono ?_;rintro e w2 ⟨rfl,rfl⟩;go_wp2_with fail
  go_ret2
  rw[(G5 HR).1,(G5 HR).2];exact⟨rfl,gG (G5 HB1)⟩
 .have HS:=G6 ((G5 HE).2 (by simpa using h1));go_wp2_with fail;refine(UL _ _ _).mono ?_;rintro e w2 ⟨rfl,rfl⟩;by_cases h2:NU ep 0=0
  .have HR:=G6 ((G5 HS).1 h2);go_wp2_with fail;refine(yF _ _).mono ?_;rintro e w3 ⟨rfl,rfl⟩;go_wp2_with fail
   go_ret2
   rw[(G5 HR).1,(G5 HR).2];exact⟨rfl,gG (G5 HB1)⟩
  .have HR:=G6 ((G5 HS).2 h2);go_wp2_with fail
   go_ret2
   rw[(G5 HR).1,(G5 HR).2];exact⟨rfl,gG (G5 HB1)⟩
def AG8(x y:Int):Int:=if x<y then -1 else if y<x then 1 else 0
theorem fF(x:Int)(w:FU):FW prog 212 #[I0 x] w fun e w'=>e=.returned (.bool false)/\w'=w:=by
 go_enter func212,ntmps212;go_wp2_with fail;go_ret;exact⟨rfl,rfl⟩
theorem CA5(x y:Int)(w:FU):FW prog 184 #[I0 x,I0 y] w fun e w'=>e=.returned (I0 (AG8 x y))/\w'=w:=by
 by_cases h:x<y
 .have e:AG8 x y=-1:=by simp[AG8,h]
  rw[e];clear e;go_enter func184,ntmps184;go_wp2_with fail;refine(fF _ _).mono ?_;rintro e w1 ⟨rfl,rfl⟩;go_wp2_with fail;refine(fF _ _).mono ?_;rintro e w1 ⟨rfl,rfl⟩;go_wp2_with fail;go_ret;exact⟨rfl,rfl⟩
 .by_cases h2:y<x
  .have e:AG8 x y=1:=by simp[AG8,h,h2]
   rw[e];clear e;go_enter func184,ntmps184;go_wp2_with fail;refine(fF _ _).mono ?_;rintro e w1 ⟨rfl,rfl⟩;go_wp2_with fail;refine(fF _ _).mono ?_;rintro e w1 ⟨rfl,rfl⟩;go_wp2_with fail;go_ret;exact⟨rfl,rfl⟩
  .have e:AG8 x y=0:=by simp[AG8,h,h2]
   rw[e];clear e;go_enter func184,ntmps184;go_wp2_with fail;refine(fF _ _).mono ?_;rintro e w1 ⟨rfl,rfl⟩;go_wp2_with fail;refine(fF _ _).mono ?_;rintro e w1 ⟨rfl,rfl⟩;go_wp2_with fail;go_ret;exact⟨rfl,rfl⟩
def orI(x y:Int):Int:=if x=0 then y else x
theorem CN7(g:Nat)(x y:Int)(w:FU)(h0:w.cell? ⟨g,0,FX⟩=FZ (I0 x))(h1:w.cell? ⟨g,1,FX⟩=FZ (I0 y)):
  FW prog 183 #[FQ (FZ ⟨g,0,FX⟩) 2 2] w fun e w'=>e=.returned (I0 (orI x y))/\w'=w:=by
 go_enter func183,ntmps183;go_wp2_with fail
 go_loopg [8] 2 (fun kx s8 wr=>∃k:Nat,s8=I0 k/\k<=2/\2-k<=kx/\wr=w/\(k=0\/k=1/\x=0\/k=2/\x=0/\y=0))
 case atStart=>exact⟨0,rfl,by omega,by omega,rfl,.inl rfl⟩
 case round=>
  obtain⟨k,rfl,hk,hkx,rfl,h⟩:=hrel;rcases h with rfl|⟨rfl,hx⟩|⟨rfl,hx,hy⟩
  .by_cases hx:x=0
   .go_wp2_with fail
    go_roundg 1
    case measure=>omega
    case rel=>exact⟨1,rfl,by omega,by omega,rfl,.inr (.inl ⟨rfl,hx⟩)⟩
   .have e:orI x y=x:=by simp[orI,hx]
    have HE:=G6 e;clear e;go_wp2_with fail;go_ret;rw[G5 HE];exact⟨rfl,rfl⟩
  .by_cases hy:y=0
   .go_wp2_with fail
    go_roundg 0
    case measure=>omega
    case rel=>exact⟨2,rfl,by omega,by omega,rfl,.inr (.inr ⟨rfl,hx,hy⟩)⟩
   .have e:orI x y=y:=by simp[orI,hx]
    have HE:=G6 e;clear e;go_wp2_with fail;go_ret;rw[G5 HE];exact⟨rfl,rfl⟩
  .have e:orI x y=0:=by simp[orI,hx,hy]
   have HE:=G6 e;clear e;go_wp2_with fail;go_ret;rw[G5 HE];exact⟨rfl,rfl⟩
theorem A64(p q:Pe)(w:FU)(hp:NV w p.log p.ts)(hq:NV w q.log q.ts):
  FW prog 142 #[peV p,peV q] w (R0 w (I0 (orI (AG8 (J4 p.ts) (J4 q.ts)) (AG8 p.id q.id)))):=by
 obtain⟨W0,hW0⟩:∃W0,W0=(w.alloc (FT #[I0 p.id,I0 p.ep,FQ p.a p.ts.length p.c,I0 p.dn] 57)).alloc (FT #[I0 q.id,I0 q.ep,FQ q.a q.ts.length q.c,I0 q.dn] 57):=⟨_,rfl⟩;have B0:B0 w W0:=by rw[hW0];exact G8 (G7 _ _) (G7 _ _)
 have P0:YV W0 w.heap.size p:=by rw[hW0];exact(YV.new w p).next (G7 _ _)
 have Q0:YV W0 (w.heap.size+1) q:=by
  rw[hW0];have:=YV.new (w.alloc (FT #[I0 p.id,I0 p.ep,FQ p.a p.ts.length p.c,I0 p.dn] 57)) q;simpa using this
 have CP:=G6 (fun W (h:W=W0.drew)=>RZ p.log p.ts W (by rw[h];exact(hp.next B0).drew));have CQ:=G6 (fun W (h:W=W0.drew)=>RZ q.log q.ts W (by rw[h];exact(hq.next B0).drew));have p0:=P0.c0;have p2:=P0.c2;have q0:=Q0.c0;have q2:=Q0.c2;have HB:=G6 B0;have hlt:=Q0.lt;clear B0 P0 Q0 hp hq;obtain⟨i,ep,a,c,ts,dn⟩:=p;obtain⟨j,eq,b,d,us,dm⟩:=q;simp only[Pe.log]at*;unfold peV;simp only;generalize J4 ts=z at*;generalize J4 us=y at*;go_enter func142,ntmps142;go_upto_region 1 with fail;rw[<-hW0];clear hW0;have KO:Hid (∀x y:Int,(W0.alloc (FT #[I0 x,I0 y] 3)).drew.cell? ⟨W0.heap.size,0,FX⟩=FZ (I0 x)/\(W0.alloc (FT #[I0 x,I0 y] 3)).drew.cell? ⟨W0.heap.size,1,FX⟩=FZ (I0 y)):=G6 (fun x y=>by
  have h:=heap_alloc_new W0 (FT #[I0 x,I0 y] 3);show (W0.alloc (FT #[I0 x,I0 y] 3)).cell? ⟨W0.heap.size,0,FX⟩=FZ (I0 x)/\(W0.alloc (FT #[I0 x,I0 y] 3)).cell? ⟨W0.heap.size,1,FX⟩=FZ (I0 y);unfold AV;rw[h];exact⟨rfl,rfl⟩)
 have HBO:Hid (∀o:Obj,B0 w (W0.alloc o).drew):=G6 (fun o=>(G8 (G5 HB) (G7 _ _)).drew);have K:Hid (∀W,W=W0.drew->W.cell? ⟨w.heap.size,0,FX⟩=FZ (I0 i)/\W.cell? ⟨w.heap.size,2,FX⟩=FZ (FQ a ts.length c)/\W.cell? ⟨w.heap.size+1,0,FX⟩=FZ (I0 j)/\W.cell? ⟨w.heap.size+1,2,FX⟩=FZ (FQ b us.length d)):=G6 (fun W h=>by rw[h];exact⟨p0,p2,q0,q2⟩);have KA:Hid (∀o:Obj,(W0.alloc o).drew.cell? ⟨w.heap.size,0,FX⟩=FZ (I0 i)/\(W0.alloc o).drew.cell? ⟨w.heap.size,2,FX⟩=FZ (FQ a ts.length c)/\(W0.alloc o).drew.cell? ⟨w.heap.size+1,0,FX⟩=FZ (I0 j)/\(W0.alloc o).drew.cell? ⟨w.heap.size+1,2,FX⟩=FZ (FQ b us.length d)):=G6 (fun o=>by
  have h:B0 W0 (W0.alloc o).drew:=(G7 W0 o).drew;exact⟨(h.cell (p:=⟨w.heap.size,0,FX⟩) (by simp only;omega)).trans p0,(h.cell (p:=⟨w.heap.size,2,FX⟩) (by simp only;omega)).trans p2,(h.cell (p:=⟨w.heap.size+1,0,FX⟩) (by simp only;omega)).trans q0,(h.cell (p:=⟨w.heap.size+1,2,FX⟩) (by simp only;omega)).trans q2⟩)
 have KZ:=G6 (And.intro p0 (And.intro p2 (And.intro q0 q2)))
 go_region_held3 (fun w'=>w'.cell? ⟨w.heap.size,0,FX⟩=FZ (I0 i)/\w'.cell? ⟨w.heap.size,2,FX⟩=FZ (FQ a ts.length c)/\w'.cell? ⟨w.heap.size+1,0,FX⟩=FZ (I0 j)/\w'.cell? ⟨w.heap.size+1,2,FX⟩=FZ (FQ b us.length d)) (first|with_reducible exact G5 KZ|with_reducible exact G5 K _ rfl|with_reducible exact G5 KA _) (first
  |(go_at_call 74;first|(with_reducible refine(G5 CP _ rfl).mono ?_;rintro e w1 ⟨rfl,rfl⟩)|(with_reducible refine(G5 CQ _ rfl).mono ?_;rintro e w1 ⟨rfl,rfl⟩))
  |(go_at_call 184;refine(CA5 _ _ _).mono ?_;rintro e w1 ⟨rfl,rfl⟩)
  |(go_at_call 183;refine(CN7 _ _ _ _ (G5 KO _ _).1 (G5 KO _ _).2).mono ?_;rintro e w1 ⟨rfl,rfl⟩))
 all_goals go_wp2_with fail
 all_goals go_ret
 all_goals exact⟨rfl,G5 HBO _⟩
def kk(p:Pe):Key:=(p.id,p.ep,J4 p.ts)
theorem AG9{ps:List Pe}{p:Pe}(h:ps[i]?=FZ p):(ps.map kk)[i]?=FZ (kk p):=by rw[List.getElem?_map,h];rfl
theorem CA6(ps:List Pe)(i:Nat):(ps.map kk).take i=(ps.take i).map kk:=by rw[List.map_take]
theorem B89{i:Int}{b:Bool}(h:decide (0<=i)=b):Ending.returned (.bool (decide (0<=i)))=.returned (.bool b):=by rw[h]
theorem BR9[Lay α]{cap:Nat}{xs:List α}(h:IU w (FQ (FZ ⟨b,off,FX⟩) n cap) xs)(k:Nat)(hk:k<=xs.length):IU w (FQ (FZ ⟨b,off,FX⟩) k cap) (xs.take k):=by
 have hl:(xs.take k).length=k:=by simp;omega
 rcases h with⟨a,c,e,rfl,hm⟩|⟨b',off',cap',e,h1,h2,h3,h0,h4⟩
 .simp only[AP]at e;obtain⟨_,_,rfl⟩:=e;simp only[List.length_nil,Nat.le_zero]at hk;subst hk;exact .inl ⟨_,_,rfl,rfl,hm⟩
 .simp only[AP,Option.some.injEq,Addr.mk.injEq,and_true]at e;obtain⟨⟨rfl,rfl⟩,_,rfl⟩:=e;by_cases hz:k=0
  .subst hz;exact .inl ⟨_,_,rfl,by simp,h2⟩
  .refine .inr ⟨b,off,cap,by rw[hl],by omega,h2,h3,fun e=>by rw[e]at hl;simp at hl;omega,fun j u hj=>h4 j u ?_⟩;have e:G9 xs=G9 (xs.take k)++G9 (xs.drop k):=by rw[<-H8,List.take_append_drop]
   rw[e,List.getElem?_append_left (AU.1 hj).1];exact hj
theorem BS0(q p:Pe)(g:Nat)(w:FU)(hp:YV w g p):
  FW prog 140 #[peV q,P0 g] w (R0 w (.bool (q.id==p.id))):=by
 have B0:=G7 w (FT #[I0 q.id,I0 q.ep,FQ q.a q.ts.length q.c,I0 q.dn] 57);have e0:=(hp.next B0).c0;have f0:=(YV.new w q).c0;have HB:=G6 B0;obtain⟨i,ep,a,c,ts,dn⟩:=q;obtain⟨j,eq,b,d,us,dm⟩:=p;simp only at*;clear hp B0;unfold peV;simp only;go_enter func140,ntmps140;go_wp2_with fail;go_ret;refine⟨?_,G5 HB⟩;by_cases h:i=j<;>simp[h]
theorem CA7(v:FV)(xs:List Pe)(p:Pe)(g:Nat)(w:FU)(hv:IU w v xs)(hp:YV w g p)(hl:xs.length<=140737488355328):
  FW prog 182 #[v,.func (.func 140) #[] #[P0 g]] w fun e w'=>(∃i:Int,e=.returned (I0 i)/\decide (0<=i)=xs.any (fun q=>q.id==p.id))/\B0 w w':=by
 have HV:=G6 hv;have HP:=G6 hp;have HS:=G6 (fun q W h=>BS0 q p g W h);obtain⟨va,vc,rfl⟩:=GK hv;clear hv hp;unfold peV at HS;go_enter func182,ntmps182;go_wp2_with fail
 go_loopg [8] xs.length (fun kx s8 wr=>∃k:Nat,s8=I0 k/\k<=xs.length/\xs.length-k<=kx/\Hid ((xs.take k).any (fun q=>q.id==p.id)=false)/\Hid (B0 w wr))
 case atStart=>exact⟨0,rfl,AY _,A8 _,G6 (by simp),G6 (AA _ _)⟩
 case round=>
  obtain⟨k,rfl,hk,hg,hh,hB⟩:=hrel;by_cases hlt:k<xs.length
  .obtain⟨y,hy⟩:∃y,xs[k]?=FZ y:=⟨_,AL hlt⟩;obtain⟨b,off,cap,he,hb,q,_⟩:=pR ((G5 HV).next (G5 hB)) hy;simp only[AP]at he;obtain⟨rfl,_,rfl⟩:=he;have d0:=q.pe0 hy;have d1:=q.pe1 hy;have d2:=q.pe2 hy;have d3:=q.pe3 hy;have hkk:(k:Int)<(xs.length:Int):=by omega
   have C:=G5 HS y wr ((G5 HP).next (G5 hB));have HM:Hid (y∈xs):=G6 (AZ hy);have HT:=G6 (QF hy);clear q hy hb
   cases hxy:(y.id==p.id)
   .rw[hxy]at C;have HX:=G6 hxy;clear hxy;go_wp2_with fail;refine C.mono ?_;rintro e w1 ⟨rfl,hb1⟩;have hB1:=G8 (G5 hB) hb1;clear C hb1;go_wp2_with fail
    go_roundg (xs.length-(k+1))
    case measure=>omega
    case rel=>exact⟨k+1,rfl,by omega,A8 _,G6 (by rw[G5 HT,List.any_append,G5 hh];simpa using G5 HX),G6 hB1⟩
   .rw[hxy]at C;have HX:=G6 (show xs.any (fun q=>q.id==p.id)=true from List.any_eq_true.2 ⟨y,G5 HM,hxy⟩);clear hxy;go_wp2_with fail;refine C.mono ?_;rintro e w1 ⟨rfl,hb1⟩;have hB1:=G8 (G5 hB) hb1;clear C hb1;go_wp2_with fail;go_ret;exact⟨⟨k,rfl,by rw[G5 HX];simp⟩,hB1⟩
  .obtain rfl:k=xs.length:=by omega
   have hh2:=G5 hh;rw[List.take_length]at hh2;have HH:=G6 hh2;have hki:¬ ((xs.length:Int)<(xs.length:Int)):=by omega
   clear hh2;go_wp2_with fail;go_ret;exact⟨⟨-1,rfl,by rw[G5 HH];rfl⟩,G5 hB⟩
theorem CA8(v:FV)(xs:List Pe)(p:Pe)(g:Nat)(w:FU)(hv:IU w v xs)(hp:YV w g p)(hl:xs.length<=140737488355328):
  FW prog 141 #[v,.func (.func 140) #[] #[P0 g]] w (R0 w (.bool (xs.any (fun q=>q.id==p.id)))):=by
 have C:=CA7 v xs p g w hv hp hl;obtain⟨va,vc,rfl⟩:=GK hv;generalize xs.any (fun q=>q.id==p.id)=r at C⊢;clear hv hp;go_enter func141,ntmps141;go_wp2_with fail;refine C.mono ?_;rintro e w1 ⟨⟨i,rfl,hi⟩,hb1⟩;have HB:=G6 hb1;have HI:=G6 hi;clear C hb1 hi;go_wp2_with fail;go_ret;exact⟨B89 (G5 HI),G5 HB⟩
theorem CN8(ps:List Pe)(k:Nat)(p:Pe):((ps.map kk).take k).any (fun q=>q.1==(kk p).1)=(ps.take k).any (fun q=>q.id==p.id):=by
 rw[CA6,List.any_map];rfl
theorem CN9(ps:List Pe)(k:Nat)(p:Pe):AF1 ((ps.map kk).take k) (kk p)=if(ps.take k).any (fun q=>q.id==p.id)=true then 8 else if p.id<0\/3<=p.id then 3 else if p.ep<0\/2147483647<p.ep then 3 else 0:=by
 unfold AF1;rw[CN8];rfl
theorem yR(v:FV)(ps:List Pe)(w:FU)(E:Int)(hv:IU w v ps)(hA:BZ2 (ps.map kk) E)(hl:ps.length<=140737488355328):
  FW prog 104 #[v] w (R0 w (I0 E)):=by
 have HV:=G6 hv;have HA:=G6 hA;obtain⟨va,vc,rfl⟩:=GK hv;clear hv hA;go_enter func104,ntmps104;go_wp2_with fail
 go_loopg [8] ps.length (fun kx s8 wr=>∃k:Nat,s8=I0 k/\k<=ps.length/\ps.length-k<=kx/\Hid (∀i q,i<k->(ps.map kk)[i]?=FZ q->AF1 ((ps.map kk).take i) q=0)/\Hid (B0 w wr))
 case atStart=>exact⟨0,rfl,AY _,A8 _,G6 (fun i q h=>by omega),G6 (AA _ _)⟩
 case round=>
  obtain⟨k,rfl,hk,hg,HI,hB⟩:=hrel;by_cases hlt:k<ps.length
  .obtain⟨p,hp⟩:∃p,ps[k]?=FZ p:=⟨_,AL hlt⟩;obtain⟨b,off,cap,he,hb,q,_,hcap,_⟩:=pR ((G5 HV).next (G5 hB)) hp;simp only[AP]at he;obtain⟨rfl,_,rfl⟩:=he;have d0:=q.pe0 hp;have d1:=q.pe1 hp;have d2:=q.pe2 hp;have d3:=q.pe3 hp;have hkk:(k:Int)<(ps.length:Int):=by omega
   have HX:=G6 (AG9 hp);have HE:=G6 (CN9 ps k p);have HAl:=G6 (G7 wr (FT #[I0 p.id,I0 p.ep,FQ p.a p.ts.length p.c,I0 p.dn] 57));have HP:=G6 (YV.new wr p);have HC:=G6 (fun W (hW:B0 w W) (hP:YV W wr.heap.size p)=>CA8 _ (ps.take k) p wr.heap.size W (BR9 ((G5 HV).next hW) k (by omega)) hP (by simp;omega));have hcap2:k<=vc:=by omega
   clear q hp hb;obtain⟨id,ep,pa,pc,ts,dn⟩:=p;simp only at*;go_wp2_with fail;refine(G5 HC _ (G8 (G5 hB) (G5 HAl)) (G5 HP)).mono ?_;rintro e w2 ⟨rfl,hb2⟩;have P2:=(G5 HP).next hb2;have c0:=P2.c0;have c1:=P2.c1;have HB2:=G6 (G8 (G8 (G5 hB) (G5 HAl)) hb2);clear P2 hb2 HC HAl HP d0 d1 d2 d3
   cases hA:(ps.take k).any (fun q=>q.id==id)
   .rw[hA]at HE;simp only at c0 c1;by_cases h1:id<0
    .have HR:=G6 (yE (G5 HA) (G5 HI) (G5 HX) (by rw[G5 HE];simp[h1]));rw[G5 HE]at HR;have HR2:Hid (E=3):=G6 (by rw[G5 HR];simp[h1]);clear hA;go_wp2_with fail;go_ret;rw[G5 HR2];exact⟨rfl,G5 HB2⟩
    .by_cases h2:id>=3
     .have HR:=G6 (yE (G5 HA) (G5 HI) (G5 HX) (by rw[G5 HE];simp[h2]));rw[G5 HE]at HR;have HR2:Hid (E=3):=G6 (by rw[G5 HR];simp[h2]);clear hA;go_wp2_with fail;go_ret;rw[G5 HR2];exact⟨rfl,G5 HB2⟩
     .by_cases h3:ep<0
      .have HR:=G6 (yE (G5 HA) (G5 HI) (G5 HX) (by rw[G5 HE];simp[h3]));rw[G5 HE]at HR;have HR2:Hid (E=3):=G6 (by rw[G5 HR];simp[h3]);clear hA;go_wp2_with fail;go_ret;rw[G5 HR2];exact⟨rfl,G5 HB2⟩
      .by_cases h4:ep>2147483647
       .have h4':2147483647<ep:=h4;have HR:=G6 (yE (G5 HA) (G5 HI) (G5 HX) (by rw[G5 HE];simp[h4']));rw[G5 HE]at HR;have HR2:Hid (E=3):=G6 (by rw[G5 HR];simp[h4']);clear hA;go_wp2_with fail;go_ret;rw[G5 HR2];exact⟨rfl,G5 HB2⟩
       .have HZ:Hid (AF1 ((ps.map kk).take k) (kk ⟨id,ep,pa,pc,ts,dn⟩)=0):=G6 (by rw[G5 HE];simp;omega);have HI2:Hid (∀i q,i<k+1->(ps.map kk)[i]?=FZ q->AF1 ((ps.map kk).take i) q=0):=G6 (fun i q hi hq=>by
         by_cases e:i=k
         .subst e;rw[G5 HX]at hq
          cases hq
          exact G5 HZ
         .exact G5 HI i q (by omega) hq)
        clear hA;go_wp2_with fail
        go_roundg (ps.length-(k+1))
        case measure=>omega
        case rel=>exact⟨k+1,rfl,by omega,A8 _,HI2,HB2⟩
   .rw[hA]at HE;have HR:=G6 (yE (G5 HA) (G5 HI) (G5 HX) (by rw[G5 HE];simp));rw[G5 HE]at HR;have HR2:Hid (E=8):=G6 (by rw[G5 HR];simp);clear hA;go_wp2_with fail;go_ret;rw[G5 HR2];exact⟨rfl,G5 HB2⟩
  .obtain rfl:k=ps.length:=by omega
   have hki:¬ ((ps.length:Int)<(ps.length:Int)):=by omega
   have HR:=G6 (C87 (G5 HA) (by rw[EG];exact G5 HI));go_wp2_with fail;go_ret;rw[G5 HR];exact⟨rfl,G5 hB⟩
theorem AR0(v:FV)(ps:List Pe)(w:FU)(hv:IU w v ps)(hL:sF w ps)(hl:ps.length<=140737488355328):
  FW prog 105 #[v] w (R0 w (I0 (WL (ps.map kk)))):=by
 have HV:=G6 hv;have HL:=G6 hL;obtain⟨va,vc,rfl⟩:=GK hv;clear hv hL;go_enter func105,ntmps105;go_wp2_with fail
 go_loopg [3,8] ps.length (fun kx s3 s8 wr=>∃ (k:Nat) (m:Int),s3=I0 m/\s8=I0 k/\k<=ps.length/\ps.length-k<=kx/\Hid (WL ((ps.map kk).take k)=m)/\Hid (B0 w wr))
 case atStart=>exact⟨0,0,rfl,rfl,AY _,A8 _,G6 rfl,G6 (AA _ _)⟩
 case round=>
  obtain⟨k,m,rfl,rfl,hk,hg,HM,hB⟩:=hrel;by_cases hlt:k<ps.length
  .obtain⟨p,hp⟩:∃p,ps[k]?=FZ p:=⟨_,AL hlt⟩;obtain⟨b,off,cap,he,hb,q,_,hcap,_⟩:=pR ((G5 HV).next (G5 hB)) hp;simp only[AP]at he;obtain⟨rfl,_,rfl⟩:=he;have d0:=q.pe0 hp;have d1:=q.pe1 hp;have d2:=q.pe2 hp;have d3:=q.pe3 hp;have hkk:(k:Int)<(ps.length:Int):=by omega
   have HN:Hid (WL ((ps.map kk).take (k+1))=max (max m p.ep) (J3 (J4 p.ts))):=G6 (by rw[QF (AG9 hp),B70,G5 HM];rfl);have HAl:=G6 (G7 wr (FT #[I0 p.id,I0 p.ep,FQ p.a p.ts.length p.c,I0 p.dn] 57));have HP:=G6 (YV.new wr p);have HC:=G6 (fun W (hW:B0 w W)=>RZ p.log p.ts W ((G5 HL p (AZ hp)).next hW));clear q hp hb;obtain⟨id,ep,pa,pc,ts,dn⟩:=p;simp only[Pe.log]at*;generalize J4 ts=z at*;go_upto_region 5 with fail;obtain⟨W1,hW1⟩:∃W1,W1=wr.alloc (FT #[I0 id,I0 ep,FQ pa ts.length pc,I0 dn] 57):=⟨_,rfl⟩;rw[<-hW1]at HAl HP⊢;have e1:=(G5 HP).c1;have e2:=(G5 HP).c2;simp only at e1 e2;have HB1:=G6 (G8 (G5 hB) (G5 HAl));have HCN:=G6 (fun n=>G5 HC (W1.drewN n) (gG (G5 HB1)));clear hW1 HC HAl HP d0 d1 d2 d3;by_cases c1:m<ep
   .by_cases c2:ep<J3 z
    .go_quiet (first|(go_at_call 74;exact Calls.quiet_of_same (G5 HCN _))|(go_at_call 59;exact Calls.quiet_of_same (QE _ _)))
     go_wp2_with fail
     go_roundg (ps.length-(k+1))
     case measure=>omega
     case rel=>exact⟨k+1,J3 z,rfl,rfl,by omega,A8 _,G6 ((G5 HN).trans (by omega)),G6 (gG (G5 HB1))⟩
    .go_quiet (first|(go_at_call 74;exact Calls.quiet_of_same (G5 HCN _))|(go_at_call 59;exact Calls.quiet_of_same (QE _ _)))
     go_wp2_with fail
     go_roundg (ps.length-(k+1))
     case measure=>omega
     case rel=>exact⟨k+1,ep,rfl,rfl,by omega,A8 _,G6 ((G5 HN).trans (by omega)),G6 (gG (G5 HB1))⟩
   .by_cases c2:m<J3 z
    .go_quiet (first|(go_at_call 74;exact Calls.quiet_of_same (G5 HCN _))|(go_at_call 59;exact Calls.quiet_of_same (QE _ _)))
     go_wp2_with fail
     go_roundg (ps.length-(k+1))
     case measure=>omega
     case rel=>exact⟨k+1,J3 z,rfl,rfl,by omega,A8 _,G6 ((G5 HN).trans (by omega)),G6 (gG (G5 HB1))⟩
    .go_quiet (first|(go_at_call 74;exact Calls.quiet_of_same (G5 HCN _))|(go_at_call 59;exact Calls.quiet_of_same (QE _ _)))
     go_wp2_with fail
     go_roundg (ps.length-(k+1))
     case measure=>omega
     case rel=>exact⟨k+1,m,rfl,rfl,by omega,A8 _,G6 ((G5 HN).trans (by omega)),G6 (gG (G5 HB1))⟩
  .obtain rfl:k=ps.length:=by omega
   have hki:¬ ((ps.length:Int)<(ps.length:Int)):=by omega
   have HR:Hid (WL (ps.map kk)=m):=G6 (by
    have:=G5 HM;rwa[show (ps.map kk).take ps.length=ps.map kk by rw[List.take_of_length_le (by simp)]]at this)
   go_wp2_with fail;go_ret;rw[G5 HR];exact⟨rfl,G5 hB⟩
theorem CO0(p q:Pe):decide (0<orI (AG8 (J4 p.ts) (J4 q.ts)) (AG8 p.id q.id))=bet (kk p) (kk q):=by
 unfold orI AG8 bet kk;simp only;by_cases h1:J4 p.ts<J4 q.ts
 .have h2:¬J4 q.ts<J4 p.ts:=by omega
  have h3:¬J4 p.ts=J4 q.ts:=by omega
  simp[h1,h2,h3]
 .by_cases h2:J4 q.ts<J4 p.ts
  .simp[h1,h2]
  .have h3:J4 p.ts=J4 q.ts:=by omega
   rw[h3];by_cases h4:p.id<q.id
   .have h5:¬q.id<p.id:=by omega
    simp[h4,h5]
   .by_cases h5:q.id<p.id
    .simp[h4,h5]
    .simp[h4,h5]
theorem A65(v:FV)(ps:List Pe)(w:FU)(hv:IU w v ps)(hL:sF w ps)(hl:ps.length<=140737488355328):
  FW prog 106 #[v] w (R0 w (I0 (MJ (ps.map kk) ps.length))):=by
 have HV:=G6 hv;have HL:=G6 hL;obtain⟨va,vc,rfl⟩:=GK hv;clear hv hL;go_enter func106,ntmps106;go_wp2_with fail
 go_loopg [3,8] ps.length (fun kx s3 s8 wr=>∃ (k m:Nat),s3=I0 m/\s8=I0 k/\k<=ps.length/\ps.length-k<=kx/\Hid (MJ (ps.map kk) k=m)/\Hid (B0 w wr))
 case atStart=>exact⟨0,0,rfl,rfl,AY _,A8 _,G6 rfl,G6 (AA _ _)⟩
 case round=>
  obtain⟨k,m,rfl,rfl,hk,hg,HM,hB⟩:=hrel;by_cases hlt:k<ps.length
  .obtain⟨p,hp⟩:∃p,ps[k]?=FZ p:=⟨_,AL hlt⟩;have hm:m<ps.length:=by have:=XZ (ps.map kk) k;rw[G5 HM]at this;omega
   obtain⟨r,hr⟩:∃r,ps[m]?=FZ r:=⟨_,AL hm⟩;obtain⟨b,off,cap,he,hb,q,_,hcap,_⟩:=pR ((G5 HV).next (G5 hB)) hp;simp only[AP]at he;obtain⟨rfl,_,rfl⟩:=he;have d0:=q.pe0 hp;have d1:=q.pe1 hp;have d2:=q.pe2 hp;have d3:=q.pe3 hp;have hkk:(k:Int)<(ps.length:Int):=by omega
   have hmm:(m:Int)<(ps.length:Int):=by omega
   have HN:Hid (MJ (ps.map kk) (k+1)=if bet (kk p) (kk r)=true then k else m):=G6 (by rw[A57 (AG9 hp) (by rw[G5 HM];exact AG9 hr),G5 HM]);have HAl:=G6 (G7 wr (FT #[I0 p.id,I0 p.ep,FQ p.a p.ts.length p.c,I0 p.dn] 57));have HP:=G6 (YV.new wr p);have HC:=G6 (fun W (hW:B0 w W)=>A64 p r W ((G5 HL p (AZ hp)).next hW) ((G5 HL r (AZ hr)).next hW));have CT1:=G6 (CO0 p r);have HRW:Hid (∀W,B0 wr W->W.cell? ⟨b,off+m*4,FX⟩=FZ (I0 r.id)/\W.cell? ⟨b,off+m*4+1,FX⟩=FZ (I0 r.ep)/\W.cell? ⟨b,off+m*4+2,FX⟩=FZ (FQ r.a r.ts.length r.c)/\W.cell? ⟨b,off+m*4+3,FX⟩=FZ (I0 r.dn)):=G6 (fun W hW=>by
    have q':=q.kept hW hb;exact⟨q'.pe0 hr,q'.pe1 hr,q'.pe2 hr,q'.pe3 hr⟩)
   clear q hp hb hr;generalize bet (kk p) (kk r)=B at*;unfold peV at HC;obtain⟨id,ep,pa,pc,ts,dn⟩:=p;obtain⟨jd,eq,qa,qc,us,dm⟩:=r;simp only at*;generalize orI (AG8 (J4 ts) (J4 us)) (AG8 id jd)=R at*;go_upto_region 5 with fail;obtain⟨W1,hW1⟩:∃W1,W1=wr.alloc (FT #[I0 id,I0 ep,FQ pa ts.length pc,I0 dn] 57):=⟨_,rfl⟩;rw[<-hW1]at HAl HP⊢;have e0:=(G5 HP).c0;have e1:=(G5 HP).c1;have e2:=(G5 HP).c2;have e3:=(G5 HP).c3;simp only at e0 e1 e2 e3;obtain⟨f0,f1,f2,f3⟩:=G5 HRW W1 (G5 HAl);have HB1:=G6 (G8 (G5 hB) (G5 HAl));have hbw:b<W1.heap.size:=World.block_lt_of_cell? _ _ f0;have hpw:=(G5 HP).lt;clear hW1 HAl HP d0 d1 d2 d3 HRW;have c0':=fun d os=>Calls.regrown_of (w:=W1) (d:=d) (os:=os) (G5 HC _ (G8 (G5 HB1) (below_regrown W1 d os)));have g0:=fun d os=>cell_regrown e0 d os;have g1:=fun d os=>cell_regrown e1 d os;have g2:=fun d os=>cell_regrown e2 d os;have g3:=fun d os=>cell_regrown e3 d os;have r0:=fun d os=>cell_regrown f0 d os;have r1:=fun d os=>cell_regrown f1 d os;have r2:=fun d os=>cell_regrown f2 d os;have r3:=fun d os=>cell_regrown f3 d os;clear e0 e1 e2 e3 f0 f1 f2 f3 HC;refine wp_region_quiet_below (by kernel_rfl) (by kernel_rfl) ?_
   repeat (first|go_big_quiet_step (with_reducible exact c0' _ _)|quiet_step (with_reducible exact c0' _ _))
   refine wpQuiet_nil ?_;intro _ hw';obtain⟨⟨dq,osq⟩,hw''⟩:=hw';subst hw'';have HB2:=G6 (G8 (G5 HB1) (below_regrown W1 dq osq));clear c0' g0 g1 g2 g3 r0 r1 r2 r3;generalize Go.Sort.grow (redrawn W1 dq) osq=W2 at*
   cases B
   .have hR:¬R>0:=by have:=G5 CT1;simp at this;omega
    have HN2:Hid (MJ (ps.map kk) (k+1)=m):=G6 (by rw[G5 HN];simp);clear CT1 HN;go_wp2_with fail
    go_roundg (ps.length-(k+1))
    case measure=>omega
    case rel=>exact⟨k+1,m,rfl,rfl,by omega,A8 _,HN2,HB2⟩
   .have hR:R>0:=by have:=G5 CT1;simp at this;omega
    have HN2:Hid (MJ (ps.map kk) (k+1)=k):=G6 (by rw[G5 HN];simp);clear CT1 HN;go_wp2_with fail
    go_roundg (ps.length-(k+1))
    case measure=>omega
    case rel=>exact⟨k+1,k,rfl,rfl,by omega,A8 _,HN2,HB2⟩
  .obtain rfl:k=ps.length:=by omega
   have hki:¬ ((ps.length:Int)<(ps.length:Int)):=by omega
   go_wp2_with fail;go_ret;rw[G5 HM];exact⟨rfl,G5 hB⟩
theorem fG(w:FU):FW prog 62 #[] w fun e w'=>e=.returned (I0 2)/\w'=w:=by
 go_enter func62,ntmps62;go_wp2_with fail;go_ret;exact⟨rfl,rfl⟩
theorem BS1{ks:List Key}(h:BZ2 ks 0):0<=WL ks/\WL ks<=2147483647:=
 ⟨lK ks,B71 2147483647 (by decide) fun k hk=>by
  obtain⟨i,hi⟩:=List.getElem?_of_mem hk;have:=h.ok hi;have:=B72 k.2.2;omega⟩
theorem yS(v:FV)(ps:List Pe)(w:FU)(k n E:Int)(hv:IU w v ps)(hL:sF w ps)(hA:CW1 (ps.map kk) k n E)(hl:ps.length<=140737488355328):
  FW prog 71 #[v] w (R0 w (.tuple #[I0 k,I0 n,I0 E])):=by
 obtain⟨A,hA,hR⟩:=hA;have CA:=yR v ps w A hv hA hl;have CN:=G6 (fun W (hW:B0 w W)=>AR0 v ps W (hv.next hW) (hL.next hW) hl);have CL:=G6 (fun W (hW:B0 w W)=>A65 v ps W (hv.next hW) (hL.next hW) hl);have HN:=G6 (fun h:A=0=>BS1 (ks:=ps.map kk) (by rw[h]at hA;exact hA));rw[EG]at hR;obtain⟨va,vc,rfl⟩:=GK hv;clear hv hL hA;generalize WL (ps.map kk)=N at*;generalize MJ (ps.map kk) ps.length=L at*;rcases hR with⟨h0,rfl,rfl,rfl⟩|⟨rfl,⟨h1,rfl,rfl,rfl⟩|⟨h1,⟨h2,rfl,rfl,rfl⟩|⟨h2,rfl,rfl,rfl⟩⟩⟩
 .go_enter func71,ntmps71;go_wp2_with fail;refine CA.mono ?_;rintro e w1 ⟨rfl,hb1⟩;have HB:=G6 hb1;clear CA hb1;go_wp2_with fail
  go_ret3
  exact⟨rfl,G5 HB⟩
 all_goals
  obtain⟨n0,n1⟩:=G5 HN rfl;go_enter func71,ntmps71;go_wp2_with fail;refine CA.mono ?_;rintro e w1 ⟨rfl,hb1⟩;have HB:=G6 hb1;clear CA hb1;go_wp2_with fail;refine(fG _).mono ?_;rintro e w2 ⟨rfl,rfl⟩
 .have h1':(ps.length:Int)<2:=by omega
  go_wp2_with fail
  go_ret3
  exact⟨rfl,G5 HB⟩
 .have h1':¬ (ps.length:Int)<2:=by omega
  have h2':N+1>2147483647:=by omega
  go_wp2_with fail;refine(G5 CN _ (G5 HB)).mono ?_;rintro e w3 ⟨rfl,hb3⟩;have HB3:=G6 (G8 (G5 HB) hb3);clear hb3;go_wp2_with fail
  go_ret3
  exact⟨rfl,G5 HB3⟩
 .have h1':¬ (ps.length:Int)<2:=by omega
  have h2':¬N+1>2147483647:=by omega
  go_wp2_with fail;refine(G5 CN _ (G5 HB)).mono ?_;rintro e w3 ⟨rfl,hb3⟩;have HB3:=G6 (G8 (G5 HB) hb3);clear hb3;go_wp2_with fail;refine(G5 CL _ (G5 HB3)).mono ?_;rintro e w4 ⟨rfl,hb4⟩;have HB4:=G6 (G8 (G5 HB3) hb4);clear hb4;go_wp2_with fail
  go_ret3
  exact⟨rfl,G5 HB4⟩
