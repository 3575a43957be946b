/-
  Part.
-/
import Derived.Test.YtnlikdglijgjpaaGreatDoorLOP
set_option maxRecDepth 20000
set_option maxHeartbeats 8000000
namespace Go.Proofs.YtnlikdglijgjpaaGreatDoor
open Go.RowKit Go.Proofs.Tryz
open _root_.Nat renaming le_refl->A8,zero_le->AY,add_assoc->EJ
open Go.RowKit.Below renaming refl->AA
open _root_.List renaming getElem?_eq_getElem->AL,getElem?_eq_some_iff->AU,mem_of_getElem?->AZ,length_map->EH
open Go.Value.slice renaming injEq->AP
open Go.World renaming cell?->AV
open Go.Value renaming slice->FT
open Go.Obj renaming cells->FU
open Go renaming World->FV,Value->FW,Calls->FX
open _root_.Option renaming none->FZ,some->G5
variable{n i b off g:Nat}{α:Type}{w W:FV}
abbrev Key:=Int×Int×Int
def AC1(pre:List Key)(k:Key):Int:=
 if pre.any (fun q=>q.1==k.1)=true then 8 else if k.1<0\/3<=k.1 then 3 else if k.2.1<0\/2147483647<k.2.1 then 3 else 0
def BW9(ks:List Key)(E:Int):Prop:=
 (E=0/\∀i k,ks[i]?=G5 k->AC1 (ks.take i) k=0)\/
 (E≠0/\∃n k,ks[n]?=G5 k/\AC1 (ks.take n) k=E/\∀i q,i<n->ks[i]?=G5 q->AC1 (ks.take i) q=0)
theorem wO{ks:List Key}{E:Int}(h:BW9 ks E)(hn:∀i q,i<n->ks[i]?=G5 q->AC1 (ks.take i) q=0){x:Key}(hx:ks[n]?=G5 x)(he:AC1 (ks.take n) x≠0):E=AC1 (ks.take n) x:=by
 rcases h with⟨_,h⟩|⟨h0,m,k,hk,e,h⟩
 .exact absurd (h n x hx) he
 .rcases Nat.lt_trichotomy m n with hl|hl|hl
  .exact absurd ((hn m k hl hk).symm.trans e).symm h0
  .subst hl;rw[hk]at hx
   cases hx
   exact e.symm
  .exact absurd (h n x hl hx) he
theorem C68{ks:List Key}{E:Int}(h:BW9 ks E)(hn:∀i q,i<ks.length->ks[i]?=G5 q->AC1 (ks.take i) q=0):E=0:=by
 rcases h with⟨h,_⟩|⟨h0,m,k,hk,e,_⟩
 .exact h
 .exact absurd ((hn m k (AU.1 hk).1 hk).symm.trans e).symm h0
def VN(ks:List Key):Int:=ks.foldl (fun a k=>max (max a k.2.1) (IY k.2.2)) 0
theorem B55(ks:List Key)(k:Key):VN (ks++[k])=max (max (VN ks) k.2.1) (IY k.2.2):=by simp[VN]
theorem PX{l:List α}{k:Nat}{x:α}(h:l[k]?=G5 x):l.take (k+1)=l.take k++[x]:=by
 obtain⟨hk,rfl⟩:=AU.1 h;exact List.take_succ_eq_append_getElem hk
def bet(p q:Key):Bool:=decide (q.2.2<p.2.2)||(decide (p.2.2=q.2.2)&&decide (q.1<p.1))
def MJ(ks:List Key):Nat->Nat
 |0=>0
 |n+1=>if bet (ks.getD n (0,0,0)) (ks.getD (MJ ks n) (0,0,0))=true then n else MJ ks n
theorem XA(ks:List Key):∀n,MJ ks n<max n 1
 |0=>by simp[MJ]
 |n+1=>by
  have:=XA ks n;unfold MJ
  split<;>omega
theorem A29{ks:List Key}{p q:Key}(hp:ks[n]?=G5 p)(hq:ks[MJ ks n]?=G5 q):MJ ks (n+1)=if bet p q=true then n else MJ ks n:=by
 rw[MJ,List.getD_eq_getElem?_getD,List.getD_eq_getElem?_getD,hp,hq];rfl
def CU8(ks:List Key)(k n E:Int):Prop:=
 ∃A,BW9 ks A/\((A≠0/\k=0/\n=0/\E=A)\/(A=0/\((ks.length<2/\k=0/\n=0/\E=14)\/(2<=ks.length/\((2147483647<VN ks+1/\k=0/\n=0/\E=6)\/(VN ks+1<=2147483647/\k=MJ ks ks.length/\n=VN ks+1/\E=0))))))
theorem BW9.ok{ks:List Key}(h:BW9 ks 0){k:Key}(hk:ks[i]?=G5 k):(∀q∈ks.take i,q.1≠k.1)/\0<=k.1/\k.1<3/\0<=k.2.1/\k.2.1<=2147483647:=by
 rcases h with⟨_,h⟩|⟨h,_⟩
 .have:=h i k hk;unfold AC1 at this;by_cases h1:(ks.take i).any (fun q=>q.1==k.1)=true
  .simp[h1]at this
  .by_cases h2:k.1<0\/3<=k.1
   .simp[h1,h2]at this
   .by_cases h3:k.2.1<0\/2147483647<k.2.1
    .simp[h1,h2,h3]at this
    .refine⟨fun q hq e=>h1 ?_,by omega,by omega,by omega,by omega⟩;exact List.any_eq_true.2 ⟨q,hq,by simp[e]⟩
 .exact absurd rfl h
theorem B56{ks:List Key}(M:Int)(h0:0<=M):(∀k∈ks,k.2.1<=M/\IY k.2.2<=M)->VN ks<=M:=by
 have main:∀ (l:List Key) (a:Int),a<=M->(∀k∈l,k.2.1<=M/\IY k.2.2<=M)->l.foldl (fun a k=>max (max a k.2.1) (IY k.2.2)) a<=M:=by
  intro l
  induction l with
  |nil=>intro a ha _;exact ha
  |cons x r ih=>
   intro a ha h;have:=h x (by simp);exact ih (max (max a x.2.1) (IY x.2.2)) (by omega) fun k hk=>h k (by simp[hk])
 exact main ks 0 h0
theorem C69{ks:List Key}{k:Key}(hk:k∈ks):k.2.1<=VN ks/\IY k.2.2<=VN ks:=by
 have up:∀ (l:List Key) (a:Int),a<=l.foldl (fun a k=>max (max a k.2.1) (IY k.2.2)) a:=by
  intro l
  induction l with
  |nil=>intro a;exact Int.le_refl _
  |cons x r ih=>intro a;exact Int.le_trans (show a<=max (max a x.2.1) (IY x.2.2) by omega) (ih _)
 have main:∀ (l:List Key) (a:Int),k∈l->k.2.1<=l.foldl (fun a k=>max (max a k.2.1) (IY k.2.2)) a/\IY k.2.2<=l.foldl (fun a k=>max (max a k.2.1) (IY k.2.2)) a:=by
  intro l
  induction l with
  |nil=>intro a h;simp at h
  |cons x r ih=>
   intro a h;rcases List.mem_cons.1 h with rfl|h
   .have:=up r (max (max a k.2.1) (IY k.2.2));constructor
    .exact Int.le_trans (by omega) this
    .exact Int.le_trans (by omega) this
   .exact ih _ h
 exact main ks 0 hk
theorem B57(z:Int):0<=IY z/\IY z<=2147483647:=by
 cases hg:KL z with
 |false=>rw[sK hg];decide
 |true=>
  have:=LY.1 hg;rw[LZ hg];omega
theorem kH(ks:List Key):0<=VN ks:=by
 have up:∀ (l:List Key) (a:Int),a<=l.foldl (fun a k=>max (max a k.2.1) (IY k.2.2)) a:=by
  intro l
  induction l with
  |nil=>intro a;exact Int.le_refl _
  |cons x r ih=>intro a;exact Int.le_trans (show a<=max (max a x.2.1) (IY x.2.2) by omega) (ih _)
 exact up ks 0
structure Pe where
 id:Int
 ep:Int
 a:Option Addr
 c:Nat
 ts:List GK
 dn:Int
def pe0:Pe:=⟨0,0,FZ,0,[],0⟩
def peV(p:Pe):FW:=.agg #[I0 p.id,I0 p.ep,FT p.a p.ts.length p.c,I0 p.dn]
def BX0(p:Pe):List FW:=[I0 p.id,I0 p.ep,FT p.a p.ts.length p.c,I0 p.dn]
instance layP:Lay Pe:=⟨4,BX0,54,fun _=>rfl,fun x u hu=>by simp[BX0]at hu;rcases hu with rfl|rfl|rfl|rfl<;>rfl⟩
structure Lg where
 a:Option Addr
 c:Nat
 ts:List GK
def lgV(l:Lg):FW:=FT l.a l.ts.length l.c
instance layG:Lay Lg:=⟨1,fun l=>[lgV l],52,fun _=>rfl,fun x u hu=>by simp at hu;subst hu;rfl⟩
def Pe.log(p:Pe):FW:=FT p.a p.ts.length p.c
def qP(w:FV)(ps:List Pe):Prop:=∀p∈ps,NT w p.log p.ts
theorem qP.next{w':FV}{ps:List Pe}(h:qP w ps)(hb:B0 w w'):qP w' ps:=fun p hp=>(h p hp).next hb
theorem IC.pe0{xs:List Pe}(h:IC w b off (GH xs)){x:Pe}(hi:xs[i]?=G5 x):w.cell? ⟨b,off+i*4,FZ⟩=G5 (I0 x.id):=
 h (i*4) _ (GV xs i x hi 0 (by decide))
theorem IC.pe1{xs:List Pe}(h:IC w b off (GH xs)){x:Pe}(hi:xs[i]?=G5 x):w.cell? ⟨b,off+i*4+1,FZ⟩=G5 (I0 x.ep):=by
 rw[EJ];exact h (i*4+1) _ (GV xs i x hi 1 (by decide))
theorem IC.pe2{xs:List Pe}(h:IC w b off (GH xs)){x:Pe}(hi:xs[i]?=G5 x):w.cell? ⟨b,off+i*4+2,FZ⟩=G5 (FT x.a x.ts.length x.c):=by
 rw[EJ];exact h (i*4+2) _ (GV xs i x hi 2 (by decide))
theorem IC.pe3{xs:List Pe}(h:IC w b off (GH xs)){x:Pe}(hi:xs[i]?=G5 x):w.cell? ⟨b,off+i*4+3,FZ⟩=G5 (I0 x.dn):=by
 rw[EJ];exact h (i*4+3) _ (GV xs i x hi 3 (by decide))
def XY(W:FV)(g:Nat)(p:Pe):Prop:=W.heap[g]?=G5 (FU #[I0 p.id,I0 p.ep,FT p.a p.ts.length p.c,I0 p.dn] 54 (0,0))
theorem XY.new(W:FV)(p:Pe):XY (W.alloc (FU #[I0 p.id,I0 p.ep,FT p.a p.ts.length p.c,I0 p.dn] 54)) W.heap.size p:=heap_alloc_new W _
theorem XY.next{V:FV}{p:Pe}(h:XY W g p)(hb:B0 W V):XY V g p:=(hb.block g (by unfold XY at h;exact(Array.getElem?_eq_some_iff.1 h).1)).trans h
theorem XY.lt{p:Pe}(h:XY W g p):g<W.heap.size:=by unfold XY at h;exact(Array.getElem?_eq_some_iff.1 h).1
theorem XY.c0{p:Pe}(h:XY W g p):W.cell? ⟨g,0,FZ⟩=G5 (I0 p.id):=by unfold XY at h;simp[AV,h]
theorem XY.c1{p:Pe}(h:XY W g p):W.cell? ⟨g,1,FZ⟩=G5 (I0 p.ep):=by unfold XY at h;simp[AV,h]
theorem XY.c2{p:Pe}(h:XY W g p):W.cell? ⟨g,2,FZ⟩=G5 (FT p.a p.ts.length p.c):=by unfold XY at h;simp[AV,h]
theorem XY.c3{p:Pe}(h:XY W g p):W.cell? ⟨g,3,FZ⟩=G5 (I0 p.dn):=by unfold XY at h;simp[AV,h]
theorem CL0:(prog.info? 54).map (fun i=>(i.zero,i.size,i.bytes))=G5 (G5 (peV pe0),4,48):=by kernel_rfl
theorem CU9:∃i0,prog.info? 54=G5 i0/\i0.zero=G5 (peV pe0)/\i0.size=4/\i0.bytes=48:=by
 obtain⟨i0,h,e⟩:=Option.map_eq_some_iff.1 CL0;simp only[Prod.mk.injEq]at e;exact⟨i0,h,e⟩
theorem eX{B:Nat}{a:FV}(h:Below B a w):Below B a (w.drewN n):=⟨h.os,h.tape,h.output,h.size,h.block⟩
theorem o7[Lay α]{v:FW}{xs:List α}(hv:IE w v xs){x:α}(hi:xs[i]?=G5 x):
  ∃b off cap,v=FT (G5 ⟨b,off,FZ⟩) xs.length cap/\b<w.heap.size/\IC w b off (GH xs)/\i<xs.length/\xs.length<=cap/\cap<=maxLen:=by
 obtain⟨hi',_⟩:=AU.1 hi;obtain⟨b,off,cap,e,hb,hr,h1,h2⟩:=N8 hv (fun h0=>by rw[h0]at hi';simp at hi');exact⟨b,off,cap,e,hb,hr,hi',h1,h2⟩
def nxN(ep z:Int):Int:=if ep<=IY z then iG z else if NM ep 0=0 then iG (KY ep 0)else 0
def nxE(ep z:Int):Int:=if ep<=IY z then VP z else if NM ep 0=0 then VP (KY ep 0)else NM ep 0
theorem BO6(p:Pe)(w:FV)(hp:NT w p.log p.ts):
  FX prog 80 #[peV p] w (R0 w (.tuple #[I0 (nxN p.ep (J3 p.ts)),I0 (nxE p.ep (J3 p.ts))])):=by
 have CL:=fun W (h:B0 w W)=>RP p.log p.ts W (hp.next h);have B0:=G8 w (FU #[I0 p.id,I0 p.ep,FT p.a p.ts.length p.c,I0 p.dn] 54);have P0:=XY.new w p;have C0:=CL _ B0;have HP:=G7 P0;have d2:=P0.c2;have HB:=G7 B0;clear CL P0 B0 hp;obtain⟨i,ep,a,c,ts,dn⟩:=p;simp only[Pe.log]at*;unfold peV;simp only;generalize J3 ts=z at*;have HE:=G7 (show (IY z>=ep->nxN ep z=iG z/\nxE ep z=VP z)/\(¬IY z>=ep->(NM ep 0=0->nxN ep z=iG (KY ep 0)/\nxE ep z=VP (KY ep 0))/\(NM ep 0≠0->nxN ep z=0/\nxE ep z=NM ep 0))from
  ⟨fun h=>by simp[nxN,nxE,h],fun h=>⟨fun k=>by simp[nxN,nxE,h,k],fun k=>by simp[nxN,nxE,h,k]⟩⟩)
 generalize nxN ep z=R at*;generalize nxE ep z=E at*;go_enter func80,ntmps80;go_wp2_with fail;refine C0.mono ?_;rintro e w1 ⟨rfl,hb1⟩;have HB1:Hid (B0 w w1):=G7 (G9 (G6 HB) (by rw[hb1];exact AA _ _));have d1:w1.cell? ⟨w.heap.size,1,FZ⟩=G5 (I0 ep):=((G6 HP).next (by rw[hb1];exact AA _ _)).c1;clear hb1;go_wp2_with fail
 go_quiet ((go_at_call 47;exact Calls.quiet_of_same (PW _ _)))
 by_cases h1:IY z>=ep
 .have HR:=G7 ((G6 HE).1 h1);go_wp2_with fail;refine(wR _ _).mono ?_;rintro e w2 ⟨rfl,rfl⟩;go_wp2_with fail
  go_ret2
  rw[(G6 HR).1,(G6 HR).2];exact⟨rfl,eX (G6 HB1)⟩
 .have HS:=G7 ((G6 HE).2 (by simpa using h1));go_wp2_with fail;refine(U6 _ _ _).mono ?_;rintro e w2 ⟨rfl,rfl⟩;by_cases h2:NM ep 0=0
  .have HR:=G7 ((G6 HS).1 h2);go_wp2_with fail;refine(wR _ _).mono ?_;rintro e w3 ⟨rfl,rfl⟩;go_wp2_with fail
   go_ret2
   rw[(G6 HR).1,(G6 HR).2];exact⟨rfl,eX (G6 HB1)⟩
  .have HR:=G7 ((G6 HS).2 h2);go_wp2_with fail
   go_ret2
   rw[(G6 HR).1,(G6 HR).2];exact⟨rfl,eX (G6 HB1)⟩
def AD8(x y:Int):Int:=if x<y then -1 else if y<x then 1 else 0
theorem dP(x:Int)(w:FV):FX prog 213 #[I0 x] w fun e w'=>e=.returned (.bool false)/\w'=w:=by
 go_enter func213,ntmps213;go_wp2_with fail;go_ret;exact⟨rfl,rfl⟩
theorem C92(x y:Int)(w:FV):FX prog 184 #[I0 x,I0 y] w fun e w'=>e=.returned (I0 (AD8 x y))/\w'=w:=by
 by_cases h:x<y
 .have e:AD8 x y=-1:=by simp[AD8,h]
  rw[e];clear e;go_enter func184,ntmps184;go_wp2_with fail;refine(dP _ _).mono ?_;rintro e w1 ⟨rfl,rfl⟩;go_wp2_with fail;refine(dP _ _).mono ?_;rintro e w1 ⟨rfl,rfl⟩;go_wp2_with fail;go_ret;exact⟨rfl,rfl⟩
 .by_cases h2:y<x
  .have e:AD8 x y=1:=by simp[AD8,h,h2]
   rw[e];clear e;go_enter func184,ntmps184;go_wp2_with fail;refine(dP _ _).mono ?_;rintro e w1 ⟨rfl,rfl⟩;go_wp2_with fail;refine(dP _ _).mono ?_;rintro e w1 ⟨rfl,rfl⟩;go_wp2_with fail;go_ret;exact⟨rfl,rfl⟩
  .have e:AD8 x y=0:=by simp[AD8,h,h2]
   rw[e];clear e;go_enter func184,ntmps184;go_wp2_with fail;refine(dP _ _).mono ?_;rintro e w1 ⟨rfl,rfl⟩;go_wp2_with fail;refine(dP _ _).mono ?_;rintro e w1 ⟨rfl,rfl⟩;go_wp2_with fail;go_ret;exact⟨rfl,rfl⟩
def orI(x y:Int):Int:=if x=0 then y else x
theorem CM3(g:Nat)(x y:Int)(w:FV)(h0:w.cell? ⟨g,0,FZ⟩=G5 (I0 x))(h1:w.cell? ⟨g,1,FZ⟩=G5 (I0 y)):
  FX prog 183 #[FT (G5 ⟨g,0,FZ⟩) 2 2] w fun e w'=>e=.returned (I0 (orI x y))/\w'=w:=by
 go_enter func183,ntmps183;go_wp2_with fail
 go_loopg [8] 2 (fun kx s8 wr=>∃k:Nat,s8=I0 k/\k<=2/\2-k<=kx/\wr=w/\(k=0\/k=1/\x=0\/k=2/\x=0/\y=0))
 case atStart=>exact⟨0,rfl,by omega,by omega,rfl,.inl rfl⟩
 case round=>
  obtain⟨k,rfl,hk,hkx,rfl,h⟩:=hrel;rcases h with rfl|⟨rfl,hx⟩|⟨rfl,hx,hy⟩
  .by_cases hx:x=0
   .go_wp2_with fail
    go_roundg 1
    case measure=>omega
    case rel=>exact⟨1,rfl,by omega,by omega,rfl,.inr (.inl ⟨rfl,hx⟩)⟩
   .have e:orI x y=x:=by simp[orI,hx]
    have HE:=G7 e;clear e;go_wp2_with fail;go_ret;rw[G6 HE];exact⟨rfl,rfl⟩
  .by_cases hy:y=0
   .go_wp2_with fail
    go_roundg 0
    case measure=>omega
    case rel=>exact⟨2,rfl,by omega,by omega,rfl,.inr (.inr ⟨rfl,hx,hy⟩)⟩
   .have e:orI x y=y:=by simp[orI,hx]
    have HE:=G7 e;clear e;go_wp2_with fail;go_ret;rw[G6 HE];exact⟨rfl,rfl⟩
  .have e:orI x y=0:=by simp[orI,hx,hy]
   have HE:=G7 e;clear e;go_wp2_with fail;go_ret;rw[G6 HE];exact⟨rfl,rfl⟩
theorem A37(p q:Pe)(w:FV)(hp:NT w p.log p.ts)(hq:NT w q.log q.ts):
  FX prog 141 #[peV p,peV q] w (R0 w (I0 (orI (AD8 (J3 p.ts) (J3 q.ts)) (AD8 p.id q.id)))):=by
 obtain⟨W0,hW0⟩:∃W0,W0=(w.alloc (FU #[I0 p.id,I0 p.ep,FT p.a p.ts.length p.c,I0 p.dn] 54)).alloc (FU #[I0 q.id,I0 q.ep,FT q.a q.ts.length q.c,I0 q.dn] 54):=⟨_,rfl⟩;have B0:B0 w W0:=by rw[hW0];exact G9 (G8 _ _) (G8 _ _)
 have P0:XY W0 w.heap.size p:=by rw[hW0];exact(XY.new w p).next (G8 _ _)
 have Q0:XY W0 (w.heap.size+1) q:=by
  rw[hW0];have:=XY.new (w.alloc (FU #[I0 p.id,I0 p.ep,FT p.a p.ts.length p.c,I0 p.dn] 54)) q;simpa using this
 have CP:=G7 (fun W (h:W=W0.drew)=>RP p.log p.ts W (by rw[h];exact(hp.next B0).drew));have CQ:=G7 (fun W (h:W=W0.drew)=>RP q.log q.ts W (by rw[h];exact(hq.next B0).drew));have p0:=P0.c0;have p2:=P0.c2;have q0:=Q0.c0;have q2:=Q0.c2;have HB:=G7 B0;have hlt:=Q0.lt;clear B0 P0 Q0 hp hq;obtain⟨i,ep,a,c,ts,dn⟩:=p;obtain⟨j,eq,b,d,us,dm⟩:=q;simp only[Pe.log]at*;unfold peV;simp only;generalize J3 ts=z at*;generalize J3 us=y at*;go_enter func141,ntmps141;go_upto_region 1 with fail;rw[<-hW0];clear hW0;have KO:Hid (∀x y:Int,(W0.alloc (FU #[I0 x,I0 y] 3)).drew.cell? ⟨W0.heap.size,0,FZ⟩=G5 (I0 x)/\(W0.alloc (FU #[I0 x,I0 y] 3)).drew.cell? ⟨W0.heap.size,1,FZ⟩=G5 (I0 y)):=G7 (fun x y=>by
  have h:=heap_alloc_new W0 (FU #[I0 x,I0 y] 3);show (W0.alloc (FU #[I0 x,I0 y] 3)).cell? ⟨W0.heap.size,0,FZ⟩=G5 (I0 x)/\(W0.alloc (FU #[I0 x,I0 y] 3)).cell? ⟨W0.heap.size,1,FZ⟩=G5 (I0 y);unfold AV;rw[h];exact⟨rfl,rfl⟩)
 have HBO:Hid (∀o:Obj,B0 w (W0.alloc o).drew):=G7 (fun o=>(G9 (G6 HB) (G8 _ _)).drew);have K:Hid (∀W,W=W0.drew->W.cell? ⟨w.heap.size,0,FZ⟩=G5 (I0 i)/\W.cell? ⟨w.heap.size,2,FZ⟩=G5 (FT a ts.length c)/\W.cell? ⟨w.heap.size+1,0,FZ⟩=G5 (I0 j)/\W.cell? ⟨w.heap.size+1,2,FZ⟩=G5 (FT b us.length d)):=G7 (fun W h=>by rw[h];exact⟨p0,p2,q0,q2⟩);have KA:Hid (∀o:Obj,(W0.alloc o).drew.cell? ⟨w.heap.size,0,FZ⟩=G5 (I0 i)/\(W0.alloc o).drew.cell? ⟨w.heap.size,2,FZ⟩=G5 (FT a ts.length c)/\(W0.alloc o).drew.cell? ⟨w.heap.size+1,0,FZ⟩=G5 (I0 j)/\(W0.alloc o).drew.cell? ⟨w.heap.size+1,2,FZ⟩=G5 (FT b us.length d)):=G7 (fun o=>by
  have h:B0 W0 (W0.alloc o).drew:=(G8 W0 o).drew;exact⟨(h.cell (p:=⟨w.heap.size,0,FZ⟩) (by simp only;omega)).trans p0,(h.cell (p:=⟨w.heap.size,2,FZ⟩) (by simp only;omega)).trans p2,(h.cell (p:=⟨w.heap.size+1,0,FZ⟩) (by simp only;omega)).trans q0,(h.cell (p:=⟨w.heap.size+1,2,FZ⟩) (by simp only;omega)).trans q2⟩)
 have KZ:=G7 (And.intro p0 (And.intro p2 (And.intro q0 q2)))
 go_region_held3 (fun w'=>w'.cell? ⟨w.heap.size,0,FZ⟩=G5 (I0 i)/\w'.cell? ⟨w.heap.size,2,FZ⟩=G5 (FT a ts.length c)/\w'.cell? ⟨w.heap.size+1,0,FZ⟩=G5 (I0 j)/\w'.cell? ⟨w.heap.size+1,2,FZ⟩=G5 (FT b us.length d)) (first|with_reducible exact G6 KZ|with_reducible exact G6 K _ rfl|with_reducible exact G6 KA _) (first
  |(go_at_call 63;first|(with_reducible refine(G6 CP _ rfl).mono ?_;rintro e w1 ⟨rfl,rfl⟩)|(with_reducible refine(G6 CQ _ rfl).mono ?_;rintro e w1 ⟨rfl,rfl⟩))
  |(go_at_call 184;refine(C92 _ _ _).mono ?_;rintro e w1 ⟨rfl,rfl⟩)
  |(go_at_call 183;refine(CM3 _ _ _ _ (G6 KO _ _).1 (G6 KO _ _).2).mono ?_;rintro e w1 ⟨rfl,rfl⟩))
 all_goals go_wp2_with fail
 all_goals go_ret
 all_goals exact⟨rfl,G6 HBO _⟩
def kk(p:Pe):Key:=(p.id,p.ep,J3 p.ts)
theorem AD9{ps:List Pe}{p:Pe}(h:ps[i]?=G5 p):(ps.map kk)[i]?=G5 (kk p):=by rw[List.getElem?_map,h];rfl
theorem C93(ps:List Pe)(i:Nat):(ps.map kk).take i=(ps.take i).map kk:=by rw[List.map_take]
theorem B77{i:Int}{b:Bool}(h:decide (0<=i)=b):Ending.returned (.bool (decide (0<=i)))=.returned (.bool b):=by rw[h]
theorem AE0[Lay α]{cap:Nat}{xs:List α}(h:IE w (FT (G5 ⟨b,off,FZ⟩) n cap) xs)(k:Nat)(hk:k<=xs.length):IE w (FT (G5 ⟨b,off,FZ⟩) k cap) (xs.take k):=by
 have hl:(xs.take k).length=k:=by simp;omega
 rcases h with⟨a,c,e,rfl,hm⟩|⟨b',off',cap',e,h1,h2,h3,h0,h4⟩
 .simp only[AP]at e;obtain⟨_,_,rfl⟩:=e;simp only[List.length_nil,Nat.le_zero]at hk;subst hk;exact .inl ⟨_,_,rfl,rfl,hm⟩
 .simp only[AP,Option.some.injEq,Addr.mk.injEq,and_true]at e;obtain⟨⟨rfl,rfl⟩,_,rfl⟩:=e;by_cases hz:k=0
  .subst hz;exact .inl ⟨_,_,rfl,by simp,h2⟩
  .refine .inr ⟨b,off,cap,by rw[hl],by omega,h2,h3,fun e=>by rw[e]at hl;simp at hl;omega,fun j u hj=>h4 j u ?_⟩;have e:GH xs=GH (xs.take k)++GH (xs.drop k):=by rw[<-H6,List.take_append_drop]
   rw[e,List.getElem?_append_left (AU.1 hj).1];exact hj
theorem BQ3(q p:Pe)(g:Nat)(w:FV)(hp:XY w g p):
  FX prog 139 #[peV q,P0 g] w (R0 w (.bool (q.id==p.id))):=by
 have B0:=G8 w (FU #[I0 q.id,I0 q.ep,FT q.a q.ts.length q.c,I0 q.dn] 54);have e0:=(hp.next B0).c0;have f0:=(XY.new w q).c0;have HB:=G7 B0;obtain⟨i,ep,a,c,ts,dn⟩:=q;obtain⟨j,eq,b,d,us,dm⟩:=p;simp only at*;clear hp B0;unfold peV;simp only;go_enter func139,ntmps139;go_wp2_with fail;go_ret;refine⟨?_,G6 HB⟩;by_cases h:i=j<;>simp[h]
theorem C94(v:FW)(xs:List Pe)(p:Pe)(g:Nat)(w:FV)(hv:IE w v xs)(hp:XY w g p)(hl:xs.length<=140737488355328):
  FX prog 182 #[v,.func (.func 139) #[] #[P0 g]] w fun e w'=>(∃i:Int,e=.returned (I0 i)/\decide (0<=i)=xs.any (fun q=>q.id==p.id))/\B0 w w':=by
 have HV:=G7 hv;have HP:=G7 hp;have HS:=G7 (fun q W h=>BQ3 q p g W h);obtain⟨va,vc,rfl⟩:=GL hv;clear hv hp;unfold peV at HS;go_enter func182,ntmps182;go_wp2_with fail
 go_loopg [8] xs.length (fun kx s8 wr=>∃k:Nat,s8=I0 k/\k<=xs.length/\xs.length-k<=kx/\Hid ((xs.take k).any (fun q=>q.id==p.id)=false)/\Hid (B0 w wr))
 case atStart=>exact⟨0,rfl,AY _,A8 _,G7 (by simp),G7 (AA _ _)⟩
 case round=>
  obtain⟨k,rfl,hk,hg,hh,hB⟩:=hrel;by_cases hlt:k<xs.length
  .obtain⟨y,hy⟩:∃y,xs[k]?=G5 y:=⟨_,AL hlt⟩;obtain⟨b,off,cap,he,hb,q,_⟩:=o7 ((G6 HV).next (G6 hB)) hy;simp only[AP]at he;obtain⟨rfl,_,rfl⟩:=he;have d0:=q.pe0 hy;have d1:=q.pe1 hy;have d2:=q.pe2 hy;have d3:=q.pe3 hy;have hkk:(k:Int)<(xs.length:Int):=by omega
   have C:=G6 HS y wr ((G6 HP).next (G6 hB));have HM:Hid (y∈xs):=G7 (AZ hy);have HT:=G7 (PX hy);clear q hy hb
   cases hxy:(y.id==p.id)
   .rw[hxy]at C;have HX:=G7 hxy;clear hxy;go_wp2_with fail;refine C.mono ?_;rintro e w1 ⟨rfl,hb1⟩;have hB1:=G9 (G6 hB) hb1;clear C hb1;go_wp2_with fail
    go_roundg (xs.length-(k+1))
    case measure=>omega
    case rel=>exact⟨k+1,rfl,by omega,A8 _,G7 (by rw[G6 HT,List.any_append,G6 hh];simpa using G6 HX),G7 hB1⟩
   .rw[hxy]at C;have HX:=G7 (show xs.any (fun q=>q.id==p.id)=true from List.any_eq_true.2 ⟨y,G6 HM,hxy⟩);clear hxy;go_wp2_with fail;refine C.mono ?_;rintro e w1 ⟨rfl,hb1⟩;have hB1:=G9 (G6 hB) hb1;clear C hb1;go_wp2_with fail;go_ret;exact⟨⟨k,rfl,by rw[G6 HX];simp⟩,hB1⟩
  .obtain rfl:k=xs.length:=by omega
   have hh2:=G6 hh;rw[List.take_length]at hh2;have HH:=G7 hh2;have hki:¬ ((xs.length:Int)<(xs.length:Int)):=by omega
   clear hh2;go_wp2_with fail;go_ret;exact⟨⟨-1,rfl,by rw[G6 HH];rfl⟩,G6 hB⟩
theorem C95(v:FW)(xs:List Pe)(p:Pe)(g:Nat)(w:FV)(hv:IE w v xs)(hp:XY w g p)(hl:xs.length<=140737488355328):
  FX prog 140 #[v,.func (.func 139) #[] #[P0 g]] w (R0 w (.bool (xs.any (fun q=>q.id==p.id)))):=by
 have C:=C94 v xs p g w hv hp hl;obtain⟨va,vc,rfl⟩:=GL hv;generalize xs.any (fun q=>q.id==p.id)=r at C⊢;clear hv hp;go_enter func140,ntmps140;go_wp2_with fail;refine C.mono ?_;rintro e w1 ⟨⟨i,rfl,hi⟩,hb1⟩;have HB:=G7 hb1;have HI:=G7 hi;clear C hb1 hi;go_wp2_with fail;go_ret;exact⟨B77 (G6 HI),G6 HB⟩
theorem CM4(ps:List Pe)(k:Nat)(p:Pe):((ps.map kk).take k).any (fun q=>q.1==(kk p).1)=(ps.take k).any (fun q=>q.id==p.id):=by
 rw[C93,List.any_map];rfl
theorem CM5(ps:List Pe)(k:Nat)(p:Pe):AC1 ((ps.map kk).take k) (kk p)=if(ps.take k).any (fun q=>q.id==p.id)=true then 8 else if p.id<0\/3<=p.id then 3 else if p.ep<0\/2147483647<p.ep then 3 else 0:=by
 unfold AC1;rw[CM4];rfl
theorem xK(v:FW)(ps:List Pe)(w:FV)(E:Int)(hv:IE w v ps)(hA:BW9 (ps.map kk) E)(hl:ps.length<=140737488355328):
  FX prog 97 #[v] w (R0 w (I0 E)):=by
 have HV:=G7 hv;have HA:=G7 hA;obtain⟨va,vc,rfl⟩:=GL hv;clear hv hA;go_enter func97,ntmps97;go_wp2_with fail
 go_loopg [8] ps.length (fun kx s8 wr=>∃k:Nat,s8=I0 k/\k<=ps.length/\ps.length-k<=kx/\Hid (∀i q,i<k->(ps.map kk)[i]?=G5 q->AC1 ((ps.map kk).take i) q=0)/\Hid (B0 w wr))
 case atStart=>exact⟨0,rfl,AY _,A8 _,G7 (fun i q h=>by omega),G7 (AA _ _)⟩
 case round=>
  obtain⟨k,rfl,hk,hg,HI,hB⟩:=hrel;by_cases hlt:k<ps.length
  .obtain⟨p,hp⟩:∃p,ps[k]?=G5 p:=⟨_,AL hlt⟩;obtain⟨b,off,cap,he,hb,q,_,hcap,_⟩:=o7 ((G6 HV).next (G6 hB)) hp;simp only[AP]at he;obtain⟨rfl,_,rfl⟩:=he;have d0:=q.pe0 hp;have d1:=q.pe1 hp;have d2:=q.pe2 hp;have d3:=q.pe3 hp;have hkk:(k:Int)<(ps.length:Int):=by omega
   have HX:=G7 (AD9 hp);have HE:=G7 (CM5 ps k p);have HAl:=G7 (G8 wr (FU #[I0 p.id,I0 p.ep,FT p.a p.ts.length p.c,I0 p.dn] 54));have HP:=G7 (XY.new wr p);have HC:=G7 (fun W (hW:B0 w W) (hP:XY W wr.heap.size p)=>C95 _ (ps.take k) p wr.heap.size W (AE0 ((G6 HV).next hW) k (by omega)) hP (by simp;omega));have hcap2:k<=vc:=by omega
   clear q hp hb;obtain⟨id,ep,pa,pc,ts,dn⟩:=p;simp only at*;go_wp2_with fail;refine(G6 HC _ (G9 (G6 hB) (G6 HAl)) (G6 HP)).mono ?_;rintro e w2 ⟨rfl,hb2⟩;have P2:=(G6 HP).next hb2;have c0:=P2.c0;have c1:=P2.c1;have HB2:=G7 (G9 (G9 (G6 hB) (G6 HAl)) hb2);clear P2 hb2 HC HAl HP d0 d1 d2 d3
   cases hA:(ps.take k).any (fun q=>q.id==id)
   .rw[hA]at HE;simp only at c0 c1;by_cases h1:id<0
    .have HR:=G7 (wO (G6 HA) (G6 HI) (G6 HX) (by rw[G6 HE];simp[h1]));rw[G6 HE]at HR;have HR2:Hid (E=3):=G7 (by rw[G6 HR];simp[h1]);clear hA;go_wp2_with fail;go_ret;rw[G6 HR2];exact⟨rfl,G6 HB2⟩
    .by_cases h2:id>=3
     .have HR:=G7 (wO (G6 HA) (G6 HI) (G6 HX) (by rw[G6 HE];simp[h2]));rw[G6 HE]at HR;have HR2:Hid (E=3):=G7 (by rw[G6 HR];simp[h2]);clear hA;go_wp2_with fail;go_ret;rw[G6 HR2];exact⟨rfl,G6 HB2⟩
     .by_cases h3:ep<0
      .have HR:=G7 (wO (G6 HA) (G6 HI) (G6 HX) (by rw[G6 HE];simp[h3]));rw[G6 HE]at HR;have HR2:Hid (E=3):=G7 (by rw[G6 HR];simp[h3]);clear hA;go_wp2_with fail;go_ret;rw[G6 HR2];exact⟨rfl,G6 HB2⟩
      .by_cases h4:ep>2147483647
       .have h4':2147483647<ep:=h4;have HR:=G7 (wO (G6 HA) (G6 HI) (G6 HX) (by rw[G6 HE];simp[h4']));rw[G6 HE]at HR;have HR2:Hid (E=3):=G7 (by rw[G6 HR];simp[h4']);clear hA;go_wp2_with fail;go_ret;rw[G6 HR2];exact⟨rfl,G6 HB2⟩
       .have HZ:Hid (AC1 ((ps.map kk).take k) (kk ⟨id,ep,pa,pc,ts,dn⟩)=0):=G7 (by rw[G6 HE];simp;omega);have HI2:Hid (∀i q,i<k+1->(ps.map kk)[i]?=G5 q->AC1 ((ps.map kk).take i) q=0):=G7 (fun i q hi hq=>by
         by_cases e:i=k
         .subst e;rw[G6 HX]at hq
          cases hq
          exact G6 HZ
         .exact G6 HI i q (by omega) hq)
        clear hA;go_wp2_with fail
        go_roundg (ps.length-(k+1))
        case measure=>omega
        case rel=>exact⟨k+1,rfl,by omega,A8 _,HI2,HB2⟩
   .rw[hA]at HE;have HR:=G7 (wO (G6 HA) (G6 HI) (G6 HX) (by rw[G6 HE];simp));rw[G6 HE]at HR;have HR2:Hid (E=8):=G7 (by rw[G6 HR];simp);clear hA;go_wp2_with fail;go_ret;rw[G6 HR2];exact⟨rfl,G6 HB2⟩
  .obtain rfl:k=ps.length:=by omega
   have hki:¬ ((ps.length:Int)<(ps.length:Int)):=by omega
   have HR:=G7 (C68 (G6 HA) (by rw[EH];exact G6 HI));go_wp2_with fail;go_ret;rw[G6 HR];exact⟨rfl,G6 hB⟩
theorem AO5(v:FW)(ps:List Pe)(w:FV)(hv:IE w v ps)(hL:qP w ps)(hl:ps.length<=140737488355328):
  FX prog 98 #[v] w (R0 w (I0 (VN (ps.map kk)))):=by
 have HV:=G7 hv;have HL:=G7 hL;obtain⟨va,vc,rfl⟩:=GL hv;clear hv hL;go_enter func98,ntmps98;go_wp2_with fail
 go_loopg [3,8] ps.length (fun kx s3 s8 wr=>∃ (k:Nat) (m:Int),s3=I0 m/\s8=I0 k/\k<=ps.length/\ps.length-k<=kx/\Hid (VN ((ps.map kk).take k)=m)/\Hid (B0 w wr))
 case atStart=>exact⟨0,0,rfl,rfl,AY _,A8 _,G7 rfl,G7 (AA _ _)⟩
 case round=>
  obtain⟨k,m,rfl,rfl,hk,hg,HM,hB⟩:=hrel;by_cases hlt:k<ps.length
  .obtain⟨p,hp⟩:∃p,ps[k]?=G5 p:=⟨_,AL hlt⟩;obtain⟨b,off,cap,he,hb,q,_,hcap,_⟩:=o7 ((G6 HV).next (G6 hB)) hp;simp only[AP]at he;obtain⟨rfl,_,rfl⟩:=he;have d0:=q.pe0 hp;have d1:=q.pe1 hp;have d2:=q.pe2 hp;have d3:=q.pe3 hp;have hkk:(k:Int)<(ps.length:Int):=by omega
   have HN:Hid (VN ((ps.map kk).take (k+1))=max (max m p.ep) (IY (J3 p.ts))):=G7 (by rw[PX (AD9 hp),B55,G6 HM];rfl);have HAl:=G7 (G8 wr (FU #[I0 p.id,I0 p.ep,FT p.a p.ts.length p.c,I0 p.dn] 54));have HP:=G7 (XY.new wr p);have HC:=G7 (fun W (hW:B0 w W)=>RP p.log p.ts W ((G6 HL p (AZ hp)).next hW));clear q hp hb;obtain⟨id,ep,pa,pc,ts,dn⟩:=p;simp only[Pe.log]at*;generalize J3 ts=z at*;go_upto_region 5 with fail;obtain⟨W1,hW1⟩:∃W1,W1=wr.alloc (FU #[I0 id,I0 ep,FT pa ts.length pc,I0 dn] 54):=⟨_,rfl⟩;rw[<-hW1]at HAl HP⊢;have e1:=(G6 HP).c1;have e2:=(G6 HP).c2;simp only at e1 e2;have HB1:=G7 (G9 (G6 hB) (G6 HAl));have HCN:=G7 (fun n=>G6 HC (W1.drewN n) (eX (G6 HB1)));clear hW1 HC HAl HP d0 d1 d2 d3;by_cases c1:m<ep
   .by_cases c2:ep<IY z
    .go_quiet (first|(go_at_call 63;exact Calls.quiet_of_same (G6 HCN _))|(go_at_call 47;exact Calls.quiet_of_same (PW _ _)))
     go_wp2_with fail
     go_roundg (ps.length-(k+1))
     case measure=>omega
     case rel=>exact⟨k+1,IY z,rfl,rfl,by omega,A8 _,G7 ((G6 HN).trans (by omega)),G7 (eX (G6 HB1))⟩
    .go_quiet (first|(go_at_call 63;exact Calls.quiet_of_same (G6 HCN _))|(go_at_call 47;exact Calls.quiet_of_same (PW _ _)))
     go_wp2_with fail
     go_roundg (ps.length-(k+1))
     case measure=>omega
     case rel=>exact⟨k+1,ep,rfl,rfl,by omega,A8 _,G7 ((G6 HN).trans (by omega)),G7 (eX (G6 HB1))⟩
   .by_cases c2:m<IY z
    .go_quiet (first|(go_at_call 63;exact Calls.quiet_of_same (G6 HCN _))|(go_at_call 47;exact Calls.quiet_of_same (PW _ _)))
     go_wp2_with fail
     go_roundg (ps.length-(k+1))
     case measure=>omega
     case rel=>exact⟨k+1,IY z,rfl,rfl,by omega,A8 _,G7 ((G6 HN).trans (by omega)),G7 (eX (G6 HB1))⟩
    .go_quiet (first|(go_at_call 63;exact Calls.quiet_of_same (G6 HCN _))|(go_at_call 47;exact Calls.quiet_of_same (PW _ _)))
     go_wp2_with fail
     go_roundg (ps.length-(k+1))
     case measure=>omega
     case rel=>exact⟨k+1,m,rfl,rfl,by omega,A8 _,G7 ((G6 HN).trans (by omega)),G7 (eX (G6 HB1))⟩
  .obtain rfl:k=ps.length:=by omega
   have hki:¬ ((ps.length:Int)<(ps.length:Int)):=by omega
   have HR:Hid (VN (ps.map kk)=m):=G7 (by
    have:=G6 HM;rwa[show (ps.map kk).take ps.length=ps.map kk by rw[List.take_of_length_le (by simp)]]at this)
   go_wp2_with fail;go_ret;rw[G6 HR];exact⟨rfl,G6 hB⟩
theorem CM6(p q:Pe):decide (0<orI (AD8 (J3 p.ts) (J3 q.ts)) (AD8 p.id q.id))=bet (kk p) (kk q):=by
 unfold orI AD8 bet kk;simp only;by_cases h1:J3 p.ts<J3 q.ts
 .have h2:¬J3 q.ts<J3 p.ts:=by omega
  have h3:¬J3 p.ts=J3 q.ts:=by omega
  simp[h1,h2,h3]
 .by_cases h2:J3 q.ts<J3 p.ts
  .simp[h1,h2]
  .have h3:J3 p.ts=J3 q.ts:=by omega
   rw[h3];by_cases h4:p.id<q.id
   .have h5:¬q.id<p.id:=by omega
    simp[h4,h5]
   .by_cases h5:q.id<p.id
    .simp[h4,h5]
    .simp[h4,h5]
theorem A38(v:FW)(ps:List Pe)(w:FV)(hv:IE w v ps)(hL:qP w ps)(hl:ps.length<=140737488355328):
  FX prog 99 #[v] w (R0 w (I0 (MJ (ps.map kk) ps.length))):=by
 have HV:=G7 hv;have HL:=G7 hL;obtain⟨va,vc,rfl⟩:=GL hv;clear hv hL;go_enter func99,ntmps99;go_wp2_with fail
 go_loopg [3,8] ps.length (fun kx s3 s8 wr=>∃ (k m:Nat),s3=I0 m/\s8=I0 k/\k<=ps.length/\ps.length-k<=kx/\Hid (MJ (ps.map kk) k=m)/\Hid (B0 w wr))
 case atStart=>exact⟨0,0,rfl,rfl,AY _,A8 _,G7 rfl,G7 (AA _ _)⟩
 case round=>
  obtain⟨k,m,rfl,rfl,hk,hg,HM,hB⟩:=hrel;by_cases hlt:k<ps.length
  .obtain⟨p,hp⟩:∃p,ps[k]?=G5 p:=⟨_,AL hlt⟩;have hm:m<ps.length:=by have:=XA (ps.map kk) k;rw[G6 HM]at this;omega
   obtain⟨r,hr⟩:∃r,ps[m]?=G5 r:=⟨_,AL hm⟩;obtain⟨b,off,cap,he,hb,q,_,hcap,_⟩:=o7 ((G6 HV).next (G6 hB)) hp;simp only[AP]at he;obtain⟨rfl,_,rfl⟩:=he;have d0:=q.pe0 hp;have d1:=q.pe1 hp;have d2:=q.pe2 hp;have d3:=q.pe3 hp;have hkk:(k:Int)<(ps.length:Int):=by omega
   have hmm:(m:Int)<(ps.length:Int):=by omega
   have HN:Hid (MJ (ps.map kk) (k+1)=if bet (kk p) (kk r)=true then k else m):=G7 (by rw[A29 (AD9 hp) (by rw[G6 HM];exact AD9 hr),G6 HM]);have HAl:=G7 (G8 wr (FU #[I0 p.id,I0 p.ep,FT p.a p.ts.length p.c,I0 p.dn] 54));have HP:=G7 (XY.new wr p);have HC:=G7 (fun W (hW:B0 w W)=>A37 p r W ((G6 HL p (AZ hp)).next hW) ((G6 HL r (AZ hr)).next hW));have CS1:=G7 (CM6 p r);have HRW:Hid (∀W,B0 wr W->W.cell? ⟨b,off+m*4,FZ⟩=G5 (I0 r.id)/\W.cell? ⟨b,off+m*4+1,FZ⟩=G5 (I0 r.ep)/\W.cell? ⟨b,off+m*4+2,FZ⟩=G5 (FT r.a r.ts.length r.c)/\W.cell? ⟨b,off+m*4+3,FZ⟩=G5 (I0 r.dn)):=G7 (fun W hW=>by
    have q':=q.kept hW hb;exact⟨q'.pe0 hr,q'.pe1 hr,q'.pe2 hr,q'.pe3 hr⟩)
   clear q hp hb hr;generalize bet (kk p) (kk r)=B at*;unfold peV at HC;obtain⟨id,ep,pa,pc,ts,dn⟩:=p;obtain⟨jd,eq,qa,qc,us,dm⟩:=r;simp only at*;generalize orI (AD8 (J3 ts) (J3 us)) (AD8 id jd)=R at*;go_upto_region 5 with fail;obtain⟨W1,hW1⟩:∃W1,W1=wr.alloc (FU #[I0 id,I0 ep,FT pa ts.length pc,I0 dn] 54):=⟨_,rfl⟩;rw[<-hW1]at HAl HP⊢;have e0:=(G6 HP).c0;have e1:=(G6 HP).c1;have e2:=(G6 HP).c2;have e3:=(G6 HP).c3;simp only at e0 e1 e2 e3;obtain⟨f0,f1,f2,f3⟩:=G6 HRW W1 (G6 HAl);have HB1:=G7 (G9 (G6 hB) (G6 HAl));have hbw:b<W1.heap.size:=World.block_lt_of_cell? _ _ f0;have hpw:=(G6 HP).lt;clear hW1 HAl HP d0 d1 d2 d3 HRW;have c0':=fun d os=>Calls.regrown_of (w:=W1) (d:=d) (os:=os) (G6 HC _ (G9 (G6 HB1) (below_regrown W1 d os)));have g0:=fun d os=>cell_regrown e0 d os;have g1:=fun d os=>cell_regrown e1 d os;have g2:=fun d os=>cell_regrown e2 d os;have g3:=fun d os=>cell_regrown e3 d os;have r0:=fun d os=>cell_regrown f0 d os;have r1:=fun d os=>cell_regrown f1 d os;have r2:=fun d os=>cell_regrown f2 d os;have r3:=fun d os=>cell_regrown f3 d os;clear e0 e1 e2 e3 f0 f1 f2 f3 HC;refine wp_region_quiet_below (by kernel_rfl) (by kernel_rfl) ?_
   repeat (first|go_big_quiet_step (with_reducible exact c0' _ _)|quiet_step (with_reducible exact c0' _ _))
   refine wpQuiet_nil ?_;intro _ hw';obtain⟨⟨dq,osq⟩,hw''⟩:=hw';subst hw'';have HB2:=G7 (G9 (G6 HB1) (below_regrown W1 dq osq));clear c0' g0 g1 g2 g3 r0 r1 r2 r3;generalize Go.Sort.grow (redrawn W1 dq) osq=W2 at*
   cases B
   .have hR:¬R>0:=by have:=G6 CS1;simp at this;omega
    have HN2:Hid (MJ (ps.map kk) (k+1)=m):=G7 (by rw[G6 HN];simp);clear CS1 HN;go_wp2_with fail
    go_roundg (ps.length-(k+1))
    case measure=>omega
    case rel=>exact⟨k+1,m,rfl,rfl,by omega,A8 _,HN2,HB2⟩
   .have hR:R>0:=by have:=G6 CS1;simp at this;omega
    have HN2:Hid (MJ (ps.map kk) (k+1)=k):=G7 (by rw[G6 HN];simp);clear CS1 HN;go_wp2_with fail
    go_roundg (ps.length-(k+1))
    case measure=>omega
    case rel=>exact⟨k+1,k,rfl,rfl,by omega,A8 _,HN2,HB2⟩
  .obtain rfl:k=ps.length:=by omega
   have hki:¬ ((ps.length:Int)<(ps.length:Int)):=by omega
   go_wp2_with fail;go_ret;rw[G6 HM];exact⟨rfl,G6 hB⟩
theorem dQ(w:FV):FX prog 50 #[] w fun e w'=>e=.returned (I0 2)/\w'=w:=by
 go_enter func50,ntmps50;go_wp2_with fail;go_ret;exact⟨rfl,rfl⟩
theorem BQ4{ks:List Key}(h:BW9 ks 0):0<=VN ks/\VN ks<=2147483647:=
 ⟨kH ks,B56 2147483647 (by decide) fun k hk=>by
  obtain⟨i,hi⟩:=List.getElem?_of_mem hk;have:=h.ok hi;have:=B57 k.2.2;omega⟩
theorem xM(v:FW)(ps:List Pe)(w:FV)(k n E:Int)(hv:IE w v ps)(hL:qP w ps)(hA:CU8 (ps.map kk) k n E)(hl:ps.length<=140737488355328):
  FX prog 60 #[v] w (R0 w (.tuple #[I0 k,I0 n,I0 E])):=by
 obtain⟨A,hA,hR⟩:=hA;have CA:=xK v ps w A hv hA hl;have CN:=G7 (fun W (hW:B0 w W)=>AO5 v ps W (hv.next hW) (hL.next hW) hl);have CL:=G7 (fun W (hW:B0 w W)=>A38 v ps W (hv.next hW) (hL.next hW) hl);have HN:=G7 (fun h:A=0=>BQ4 (ks:=ps.map kk) (by rw[h]at hA;exact hA));rw[EH]at hR;obtain⟨va,vc,rfl⟩:=GL hv;clear hv hL hA;generalize VN (ps.map kk)=N at*;generalize MJ (ps.map kk) ps.length=L at*;rcases hR with⟨h0,rfl,rfl,rfl⟩|⟨rfl,⟨h1,rfl,rfl,rfl⟩|⟨h1,⟨h2,rfl,rfl,rfl⟩|⟨h2,rfl,rfl,rfl⟩⟩⟩
 .go_enter func60,ntmps60;go_wp2_with fail;refine CA.mono ?_;rintro e w1 ⟨rfl,hb1⟩;have HB:=G7 hb1;clear CA hb1;go_wp2_with fail
  go_ret3
  exact⟨rfl,G6 HB⟩
 all_goals
  obtain⟨n0,n1⟩:=G6 HN rfl;go_enter func60,ntmps60;go_wp2_with fail;refine CA.mono ?_;rintro e w1 ⟨rfl,hb1⟩;have HB:=G7 hb1;clear CA hb1;go_wp2_with fail;refine(dQ _).mono ?_;rintro e w2 ⟨rfl,rfl⟩
 .have h1':(ps.length:Int)<2:=by omega
  go_wp2_with fail
  go_ret3
  exact⟨rfl,G6 HB⟩
 .have h1':¬ (ps.length:Int)<2:=by omega
  have h2':N+1>2147483647:=by omega
  go_wp2_with fail;refine(G6 CN _ (G6 HB)).mono ?_;rintro e w3 ⟨rfl,hb3⟩;have HB3:=G7 (G9 (G6 HB) hb3);clear hb3;go_wp2_with fail
  go_ret3
  exact⟨rfl,G6 HB3⟩
 .have h1':¬ (ps.length:Int)<2:=by omega
  have h2':¬N+1>2147483647:=by omega
  go_wp2_with fail;refine(G6 CN _ (G6 HB)).mono ?_;rintro e w3 ⟨rfl,hb3⟩;have HB3:=G7 (G9 (G6 HB) hb3);clear hb3;go_wp2_with fail;refine(G6 CL _ (G6 HB3)).mono ?_;rintro e w4 ⟨rfl,hb4⟩;have HB4:=G7 (G9 (G6 HB3) hb4);clear hb4;go_wp2_with fail
  go_ret3
  exact⟨rfl,G6 HB4⟩
