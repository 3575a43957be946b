/-
  Part.
-/
import Derived.Test.YtenkgjfahcgppaaGreatDoorLOR
set_option maxRecDepth 20000
set_option maxHeartbeats 8000000
namespace Go.Proofs.YtenkgjfahcgppaaGreatDoor
open Go.RowKit Go.Proofs.Tryz
variable{n i b off g:Nat}{α:Type}{w W:World}
abbrev Key:=Int×Int×Int
def A57(pre:List Key)(k:Key):Int:=
 if pre.any (fun q=>q.1==k.1)=true then 8 else if k.1<0\/3<=k.1 then 3 else if k.2.1<0\/2147483647<k.2.1 then 3 else 0
def BR0(ks:List Key)(E:Int):Prop:=
 (E=0/\∀i k,ks[i]?=some k->A57 (ks.take i) k=0)\/
 (E≠0/\∃n k,ks[n]?=some k/\A57 (ks.take n) k=E/\∀i q,i<n->ks[i]?=some q->A57 (ks.take i) q=0)
theorem sQ{ks:List Key}{E:Int}(h:BR0 ks E)(hn:∀i q,i<n->ks[i]?=some q->A57 (ks.take i) q=0){x:Key}(hx:ks[n]?=some x)(he:A57 (ks.take n) x≠0):E=A57 (ks.take n) x:=by
 rcases h with⟨_,h⟩|⟨h0,m,k,hk,e,h⟩
 .exact absurd (h n x hx) he
 .rcases Nat.lt_trichotomy m n with hl|hl|hl
  .exact absurd ((hn m k hl hk).symm.trans e).symm h0
  .subst hl;rw[hk]at hx
   cases hx
   exact e.symm
  .exact absurd (h n x hl hx) he
theorem C05{ks:List Key}{E:Int}(h:BR0 ks E)(hn:∀i q,i<ks.length->ks[i]?=some q->A57 (ks.take i) q=0):E=0:=by
 rcases h with⟨h,_⟩|⟨h0,m,k,hk,e,_⟩
 .exact h
 .exact absurd ((hn m k (List.getElem?_eq_some_iff.1 hk).1 hk).symm.trans e).symm h0
def SH(ks:List Key):Int:=ks.foldl (fun a k=>max (max a k.2.1) (DL k.2.2)) 0
theorem AY9(ks:List Key)(k:Key):SH (ks++[k])=max (max (SH ks) k.2.1) (DL k.2.2):=by simp[SH]
theorem MC{l:List α}{k:Nat}{x:α}(h:l[k]?=some x):l.take (k+1)=l.take k++[x]:=by
 obtain⟨hk,rfl⟩:=List.getElem?_eq_some_iff.1 h;exact List.take_succ_eq_append_getElem hk
def bet(p q:Key):Bool:=decide (q.2.2<p.2.2)||(decide (p.2.2=q.2.2)&&decide (q.1<p.1))
def IJ(ks:List Key):Nat->Nat
 |0=>0
 |n+1=>if bet (ks.getD n (0,0,0)) (ks.getD (IJ ks n) (0,0,0))=true then n else IJ ks n
theorem U5(ks:List Key):∀n,IJ ks n<max n 1
 |0=>by simp[IJ]
 |n+1=>by
  have:=U5 ks n;unfold IJ
  split<;>omega
theorem yQ{ks:List Key}{p q:Key}(hp:ks[n]?=some p)(hq:ks[IJ ks n]?=some q):IJ ks (n+1)=if bet p q=true then n else IJ ks n:=by
 rw[IJ,List.getD_eq_getElem?_getD,List.getD_eq_getElem?_getD,hp,hq];rfl
def CP3(ks:List Key)(k n E:Int):Prop:=
 ∃A,BR0 ks A/\((A≠0/\k=0/\n=0/\E=A)\/(A=0/\((ks.length<2/\k=0/\n=0/\E=14)\/(2<=ks.length/\((2147483647<SH ks+1/\k=0/\n=0/\E=6)\/(SH ks+1<=2147483647/\k=IJ ks ks.length/\n=SH ks+1/\E=0))))))
theorem BR0.ok{ks:List Key}(h:BR0 ks 0){k:Key}(hk:ks[i]?=some k):(∀q∈ks.take i,q.1≠k.1)/\0<=k.1/\k.1<3/\0<=k.2.1/\k.2.1<=2147483647:=by
 rcases h with⟨_,h⟩|⟨h,_⟩
 .have:=h i k hk;unfold A57 at this;by_cases h1:(ks.take i).any (fun q=>q.1==k.1)=true
  .simp[h1]at this
  .by_cases h2:k.1<0\/3<=k.1
   .simp[h1,h2]at this
   .by_cases h3:k.2.1<0\/2147483647<k.2.1
    .simp[h1,h2,h3]at this
    .refine⟨fun q hq e=>h1 ?_,by omega,by omega,by omega,by omega⟩;exact List.any_eq_true.2 ⟨q,hq,by simp[e]⟩
 .exact absurd rfl h
theorem AZ0{ks:List Key}(M:Int)(h0:0<=M):(∀k∈ks,k.2.1<=M/\DL k.2.2<=M)->SH ks<=M:=by
 have main:∀ (l:List Key) (a:Int),a<=M->(∀k∈l,k.2.1<=M/\DL k.2.2<=M)->l.foldl (fun a k=>max (max a k.2.1) (DL k.2.2)) a<=M:=by
  intro l
  induction l with
  |nil=>intro a ha _;exact ha
  |cons x r ih=>
   intro a ha h;have:=h x (by simp);exact ih (max (max a x.2.1) (DL x.2.2)) (by omega) fun k hk=>h k (by simp[hk])
 exact main ks 0 h0
theorem C06{ks:List Key}{k:Key}(hk:k∈ks):k.2.1<=SH ks/\DL k.2.2<=SH ks:=by
 have up:∀ (l:List Key) (a:Int),a<=l.foldl (fun a k=>max (max a k.2.1) (DL k.2.2)) a:=by
  intro l
  induction l with
  |nil=>intro a;exact Int.le_refl _
  |cons x r ih=>intro a;exact Int.le_trans (show a<=max (max a x.2.1) (DL x.2.2) by omega) (ih _)
 have main:∀ (l:List Key) (a:Int),k∈l->k.2.1<=l.foldl (fun a k=>max (max a k.2.1) (DL k.2.2)) a/\DL k.2.2<=l.foldl (fun a k=>max (max a k.2.1) (DL k.2.2)) a:=by
  intro l
  induction l with
  |nil=>intro a h;simp at h
  |cons x r ih=>
   intro a h;rcases List.mem_cons.1 h with rfl|h
   .have:=up r (max (max a k.2.1) (DL k.2.2));constructor
    .exact Int.le_trans (by omega) this
    .exact Int.le_trans (by omega) this
   .exact ih _ h
 exact main ks 0 hk
theorem AZ1(z:Int):0<=DL z/\DL z<=2147483647:=by
 cases hg:FU z with
 |false=>rw[oZ hg];decide
 |true=>
  have:=I8.1 hg;rw[I9 hg];omega
theorem gG(ks:List Key):0<=SH ks:=by
 have up:∀ (l:List Key) (a:Int),a<=l.foldl (fun a k=>max (max a k.2.1) (DL k.2.2)) a:=by
  intro l
  induction l with
  |nil=>intro a;exact Int.le_refl _
  |cons x r ih=>intro a;exact Int.le_trans (show a<=max (max a x.2.1) (DL x.2.2) by omega) (ih _)
 exact up ks 0
structure Pe where
 id:Int
 ep:Int
 a:Option Addr
 c:Nat
 ts:List AQ
 dn:Int
def pe0:Pe:=⟨0,0,none,0,[],0⟩
def peV(p:Pe):Value:=.agg #[I0 p.id,I0 p.ep,.slice p.a p.ts.length p.c,I0 p.dn]
def BR1(p:Pe):List Value:=[I0 p.id,I0 p.ep,.slice p.a p.ts.length p.c,I0 p.dn]
instance layP:Lay Pe:=⟨4,BR1,36,fun _=>rfl,fun x u hu=>by simp[BR1]at hu;rcases hu with rfl|rfl|rfl|rfl<;>rfl⟩
structure Lg where
 a:Option Addr
 c:Nat
 ts:List AQ
def lgV(l:Lg):Value:=.slice l.a l.ts.length l.c
instance layG:Lay Lg:=⟨1,fun l=>[lgV l],27,fun _=>rfl,fun x u hu=>by simp at hu;subst hu;rfl⟩
def Pe.log(p:Pe):Value:=.slice p.a p.ts.length p.c
def nH(w:World)(ps:List Pe):Prop:=∀p∈ps,J8 w p.log p.ts
theorem nH.next{w':World}{ps:List Pe}(h:nH w ps)(hb:B0 w w'):nH w' ps:=fun p hp=>(h p hp).next hb
theorem BL.pe0{xs:List Pe}(h:BL w b off (AO xs)){x:Pe}(hi:xs[i]?=some x):w.cell? ⟨b,off+i*4,none⟩=some (I0 x.id):=
 h (i*4) _ (AZ xs i x hi 0 (by decide))
theorem BL.pe1{xs:List Pe}(h:BL w b off (AO xs)){x:Pe}(hi:xs[i]?=some x):w.cell? ⟨b,off+i*4+1,none⟩=some (I0 x.ep):=by
 rw[Nat.add_assoc];exact h (i*4+1) _ (AZ xs i x hi 1 (by decide))
theorem BL.pe2{xs:List Pe}(h:BL w b off (AO xs)){x:Pe}(hi:xs[i]?=some x):w.cell? ⟨b,off+i*4+2,none⟩=some (.slice x.a x.ts.length x.c):=by
 rw[Nat.add_assoc];exact h (i*4+2) _ (AZ xs i x hi 2 (by decide))
theorem BL.pe3{xs:List Pe}(h:BL w b off (AO xs)){x:Pe}(hi:xs[i]?=some x):w.cell? ⟨b,off+i*4+3,none⟩=some (I0 x.dn):=by
 rw[Nat.add_assoc];exact h (i*4+3) _ (AZ xs i x hi 3 (by decide))
def V7(W:World)(g:Nat)(p:Pe):Prop:=W.heap[g]?=some (.cells #[I0 p.id,I0 p.ep,.slice p.a p.ts.length p.c,I0 p.dn] 36 (0,0))
theorem V7.new(W:World)(p:Pe):V7 (W.alloc (.cells #[I0 p.id,I0 p.ep,.slice p.a p.ts.length p.c,I0 p.dn] 36)) W.heap.size p:=heap_alloc_new W _
theorem V7.next{V:World}{p:Pe}(h:V7 W g p)(hb:B0 W V):V7 V g p:=(hb.block g (by unfold V7 at h;exact(Array.getElem?_eq_some_iff.1 h).1)).trans h
theorem V7.lt{p:Pe}(h:V7 W g p):g<W.heap.size:=by unfold V7 at h;exact(Array.getElem?_eq_some_iff.1 h).1
theorem V7.c0{p:Pe}(h:V7 W g p):W.cell? ⟨g,0,none⟩=some (I0 p.id):=by unfold V7 at h;simp[World.cell?,h]
theorem V7.c1{p:Pe}(h:V7 W g p):W.cell? ⟨g,1,none⟩=some (I0 p.ep):=by unfold V7 at h;simp[World.cell?,h]
theorem V7.c2{p:Pe}(h:V7 W g p):W.cell? ⟨g,2,none⟩=some (.slice p.a p.ts.length p.c):=by unfold V7 at h;simp[World.cell?,h]
theorem V7.c3{p:Pe}(h:V7 W g p):W.cell? ⟨g,3,none⟩=some (I0 p.dn):=by unfold V7 at h;simp[World.cell?,h]
theorem CE5:(prog.info? 36).map (fun i=>(i.zero,i.size,i.bytes))=some (some (peV pe0),4,48):=by kernel_rfl
theorem CP4:∃i0,prog.info? 36=some i0/\i0.zero=some (peV pe0)/\i0.size=4/\i0.bytes=48:=by
 obtain⟨i0,h,e⟩:=Option.map_eq_some_iff.1 CE5;simp only[Prod.mk.injEq]at e;exact⟨i0,h,e⟩
theorem aF{B:Nat}{a:World}(h:Below B a w):Below B a (w.drewN n):=⟨h.os,h.tape,h.output,h.size,h.block⟩
theorem VR[Lay α]{v:Value}{xs:List α}(hv:BQ w v xs){x:α}(hi:xs[i]?=some x):
  ∃b off cap,v=.slice (some ⟨b,off,none⟩) xs.length cap/\b<w.heap.size/\BL w b off (AO xs)/\i<xs.length/\xs.length<=cap/\cap<=maxLen:=by
 obtain⟨hi',_⟩:=List.getElem?_eq_some_iff.1 hi;obtain⟨b,off,cap,e,hb,hr,h1,h2⟩:=J7 hv (fun h0=>by rw[h0]at hi';simp at hi');exact⟨b,off,cap,e,hb,hr,hi',h1,h2⟩
def nxN(ep z:Int):Int:=if ep<=DL z then bZ z else if JG ep 0=0 then bZ (G6 ep 0)else 0
def nxE(ep z:Int):Int:=if ep<=DL z then SK z else if JG ep 0=0 then SK (G6 ep 0)else JG ep 0
theorem BI4(p:Pe)(w:World)(hp:J8 w p.log p.ts):
  Calls prog 144 #[peV p] w (R0 w (.tuple #[I0 (nxN p.ep (DU p.ts)),I0 (nxE p.ep (DU p.ts))])):=by
 have CL:=fun W (h:B0 w W)=>OC p.log p.ts W (hp.next h);have B0:=AB w (.cells #[I0 p.id,I0 p.ep,.slice p.a p.ts.length p.c,I0 p.dn] 36);have P0:=V7.new w p;have C0:=CL _ B0;have HP:=AA P0;have d2:=P0.c2;have HB:=AA B0;clear CL P0 B0 hp;obtain⟨i,ep,a,c,ts,dn⟩:=p;simp only[Pe.log]at*;unfold peV;simp only;generalize DU ts=z at*;have HE:=AA (show (DL z>=ep->nxN ep z=bZ z/\nxE ep z=SK z)/\(¬DL z>=ep->(JG ep 0=0->nxN ep z=bZ (G6 ep 0)/\nxE ep z=SK (G6 ep 0))/\(JG ep 0≠0->nxN ep z=0/\nxE ep z=JG ep 0))from
  ⟨fun h=>by simp[nxN,nxE,h],fun h=>⟨fun k=>by simp[nxN,nxE,h,k],fun k=>by simp[nxN,nxE,h,k]⟩⟩)
 generalize nxN ep z=R at*;generalize nxE ep z=E at*;go_enter func144,ntmps144;go_wp2_with fail;refine C0.mono ?_;rintro e w1 ⟨rfl,hb1⟩;have HB1:Hid (B0 w w1):=AA (AL (A8 HB) (by rw[hb1];exact Below.refl _ _));have d1:w1.cell? ⟨w.heap.size,1,none⟩=some (I0 ep):=((A8 HP).next (by rw[hb1];exact Below.refl _ _)).c1;clear hb1;go_wp2_with fail
 go_quiet ((go_at_call 103;exact Calls.quiet_of_same (MB _ _)))
 by_cases h1:DL z>=ep
 .have HR:=AA ((A8 HE).1 h1);go_wp2_with fail;refine(sS _ _).mono ?_;rintro e w2 ⟨rfl,rfl⟩;go_wp2_with fail
  go_ret2
  rw[(A8 HR).1,(A8 HR).2];exact⟨rfl,aF (A8 HB1)⟩
 .have HS:=AA ((A8 HE).2 (by simpa using h1));go_wp2_with fail;refine(QI _ _ _).mono ?_;rintro e w2 ⟨rfl,rfl⟩;by_cases h2:JG ep 0=0
  .have HR:=AA ((A8 HS).1 h2);go_wp2_with fail;refine(sS _ _).mono ?_;rintro e w3 ⟨rfl,rfl⟩;go_wp2_with fail
   go_ret2
   rw[(A8 HR).1,(A8 HR).2];exact⟨rfl,aF (A8 HB1)⟩
  .have HR:=AA ((A8 HS).2 h2);go_wp2_with fail
   go_ret2
   rw[(A8 HR).1,(A8 HR).2];exact⟨rfl,aF (A8 HB1)⟩
def A74(x y:Int):Int:=if x<y then -1 else if y<x then 1 else 0
theorem ZM(x:Int)(w:World):Calls prog 165 #[I0 x] w fun e w'=>e=.returned (.bool false)/\w'=w:=by
 go_enter func165,ntmps165;go_wp2_with fail;go_ret;exact⟨rfl,rfl⟩
theorem C25(x y:Int)(w:World):Calls prog 232 #[I0 x,I0 y] w fun e w'=>e=.returned (I0 (A74 x y))/\w'=w:=by
 by_cases h:x<y
 .have e:A74 x y=-1:=by simp[A74,h]
  rw[e];clear e;go_enter func232,ntmps232;go_wp2_with fail;refine(ZM _ _).mono ?_;rintro e w1 ⟨rfl,rfl⟩;go_wp2_with fail;refine(ZM _ _).mono ?_;rintro e w1 ⟨rfl,rfl⟩;go_wp2_with fail;go_ret;exact⟨rfl,rfl⟩
 .by_cases h2:y<x
  .have e:A74 x y=1:=by simp[A74,h,h2]
   rw[e];clear e;go_enter func232,ntmps232;go_wp2_with fail;refine(ZM _ _).mono ?_;rintro e w1 ⟨rfl,rfl⟩;go_wp2_with fail;refine(ZM _ _).mono ?_;rintro e w1 ⟨rfl,rfl⟩;go_wp2_with fail;go_ret;exact⟨rfl,rfl⟩
  .have e:A74 x y=0:=by simp[A74,h,h2]
   rw[e];clear e;go_enter func232,ntmps232;go_wp2_with fail;refine(ZM _ _).mono ?_;rintro e w1 ⟨rfl,rfl⟩;go_wp2_with fail;refine(ZM _ _).mono ?_;rintro e w1 ⟨rfl,rfl⟩;go_wp2_with fail;go_ret;exact⟨rfl,rfl⟩
def orI(x y:Int):Int:=if x=0 then y else x
theorem CF8(g:Nat)(x y:Int)(w:World)(h0:w.cell? ⟨g,0,none⟩=some (I0 x))(h1:w.cell? ⟨g,1,none⟩=some (I0 y)):
  Calls prog 231 #[.slice (some ⟨g,0,none⟩) 2 2] w fun e w'=>e=.returned (I0 (orI x y))/\w'=w:=by
 go_enter func231,ntmps231;go_wp2_with fail
 go_loopg [8] 2 (fun kx s8 wr=>∃k:Nat,s8=I0 k/\k<=2/\2-k<=kx/\wr=w/\(k=0\/k=1/\x=0\/k=2/\x=0/\y=0))
 case atStart=>exact⟨0,rfl,by omega,by omega,rfl,.inl rfl⟩
 case round=>
  obtain⟨k,rfl,hk,hkx,rfl,h⟩:=hrel;rcases h with rfl|⟨rfl,hx⟩|⟨rfl,hx,hy⟩
  .by_cases hx:x=0
   .go_wp2_with fail
    go_roundg 1
    case measure=>omega
    case rel=>exact⟨1,rfl,by omega,by omega,rfl,.inr (.inl ⟨rfl,hx⟩)⟩
   .have e:orI x y=x:=by simp[orI,hx]
    have HE:=AA e;clear e;go_wp2_with fail;go_ret;rw[A8 HE];exact⟨rfl,rfl⟩
  .by_cases hy:y=0
   .go_wp2_with fail
    go_roundg 0
    case measure=>omega
    case rel=>exact⟨2,rfl,by omega,by omega,rfl,.inr (.inr ⟨rfl,hx,hy⟩)⟩
   .have e:orI x y=y:=by simp[orI,hx]
    have HE:=AA e;clear e;go_wp2_with fail;go_ret;rw[A8 HE];exact⟨rfl,rfl⟩
  .have e:orI x y=0:=by simp[orI,hx,hy]
   have HE:=AA e;clear e;go_wp2_with fail;go_ret;rw[A8 HE];exact⟨rfl,rfl⟩
theorem yZ(p q:Pe)(w:World)(hp:J8 w p.log p.ts)(hq:J8 w q.log q.ts):
  Calls prog 196 #[peV p,peV q] w (R0 w (I0 (orI (A74 (DU p.ts) (DU q.ts)) (A74 p.id q.id)))):=by
 obtain⟨W0,hW0⟩:∃W0,W0=(w.alloc (.cells #[I0 p.id,I0 p.ep,.slice p.a p.ts.length p.c,I0 p.dn] 36)).alloc (.cells #[I0 q.id,I0 q.ep,.slice q.a q.ts.length q.c,I0 q.dn] 36):=⟨_,rfl⟩;have B0:B0 w W0:=by rw[hW0];exact AL (AB _ _) (AB _ _)
 have P0:V7 W0 w.heap.size p:=by rw[hW0];exact(V7.new w p).next (AB _ _)
 have Q0:V7 W0 (w.heap.size+1) q:=by
  rw[hW0];have:=V7.new (w.alloc (.cells #[I0 p.id,I0 p.ep,.slice p.a p.ts.length p.c,I0 p.dn] 36)) q;simpa using this
 have CP:=AA (fun W (h:W=W0.drew)=>OC p.log p.ts W (by rw[h];exact(hp.next B0).drew));have CQ:=AA (fun W (h:W=W0.drew)=>OC q.log q.ts W (by rw[h];exact(hq.next B0).drew));have p0:=P0.c0;have p2:=P0.c2;have q0:=Q0.c0;have q2:=Q0.c2;have HB:=AA B0;have hlt:=Q0.lt;clear B0 P0 Q0 hp hq;obtain⟨i,ep,a,c,ts,dn⟩:=p;obtain⟨j,eq,b,d,us,dm⟩:=q;simp only[Pe.log]at*;unfold peV;simp only;generalize DU ts=z at*;generalize DU us=y at*;go_enter func196,ntmps196;go_upto_region 1 with fail;rw[<-hW0];clear hW0;have KO:Hid (∀x y:Int,(W0.alloc (.cells #[I0 x,I0 y] 3)).drew.cell? ⟨W0.heap.size,0,none⟩=some (I0 x)/\(W0.alloc (.cells #[I0 x,I0 y] 3)).drew.cell? ⟨W0.heap.size,1,none⟩=some (I0 y)):=AA (fun x y=>by
  have h:=heap_alloc_new W0 (.cells #[I0 x,I0 y] 3);show (W0.alloc (.cells #[I0 x,I0 y] 3)).cell? ⟨W0.heap.size,0,none⟩=some (I0 x)/\(W0.alloc (.cells #[I0 x,I0 y] 3)).cell? ⟨W0.heap.size,1,none⟩=some (I0 y);unfold World.cell?;rw[h];exact⟨rfl,rfl⟩)
 have HBO:Hid (∀o:Obj,B0 w (W0.alloc o).drew):=AA (fun o=>(AL (A8 HB) (AB _ _)).drew);have K:Hid (∀W,W=W0.drew->W.cell? ⟨w.heap.size,0,none⟩=some (I0 i)/\W.cell? ⟨w.heap.size,2,none⟩=some (.slice a ts.length c)/\W.cell? ⟨w.heap.size+1,0,none⟩=some (I0 j)/\W.cell? ⟨w.heap.size+1,2,none⟩=some (.slice b us.length d)):=AA (fun W h=>by rw[h];exact⟨p0,p2,q0,q2⟩);have KA:Hid (∀o:Obj,(W0.alloc o).drew.cell? ⟨w.heap.size,0,none⟩=some (I0 i)/\(W0.alloc o).drew.cell? ⟨w.heap.size,2,none⟩=some (.slice a ts.length c)/\(W0.alloc o).drew.cell? ⟨w.heap.size+1,0,none⟩=some (I0 j)/\(W0.alloc o).drew.cell? ⟨w.heap.size+1,2,none⟩=some (.slice b us.length d)):=AA (fun o=>by
  have h:B0 W0 (W0.alloc o).drew:=(AB W0 o).drew;exact⟨(h.cell (p:=⟨w.heap.size,0,none⟩) (by simp only;omega)).trans p0,(h.cell (p:=⟨w.heap.size,2,none⟩) (by simp only;omega)).trans p2,(h.cell (p:=⟨w.heap.size+1,0,none⟩) (by simp only;omega)).trans q0,(h.cell (p:=⟨w.heap.size+1,2,none⟩) (by simp only;omega)).trans q2⟩)
 have KZ:=AA (And.intro p0 (And.intro p2 (And.intro q0 q2)))
 go_region_held3 (fun w'=>w'.cell? ⟨w.heap.size,0,none⟩=some (I0 i)/\w'.cell? ⟨w.heap.size,2,none⟩=some (.slice a ts.length c)/\w'.cell? ⟨w.heap.size+1,0,none⟩=some (I0 j)/\w'.cell? ⟨w.heap.size+1,2,none⟩=some (.slice b us.length d)) (first|with_reducible exact A8 KZ|with_reducible exact A8 K _ rfl|with_reducible exact A8 KA _) (first
  |(go_at_call 119;first|(with_reducible refine(A8 CP _ rfl).mono ?_;rintro e w1 ⟨rfl,rfl⟩)|(with_reducible refine(A8 CQ _ rfl).mono ?_;rintro e w1 ⟨rfl,rfl⟩))
  |(go_at_call 232;refine(C25 _ _ _).mono ?_;rintro e w1 ⟨rfl,rfl⟩)
  |(go_at_call 231;refine(CF8 _ _ _ _ (A8 KO _ _).1 (A8 KO _ _).2).mono ?_;rintro e w1 ⟨rfl,rfl⟩))
 all_goals go_wp2_with fail
 all_goals go_ret
 all_goals exact⟨rfl,A8 HBO _⟩
def kk(p:Pe):Key:=(p.id,p.ep,DU p.ts)
theorem A75{ps:List Pe}{p:Pe}(h:ps[i]?=some p):(ps.map kk)[i]?=some (kk p):=by rw[List.getElem?_map,h];rfl
theorem C26(ps:List Pe)(i:Nat):(ps.map kk).take i=(ps.take i).map kk:=by rw[List.map_take]
theorem B13{i:Int}{b:Bool}(h:decide (0<=i)=b):Ending.returned (.bool (decide (0<=i)))=.returned (.bool b):=by rw[h]
theorem BJ9[Lay α]{cap:Nat}{xs:List α}(h:BQ w (.slice (some ⟨b,off,none⟩) n cap) xs)(k:Nat)(hk:k<=xs.length):BQ w (.slice (some ⟨b,off,none⟩) k cap) (xs.take k):=by
 have hl:(xs.take k).length=k:=by simp;omega
 rcases h with⟨a,c,e,rfl,hm⟩|⟨b',off',cap',e,h1,h2,h3,h0,h4⟩
 .simp only[Value.slice.injEq]at e;obtain⟨_,_,rfl⟩:=e;simp only[List.length_nil,Nat.le_zero]at hk;subst hk;exact .inl ⟨_,_,rfl,rfl,hm⟩
 .simp only[Value.slice.injEq,Option.some.injEq,Addr.mk.injEq,and_true]at e;obtain⟨⟨rfl,rfl⟩,_,rfl⟩:=e;by_cases hz:k=0
  .subst hz;exact .inl ⟨_,_,rfl,by simp,h2⟩
  .refine .inr ⟨b,off,cap,by rw[hl],by omega,h2,h3,fun e=>by rw[e]at hl;simp at hl;omega,fun j u hj=>h4 j u ?_⟩;have e:AO xs=AO (xs.take k)++AO (xs.drop k):=by rw[<-BH,List.take_append_drop]
   rw[e,List.getElem?_append_left (List.getElem?_eq_some_iff.1 hj).1];exact hj
theorem BK0(q p:Pe)(g:Nat)(w:World)(hp:V7 w g p):
  Calls prog 194 #[peV q,P0 g] w (R0 w (.bool (q.id==p.id))):=by
 have B0:=AB w (.cells #[I0 q.id,I0 q.ep,.slice q.a q.ts.length q.c,I0 q.dn] 36);have e0:=(hp.next B0).c0;have f0:=(V7.new w q).c0;have HB:=AA B0;obtain⟨i,ep,a,c,ts,dn⟩:=q;obtain⟨j,eq,b,d,us,dm⟩:=p;simp only at*;clear hp B0;unfold peV;simp only;go_enter func194,ntmps194;go_wp2_with fail;go_ret;refine⟨?_,A8 HB⟩;by_cases h:i=j<;>simp[h]
theorem C27(v:Value)(xs:List Pe)(p:Pe)(g:Nat)(w:World)(hv:BQ w v xs)(hp:V7 w g p)(hl:xs.length<=140737488355328):
  Calls prog 230 #[v,.func (.func 194) #[] #[P0 g]] w fun e w'=>(∃i:Int,e=.returned (I0 i)/\decide (0<=i)=xs.any (fun q=>q.id==p.id))/\B0 w w':=by
 have HV:=AA hv;have HP:=AA hp;have HS:=AA (fun q W h=>BK0 q p g W h);obtain⟨va,vc,rfl⟩:=AU hv;clear hv hp;unfold peV at HS;go_enter func230,ntmps230;go_wp2_with fail
 go_loopg [8] xs.length (fun kx s8 wr=>∃k:Nat,s8=I0 k/\k<=xs.length/\xs.length-k<=kx/\Hid ((xs.take k).any (fun q=>q.id==p.id)=false)/\Hid (B0 w wr))
 case atStart=>exact⟨0,rfl,Nat.zero_le _,Nat.le_refl _,AA (by simp),AA (Below.refl _ _)⟩
 case round=>
  obtain⟨k,rfl,hk,hg,hh,hB⟩:=hrel;by_cases hlt:k<xs.length
  .obtain⟨y,hy⟩:∃y,xs[k]?=some y:=⟨_,List.getElem?_eq_getElem hlt⟩;obtain⟨b,off,cap,he,hb,q,_⟩:=VR ((A8 HV).next (A8 hB)) hy;simp only[Value.slice.injEq]at he;obtain⟨rfl,_,rfl⟩:=he;have d0:=q.pe0 hy;have d1:=q.pe1 hy;have d2:=q.pe2 hy;have d3:=q.pe3 hy;have hkk:(k:Int)<(xs.length:Int):=by omega
   have C:=A8 HS y wr ((A8 HP).next (A8 hB));have HM:Hid (y∈xs):=AA (List.mem_of_getElem? hy);have HT:=AA (MC hy);clear q hy hb
   cases hxy:(y.id==p.id)
   .rw[hxy]at C;have HX:=AA hxy;clear hxy;go_wp2_with fail;refine C.mono ?_;rintro e w1 ⟨rfl,hb1⟩;have hB1:=AL (A8 hB) hb1;clear C hb1;go_wp2_with fail
    go_roundg (xs.length-(k+1))
    case measure=>omega
    case rel=>exact⟨k+1,rfl,by omega,Nat.le_refl _,AA (by rw[A8 HT,List.any_append,A8 hh];simpa using A8 HX),AA hB1⟩
   .rw[hxy]at C;have HX:=AA (show xs.any (fun q=>q.id==p.id)=true from List.any_eq_true.2 ⟨y,A8 HM,hxy⟩);clear hxy;go_wp2_with fail;refine C.mono ?_;rintro e w1 ⟨rfl,hb1⟩;have hB1:=AL (A8 hB) hb1;clear C hb1;go_wp2_with fail;go_ret;exact⟨⟨k,rfl,by rw[A8 HX];simp⟩,hB1⟩
  .obtain rfl:k=xs.length:=by omega
   have hh2:=A8 hh;rw[List.take_length]at hh2;have HH:=AA hh2;have hki:¬ ((xs.length:Int)<(xs.length:Int)):=by omega
   clear hh2;go_wp2_with fail;go_ret;exact⟨⟨-1,rfl,by rw[A8 HH];rfl⟩,A8 hB⟩
theorem C28(v:Value)(xs:List Pe)(p:Pe)(g:Nat)(w:World)(hv:BQ w v xs)(hp:V7 w g p)(hl:xs.length<=140737488355328):
  Calls prog 195 #[v,.func (.func 194) #[] #[P0 g]] w (R0 w (.bool (xs.any (fun q=>q.id==p.id)))):=by
 have C:=C27 v xs p g w hv hp hl;obtain⟨va,vc,rfl⟩:=AU hv;generalize xs.any (fun q=>q.id==p.id)=r at C⊢;clear hv hp;go_enter func195,ntmps195;go_wp2_with fail;refine C.mono ?_;rintro e w1 ⟨⟨i,rfl,hi⟩,hb1⟩;have HB:=AA hb1;have HI:=AA hi;clear C hb1 hi;go_wp2_with fail;go_ret;exact⟨B13 (A8 HI),A8 HB⟩
theorem CF9(ps:List Pe)(k:Nat)(p:Pe):((ps.map kk).take k).any (fun q=>q.1==(kk p).1)=(ps.take k).any (fun q=>q.id==p.id):=by
 rw[C26,List.any_map];rfl
theorem CG1(ps:List Pe)(k:Nat)(p:Pe):A57 ((ps.map kk).take k) (kk p)=if(ps.take k).any (fun q=>q.id==p.id)=true then 8 else if p.id<0\/3<=p.id then 3 else if p.ep<0\/2147483647<p.ep then 3 else 0:=by
 unfold A57;rw[CF9];rfl
theorem tN(v:Value)(ps:List Pe)(w:World)(E:Int)(hv:BQ w v ps)(hA:BR0 (ps.map kk) E)(hl:ps.length<=140737488355328):
  Calls prog 157 #[v] w (R0 w (I0 E)):=by
 have HV:=AA hv;have HA:=AA hA;obtain⟨va,vc,rfl⟩:=AU hv;clear hv hA;go_enter func157,ntmps157;go_wp2_with fail
 go_loopg [8] ps.length (fun kx s8 wr=>∃k:Nat,s8=I0 k/\k<=ps.length/\ps.length-k<=kx/\Hid (∀i q,i<k->(ps.map kk)[i]?=some q->A57 ((ps.map kk).take i) q=0)/\Hid (B0 w wr))
 case atStart=>exact⟨0,rfl,Nat.zero_le _,Nat.le_refl _,AA (fun i q h=>by omega),AA (Below.refl _ _)⟩
 case round=>
  obtain⟨k,rfl,hk,hg,HI,hB⟩:=hrel;by_cases hlt:k<ps.length
  .obtain⟨p,hp⟩:∃p,ps[k]?=some p:=⟨_,List.getElem?_eq_getElem hlt⟩;obtain⟨b,off,cap,he,hb,q,_,hcap,_⟩:=VR ((A8 HV).next (A8 hB)) hp;simp only[Value.slice.injEq]at he;obtain⟨rfl,_,rfl⟩:=he;have d0:=q.pe0 hp;have d1:=q.pe1 hp;have d2:=q.pe2 hp;have d3:=q.pe3 hp;have hkk:(k:Int)<(ps.length:Int):=by omega
   have HX:=AA (A75 hp);have HE:=AA (CG1 ps k p);have HAl:=AA (AB wr (.cells #[I0 p.id,I0 p.ep,.slice p.a p.ts.length p.c,I0 p.dn] 36));have HP:=AA (V7.new wr p);have HC:=AA (fun W (hW:B0 w W) (hP:V7 W wr.heap.size p)=>C28 _ (ps.take k) p wr.heap.size W (BJ9 ((A8 HV).next hW) k (by omega)) hP (by simp;omega));have hcap2:k<=vc:=by omega
   clear q hp hb;obtain⟨id,ep,pa,pc,ts,dn⟩:=p;simp only at*;go_wp2_with fail;refine(A8 HC _ (AL (A8 hB) (A8 HAl)) (A8 HP)).mono ?_;rintro e w2 ⟨rfl,hb2⟩;have P2:=(A8 HP).next hb2;have c0:=P2.c0;have c1:=P2.c1;have HB2:=AA (AL (AL (A8 hB) (A8 HAl)) hb2);clear P2 hb2 HC HAl HP d0 d1 d2 d3
   cases hA:(ps.take k).any (fun q=>q.id==id)
   .rw[hA]at HE;simp only at c0 c1;by_cases h1:id<0
    .have HR:=AA (sQ (A8 HA) (A8 HI) (A8 HX) (by rw[A8 HE];simp[h1]));rw[A8 HE]at HR;have HR2:Hid (E=3):=AA (by rw[A8 HR];simp[h1]);clear hA;go_wp2_with fail;go_ret;rw[A8 HR2];exact⟨rfl,A8 HB2⟩
    .by_cases h2:id>=3
     .have HR:=AA (sQ (A8 HA) (A8 HI) (A8 HX) (by rw[A8 HE];simp[h2]));rw[A8 HE]at HR;have HR2:Hid (E=3):=AA (by rw[A8 HR];simp[h2]);clear hA;go_wp2_with fail;go_ret;rw[A8 HR2];exact⟨rfl,A8 HB2⟩
     .by_cases h3:ep<0
      .have HR:=AA (sQ (A8 HA) (A8 HI) (A8 HX) (by rw[A8 HE];simp[h3]));rw[A8 HE]at HR;have HR2:Hid (E=3):=AA (by rw[A8 HR];simp[h3]);clear hA;go_wp2_with fail;go_ret;rw[A8 HR2];exact⟨rfl,A8 HB2⟩
      .by_cases h4:ep>2147483647
       .have h4':2147483647<ep:=h4;have HR:=AA (sQ (A8 HA) (A8 HI) (A8 HX) (by rw[A8 HE];simp[h4']));rw[A8 HE]at HR;have HR2:Hid (E=3):=AA (by rw[A8 HR];simp[h4']);clear hA;go_wp2_with fail;go_ret;rw[A8 HR2];exact⟨rfl,A8 HB2⟩
       .have HZ:Hid (A57 ((ps.map kk).take k) (kk ⟨id,ep,pa,pc,ts,dn⟩)=0):=AA (by rw[A8 HE];simp;omega);have HI2:Hid (∀i q,i<k+1->(ps.map kk)[i]?=some q->A57 ((ps.map kk).take i) q=0):=AA (fun i q hi hq=>by
         by_cases e:i=k
         .subst e;rw[A8 HX]at hq
          cases hq
          exact A8 HZ
         .exact A8 HI i q (by omega) hq)
        clear hA;go_wp2_with fail
        go_roundg (ps.length-(k+1))
        case measure=>omega
        case rel=>exact⟨k+1,rfl,by omega,Nat.le_refl _,HI2,HB2⟩
   .rw[hA]at HE;have HR:=AA (sQ (A8 HA) (A8 HI) (A8 HX) (by rw[A8 HE];simp));rw[A8 HE]at HR;have HR2:Hid (E=8):=AA (by rw[A8 HR];simp);clear hA;go_wp2_with fail;go_ret;rw[A8 HR2];exact⟨rfl,A8 HB2⟩
  .obtain rfl:k=ps.length:=by omega
   have hki:¬ ((ps.length:Int)<(ps.length:Int)):=by omega
   have HR:=AA (C05 (A8 HA) (by rw[List.length_map];exact A8 HI));go_wp2_with fail;go_ret;rw[A8 HR];exact⟨rfl,A8 hB⟩
theorem AH9(v:Value)(ps:List Pe)(w:World)(hv:BQ w v ps)(hL:nH w ps)(hl:ps.length<=140737488355328):
  Calls prog 158 #[v] w (R0 w (I0 (SH (ps.map kk)))):=by
 have HV:=AA hv;have HL:=AA hL;obtain⟨va,vc,rfl⟩:=AU hv;clear hv hL;go_enter func158,ntmps158;go_wp2_with fail
 go_loopg [3,8] ps.length (fun kx s3 s8 wr=>∃ (k:Nat) (m:Int),s3=I0 m/\s8=I0 k/\k<=ps.length/\ps.length-k<=kx/\Hid (SH ((ps.map kk).take k)=m)/\Hid (B0 w wr))
 case atStart=>exact⟨0,0,rfl,rfl,Nat.zero_le _,Nat.le_refl _,AA rfl,AA (Below.refl _ _)⟩
 case round=>
  obtain⟨k,m,rfl,rfl,hk,hg,HM,hB⟩:=hrel;by_cases hlt:k<ps.length
  .obtain⟨p,hp⟩:∃p,ps[k]?=some p:=⟨_,List.getElem?_eq_getElem hlt⟩;obtain⟨b,off,cap,he,hb,q,_,hcap,_⟩:=VR ((A8 HV).next (A8 hB)) hp;simp only[Value.slice.injEq]at he;obtain⟨rfl,_,rfl⟩:=he;have d0:=q.pe0 hp;have d1:=q.pe1 hp;have d2:=q.pe2 hp;have d3:=q.pe3 hp;have hkk:(k:Int)<(ps.length:Int):=by omega
   have HN:Hid (SH ((ps.map kk).take (k+1))=max (max m p.ep) (DL (DU p.ts))):=AA (by rw[MC (A75 hp),AY9,A8 HM];rfl);have HAl:=AA (AB wr (.cells #[I0 p.id,I0 p.ep,.slice p.a p.ts.length p.c,I0 p.dn] 36));have HP:=AA (V7.new wr p);have HC:=AA (fun W (hW:B0 w W)=>OC p.log p.ts W ((A8 HL p (List.mem_of_getElem? hp)).next hW));clear q hp hb;obtain⟨id,ep,pa,pc,ts,dn⟩:=p;simp only[Pe.log]at*;generalize DU ts=z at*;go_upto_region 5 with fail;obtain⟨W1,hW1⟩:∃W1,W1=wr.alloc (.cells #[I0 id,I0 ep,.slice pa ts.length pc,I0 dn] 36):=⟨_,rfl⟩;rw[<-hW1]at HAl HP⊢;have e1:=(A8 HP).c1;have e2:=(A8 HP).c2;simp only at e1 e2;have HB1:=AA (AL (A8 hB) (A8 HAl));have HCN:=AA (fun n=>A8 HC (W1.drewN n) (aF (A8 HB1)));clear hW1 HC HAl HP d0 d1 d2 d3;by_cases c1:m<ep
   .by_cases c2:ep<DL z
    .go_quiet (first|(go_at_call 119;exact Calls.quiet_of_same (A8 HCN _))|(go_at_call 103;exact Calls.quiet_of_same (MB _ _)))
     go_wp2_with fail
     go_roundg (ps.length-(k+1))
     case measure=>omega
     case rel=>exact⟨k+1,DL z,rfl,rfl,by omega,Nat.le_refl _,AA ((A8 HN).trans (by omega)),AA (aF (A8 HB1))⟩
    .go_quiet (first|(go_at_call 119;exact Calls.quiet_of_same (A8 HCN _))|(go_at_call 103;exact Calls.quiet_of_same (MB _ _)))
     go_wp2_with fail
     go_roundg (ps.length-(k+1))
     case measure=>omega
     case rel=>exact⟨k+1,ep,rfl,rfl,by omega,Nat.le_refl _,AA ((A8 HN).trans (by omega)),AA (aF (A8 HB1))⟩
   .by_cases c2:m<DL z
    .go_quiet (first|(go_at_call 119;exact Calls.quiet_of_same (A8 HCN _))|(go_at_call 103;exact Calls.quiet_of_same (MB _ _)))
     go_wp2_with fail
     go_roundg (ps.length-(k+1))
     case measure=>omega
     case rel=>exact⟨k+1,DL z,rfl,rfl,by omega,Nat.le_refl _,AA ((A8 HN).trans (by omega)),AA (aF (A8 HB1))⟩
    .go_quiet (first|(go_at_call 119;exact Calls.quiet_of_same (A8 HCN _))|(go_at_call 103;exact Calls.quiet_of_same (MB _ _)))
     go_wp2_with fail
     go_roundg (ps.length-(k+1))
     case measure=>omega
     case rel=>exact⟨k+1,m,rfl,rfl,by omega,Nat.le_refl _,AA ((A8 HN).trans (by omega)),AA (aF (A8 HB1))⟩
  .obtain rfl:k=ps.length:=by omega
   have hki:¬ ((ps.length:Int)<(ps.length:Int)):=by omega
   have HR:Hid (SH (ps.map kk)=m):=AA (by
    have:=A8 HM;rwa[show (ps.map kk).take ps.length=ps.map kk by rw[List.take_of_length_le (by simp)]]at this)
   go_wp2_with fail;go_ret;rw[A8 HR];exact⟨rfl,A8 hB⟩
theorem CG2(p q:Pe):decide (0<orI (A74 (DU p.ts) (DU q.ts)) (A74 p.id q.id))=bet (kk p) (kk q):=by
 unfold orI A74 bet kk;simp only;by_cases h1:DU p.ts<DU q.ts
 .have h2:¬DU q.ts<DU p.ts:=by omega
  have h3:¬DU p.ts=DU q.ts:=by omega
  simp[h1,h2,h3]
 .by_cases h2:DU q.ts<DU p.ts
  .simp[h1,h2]
  .have h3:DU p.ts=DU q.ts:=by omega
   rw[h3];by_cases h4:p.id<q.id
   .have h5:¬q.id<p.id:=by omega
    simp[h4,h5]
   .by_cases h5:q.id<p.id
    .simp[h4,h5]
    .simp[h4,h5]
theorem zA(v:Value)(ps:List Pe)(w:World)(hv:BQ w v ps)(hL:nH w ps)(hl:ps.length<=140737488355328):
  Calls prog 159 #[v] w (R0 w (I0 (IJ (ps.map kk) ps.length))):=by
 have HV:=AA hv;have HL:=AA hL;obtain⟨va,vc,rfl⟩:=AU hv;clear hv hL;go_enter func159,ntmps159;go_wp2_with fail
 go_loopg [3,8] ps.length (fun kx s3 s8 wr=>∃ (k m:Nat),s3=I0 m/\s8=I0 k/\k<=ps.length/\ps.length-k<=kx/\Hid (IJ (ps.map kk) k=m)/\Hid (B0 w wr))
 case atStart=>exact⟨0,0,rfl,rfl,Nat.zero_le _,Nat.le_refl _,AA rfl,AA (Below.refl _ _)⟩
 case round=>
  obtain⟨k,m,rfl,rfl,hk,hg,HM,hB⟩:=hrel;by_cases hlt:k<ps.length
  .obtain⟨p,hp⟩:∃p,ps[k]?=some p:=⟨_,List.getElem?_eq_getElem hlt⟩;have hm:m<ps.length:=by have:=U5 (ps.map kk) k;rw[A8 HM]at this;omega
   obtain⟨r,hr⟩:∃r,ps[m]?=some r:=⟨_,List.getElem?_eq_getElem hm⟩;obtain⟨b,off,cap,he,hb,q,_,hcap,_⟩:=VR ((A8 HV).next (A8 hB)) hp;simp only[Value.slice.injEq]at he;obtain⟨rfl,_,rfl⟩:=he;have d0:=q.pe0 hp;have d1:=q.pe1 hp;have d2:=q.pe2 hp;have d3:=q.pe3 hp;have hkk:(k:Int)<(ps.length:Int):=by omega
   have hmm:(m:Int)<(ps.length:Int):=by omega
   have HN:Hid (IJ (ps.map kk) (k+1)=if bet (kk p) (kk r)=true then k else m):=AA (by rw[yQ (A75 hp) (by rw[A8 HM];exact A75 hr),A8 HM]);have HAl:=AA (AB wr (.cells #[I0 p.id,I0 p.ep,.slice p.a p.ts.length p.c,I0 p.dn] 36));have HP:=AA (V7.new wr p);have HC:=AA (fun W (hW:B0 w W)=>yZ p r W ((A8 HL p (List.mem_of_getElem? hp)).next hW) ((A8 HL r (List.mem_of_getElem? hr)).next hW));have CM7:=AA (CG2 p r);have HRW:Hid (∀W,B0 wr W->W.cell? ⟨b,off+m*4,none⟩=some (I0 r.id)/\W.cell? ⟨b,off+m*4+1,none⟩=some (I0 r.ep)/\W.cell? ⟨b,off+m*4+2,none⟩=some (.slice r.a r.ts.length r.c)/\W.cell? ⟨b,off+m*4+3,none⟩=some (I0 r.dn)):=AA (fun W hW=>by
    have q':=q.kept hW hb;exact⟨q'.pe0 hr,q'.pe1 hr,q'.pe2 hr,q'.pe3 hr⟩)
   clear q hp hb hr;generalize bet (kk p) (kk r)=B at*;unfold peV at HC;obtain⟨id,ep,pa,pc,ts,dn⟩:=p;obtain⟨jd,eq,qa,qc,us,dm⟩:=r;simp only at*;generalize orI (A74 (DU ts) (DU us)) (A74 id jd)=R at*;go_upto_region 5 with fail;obtain⟨W1,hW1⟩:∃W1,W1=wr.alloc (.cells #[I0 id,I0 ep,.slice pa ts.length pc,I0 dn] 36):=⟨_,rfl⟩;rw[<-hW1]at HAl HP⊢;have e0:=(A8 HP).c0;have e1:=(A8 HP).c1;have e2:=(A8 HP).c2;have e3:=(A8 HP).c3;simp only at e0 e1 e2 e3;obtain⟨f0,f1,f2,f3⟩:=A8 HRW W1 (A8 HAl);have HB1:=AA (AL (A8 hB) (A8 HAl));have hbw:b<W1.heap.size:=World.block_lt_of_cell? _ _ f0;have hpw:=(A8 HP).lt;clear hW1 HAl HP d0 d1 d2 d3 HRW;have c0':=fun d os=>Calls.regrown_of (w:=W1) (d:=d) (os:=os) (A8 HC _ (AL (A8 HB1) (below_regrown W1 d os)));have g0:=fun d os=>cell_regrown e0 d os;have g1:=fun d os=>cell_regrown e1 d os;have g2:=fun d os=>cell_regrown e2 d os;have g3:=fun d os=>cell_regrown e3 d os;have r0:=fun d os=>cell_regrown f0 d os;have r1:=fun d os=>cell_regrown f1 d os;have r2:=fun d os=>cell_regrown f2 d os;have r3:=fun d os=>cell_regrown f3 d os;clear e0 e1 e2 e3 f0 f1 f2 f3 HC;refine wp_region_quiet_below (by kernel_rfl) (by kernel_rfl) ?_
   repeat (first|go_big_quiet_step (with_reducible exact c0' _ _)|quiet_step (with_reducible exact c0' _ _))
   refine wpQuiet_nil ?_;intro _ hw';obtain⟨⟨dq,osq⟩,hw''⟩:=hw';subst hw'';have HB2:=AA (AL (A8 HB1) (below_regrown W1 dq osq));clear c0' g0 g1 g2 g3 r0 r1 r2 r3;generalize Go.Sort.grow (redrawn W1 dq) osq=W2 at*
   cases B
   .have hR:¬R>0:=by have:=A8 CM7;simp at this;omega
    have HN2:Hid (IJ (ps.map kk) (k+1)=m):=AA (by rw[A8 HN];simp);clear CM7 HN;go_wp2_with fail
    go_roundg (ps.length-(k+1))
    case measure=>omega
    case rel=>exact⟨k+1,m,rfl,rfl,by omega,Nat.le_refl _,HN2,HB2⟩
   .have hR:R>0:=by have:=A8 CM7;simp at this;omega
    have HN2:Hid (IJ (ps.map kk) (k+1)=k):=AA (by rw[A8 HN];simp);clear CM7 HN;go_wp2_with fail
    go_roundg (ps.length-(k+1))
    case measure=>omega
    case rel=>exact⟨k+1,k,rfl,rfl,by omega,Nat.le_refl _,HN2,HB2⟩
  .obtain rfl:k=ps.length:=by omega
   have hki:¬ ((ps.length:Int)<(ps.length:Int)):=by omega
   go_wp2_with fail;go_ret;rw[A8 HM];exact⟨rfl,A8 hB⟩
theorem ZN(w:World):Calls prog 106 #[] w fun e w'=>e=.returned (I0 2)/\w'=w:=by
 go_enter func106,ntmps106;go_wp2_with fail;go_ret;exact⟨rfl,rfl⟩
theorem BK1{ks:List Key}(h:BR0 ks 0):0<=SH ks/\SH ks<=2147483647:=
 ⟨gG ks,AZ0 2147483647 (by decide) fun k hk=>by
  obtain⟨i,hi⟩:=List.getElem?_of_mem hk;have:=h.ok hi;have:=AZ1 k.2.2;omega⟩
theorem tV(v:Value)(ps:List Pe)(w:World)(k n E:Int)(hv:BQ w v ps)(hL:nH w ps)(hA:CP3 (ps.map kk) k n E)(hl:ps.length<=140737488355328):
  Calls prog 116 #[v] w (R0 w (.tuple #[I0 k,I0 n,I0 E])):=by
 obtain⟨A,hA,hR⟩:=hA;have CA:=tN v ps w A hv hA hl;have CN:=AA (fun W (hW:B0 w W)=>AH9 v ps W (hv.next hW) (hL.next hW) hl);have CL:=AA (fun W (hW:B0 w W)=>zA v ps W (hv.next hW) (hL.next hW) hl);have HN:=AA (fun h:A=0=>BK1 (ks:=ps.map kk) (by rw[h]at hA;exact hA));rw[List.length_map]at hR;obtain⟨va,vc,rfl⟩:=AU hv;clear hv hL hA;generalize SH (ps.map kk)=N at*;generalize IJ (ps.map kk) ps.length=L at*;rcases hR with⟨h0,rfl,rfl,rfl⟩|⟨rfl,⟨h1,rfl,rfl,rfl⟩|⟨h1,⟨h2,rfl,rfl,rfl⟩|⟨h2,rfl,rfl,rfl⟩⟩⟩
 .go_enter func116,ntmps116;go_wp2_with fail;refine CA.mono ?_;rintro e w1 ⟨rfl,hb1⟩;have HB:=AA hb1;clear CA hb1;go_wp2_with fail
  go_ret3
  exact⟨rfl,A8 HB⟩
 all_goals
  obtain⟨n0,n1⟩:=A8 HN rfl;go_enter func116,ntmps116;go_wp2_with fail;refine CA.mono ?_;rintro e w1 ⟨rfl,hb1⟩;have HB:=AA hb1;clear CA hb1;go_wp2_with fail;refine(ZN _).mono ?_;rintro e w2 ⟨rfl,rfl⟩
 .have h1':(ps.length:Int)<2:=by omega
  go_wp2_with fail
  go_ret3
  exact⟨rfl,A8 HB⟩
 .have h1':¬ (ps.length:Int)<2:=by omega
  have h2':N+1>2147483647:=by omega
  go_wp2_with fail;refine(A8 CN _ (A8 HB)).mono ?_;rintro e w3 ⟨rfl,hb3⟩;have HB3:=AA (AL (A8 HB) hb3);clear hb3;go_wp2_with fail
  go_ret3
  exact⟨rfl,A8 HB3⟩
 .have h1':¬ (ps.length:Int)<2:=by omega
  have h2':¬N+1>2147483647:=by omega
  go_wp2_with fail;refine(A8 CN _ (A8 HB)).mono ?_;rintro e w3 ⟨rfl,hb3⟩;have HB3:=AA (AL (A8 HB) hb3);clear hb3;go_wp2_with fail;refine(A8 CL _ (A8 HB3)).mono ?_;rintro e w4 ⟨rfl,hb4⟩;have HB4:=AA (AL (A8 HB3) hb4);clear hb4;go_wp2_with fail
  go_ret3
  exact⟨rfl,A8 HB4⟩
