/-
  Part.
-/
import Derived.Test.YtefephchbjfdfaaGreatDoorLMAD
import Derived.Test.YtefephchbjfdfaaGreatDoorLMAB
set_option maxRecDepth 20000
set_option maxHeartbeats 8000000
namespace Go.Proofs.YtefephchbjfdfaaGreatDoor
open Go.RowKit Go.Proofs.Tryz
open _root_.Nat renaming le_refl->AA,mul_comm->DL
open Go.RowKit.Below renaming refl->AB
open _root_.And renaming intro->DJ
open Go.Value renaming ownBlock->DK,slice->FV
open _root_.Int renaming toNat_natCast->FI
open _root_.Option renaming none->G6,some->G8
variable{W V:World}{k q:Nat}{p:Pw}{v:Value}
theorem WX.offq(h:WX W k p)(hq:W.heap.size<=q):WXO W k p (FV (G8 ⟨q,0,G6⟩) 1 1):=by
 obtain⟨f,hb,hr⟩:=h;refine⟨f,hb,hr,fun g hg=>?_⟩;simp only[DK,Option.some.injEq]at hg;subst hg;exact fB hr hq
theorem WXO.BY4(h:WXO W k p v){i:Nat}(hi:i<3)(hu:(p.s i).up=true){x:Ps}{y:Value}(hx:x=⟨(p.s i).up,(p.s i).e,(p.s i).m,(p.s i).a,(p.s i).q,(p.s i).dn,x.ws⟩)(hv:IV W y x.ws)(ha:∀g,v.ownBlock=G8 g->TM y g)(hh:∀b,p.h b->TM y b):WXO (W.setCell ⟨k,1+10*i+9,G6⟩ y) k ⟨p.n,LZ p.s i x,p.r,p.c,p.D,p.H,p.h⟩ v:=by
 obtain⟨f,hb,hr,ho⟩:=h;have e1:svP i x=⟨(svP i (p.s i)).up,(svP i (p.s i)).fs,(svP i (p.s i)).id,(svP i (p.s i)).ep,(svP i (p.s i)).ts,(svP i (p.s i)).dn,(svP i (p.s i)).tr,x.ws⟩:=by
  rw[J5 hu,J5 (by rw[hx];exact hu),hx]
 refine⟨_,hb.set (j:=1+10*i+9) (by omega) _,WdR.touch (W:=W) ?_ (JQ _ _ _ _),fun g e=>?_⟩
 .refine⟨by rw[GN _ _ (by omega)];exact hr.n,fun j hj=>?_,fun j hj=>by rw[GN _ _ (by omega)];exact hr.r j hj,fun j hj=>(hr.c j hj).congr fun q hq=>by rw[GN _ _ (by omega)],by rw[GN _ _ (by omega)];exact hr.d,fun j hj b hb=>by
   rw[GN _ _ (by omega)];have o:=hr.h j hj b hb;by_cases e:j=i
   .subst e;simp only[IU];refine⟨fun h0=>o.1 ?_,fun _=>hh b hb⟩;rw[J5 (by rw[hx];exact hu)]at h0;rw[J5 hu];rw[hx]at h0;exact h0
   .simp only[GN _ _ e];rw[GN _ _ (by omega)];exact o,hr.hk⟩
  by_cases e:j=i
  .subst e;simp only[IU];have hs:=hr.s j hj;rw[e1];have g:∀q,q<9->LZ f (1+10*j+9) y (1+10*j+q)=f (1+10*j+q):=fun q hq=>GN _ _ (by omega);exact⟨by rw[g 0 (by omega)];exact hs.up,by rw[g 1 (by omega)];exact hs.d,by rw[g 2 (by omega)];exact hs.id,by rw[g 3 (by omega)];exact hs.ep,by rw[g 4 (by omega)];exact hs.l,by rw[g 5 (by omega)];exact hs.dn,by rw[g 6 (by omega)];exact hs.z,by rw[g 7 (by omega)];exact hs.n,by rw[g 8 (by omega)];exact hs.i,by rw[IU];exact VT hv (hr.fK hb)⟩
  .simp only[GN _ _ e];exact(hr.s j hj).congr fun q hq=>by rw[GN _ _ (by omega)]
 .have o:=ho g e;have es:∀j,j<3->(svP j (LZ p.s i x j)).fs=(svP j (p.s j)).fs/\(svP j (LZ p.s i x j)).ts=(svP j (p.s j)).ts/\(svP j (LZ p.s i x j)).tr=(svP j (p.s j)).tr:=fun j hj=>by
   by_cases e:j=i
   .subst e;rw[IU,e1];exact⟨rfl,rfl,rfl⟩
   .rw[GN _ _ e];exact⟨rfl,rfl,rfl⟩
  refine⟨fun j hj h0=>by rw[GN _ _ (by omega)];exact o.d j hj (by rw[<-(es j hj).1];exact h0),fun j hj h0=>by rw[GN _ _ (by omega)];exact o.l j hj (by rw[<-(es j hj).2.1];exact h0),fun j hj h0=>by rw[GN _ _ (by omega)];exact o.n j hj (by rw[<-(es j hj).2.2];exact h0),fun j hj h0=>by rw[GN _ _ (by omega)];exact o.i j hj (by rw[<-(es j hj).2.2];exact h0),fun j hj h0=>?_,fun j hj h0=>by rw[GN _ _ (by omega)];exact o.c j hj h0,fun h0=>by rw[GN _ _ (by omega)];exact o.a h0⟩;by_cases e':j=i
  .subst e';rw[IU];exact ha g e
  .rw[GN _ _ (by omega)];simp only[GN _ _ e']at h0;exact o.w j hj h0
theorem WX.rowC{es:List En}(h:WX W k p)(hv:IV W v es):Row W k v es:=by
 obtain⟨f,hb,hr⟩:=h;exact XY hv (hr.fK hb)
theorem DT.other{w:World}{d:Dd}(h:DT k w W d)(hq:w.heap.size+1<q)(x0 x1 x2:Value):DT k w (((W.setCell ⟨q,0,G6⟩ x0).setCell ⟨q,1,G6⟩ x1).setCell ⟨q,2,G6⟩ x2) d:=
 ⟨((h.t.new (by omega) x0).new (by omega) x1).new (by omega) x2,h.r.touch ((TK W q 0 x0 x1 x2)) (by omega),((TK W q 0 x0 x1 x2).block _ h.d.ltz (by omega)).trans h.d⟩
theorem BU0(ws:List Wa)(x:Wa):ZB ws x≠16/\ZB ws x≠7:=by
 unfold ZB uF
 repeat' split
 all_goals decide
theorem BU1{E:Int}(h:E≠0)(h2:E≠16/\E≠7):UA 2 E=false:=by simp[UA,h,h2]
theorem JU.turn{α:Type}[Lay α]{g:Nat}{x:α}(h:JU W g x)(ht:Touch (· =k) W V)(hk:k≠g):JU V g x:=(ht.block g h.ltz (fun e=>hk e.symm)).trans h
theorem NH.turn{g:Nat}{s z:Int}(h:NH W g s z v)(ht:Touch (· =k) W V)(hk:k≠g):NH V g s z v:=(ht.block g h.lt (fun e=>hk e.symm)).trans h
theorem BU2{kd:Int}{x:Rp×Pw}{e:Ending}(h:Did W k kd x e V):Did W k kd x e V.drew:=by
 obtain⟨v,he,ho,ht,hx⟩:=h;exact⟨v,he,ho.next (AB _ _).drew,ht.drew,fun hl=>(hx hl).next (AB _ _).drew⟩
theorem CQ2{c:Nat}{d:Dd}{n:Nd}{es:List En}(hc:c<16)(hk0:k<W.heap.size)(hkq:k≠q)(X:WX V k p)(hv:IV V v es)(D:DT k W V d)(N:JU V q n)(s z:Int):
  WX (rY V k (34+c*3) (I0 s) (I0 z) v).drew k ⟨p.n,p.s,p.r,LZ p.c c ⟨s,z,es⟩,p.D,p.H,p.h⟩/\DT k W (rY V k (34+c*3) (I0 s) (I0 z) v).drew d/\JU (rY V k (34+c*3) (I0 s) (I0 z) v).drew q n:=by
 have hT:=TK V k (34+c*3) (I0 s) (I0 z) v;have hN:=N.turn hT hkq;refine⟨?_,(D.touch hk0 hT).next hk0 (AB _ _).drew,hN.XV (AB _ _).drew hN.ltz⟩;rw[DL c 3];exact(X.BP8 hc (c:=⟨s,z,es⟩) hv).next (AB _ _).drew
theorem BB6(p:Pw)(d:Dd)(k:Nat)(W:World)(hx:WX W k p)(hs:0<=d.s/\d.s<3)(hu:(p.s d.s.toNat).up=false):Calls prog 35 #[wP k,ddV d] W (Did W k 2 (U4 14,p)):=by
 have D0:=GH (DB.start W d);have hk0:=hx.lt;obtain⟨i,hi3,hdi⟩:∃i:Nat,i<3/\d.s=i:=⟨d.s.toNat,by omega,by omega⟩;rw[hdi,FI]at hu;obtain⟨ad,nd,cd,al,cl,an,cn,ai,ci,aw,cw,SS,_,_⟩:=hx.srv hi3 rfl;have HS:=GH (fun V (hV:B0 W V)=>(SS.next hk0 hV).c0);rw[SN hu,DL 10 i]at HS;obtain⟨dk,dc,ds,⟨o,s,pp,dd,v,f⟩,lo,sl,ke,wt⟩:=d;simp only at hdi;subst hdi;have hi4:(i:Int)<3:=by omega
 unfold wP ddV;clear SS hu hs hx;go_enter func35,ntmps35;go_upto_region 1 with fail;generalize ((W.alloc _).alloc _)=W0 at*;obtain⟨⟨_,_,e2,_,_,_,_⟩,_,_,_,_,_,_⟩:=(G9 D0).cells;simp only at e2
 go_quiet (fail)
 have D1:=GH (((G9 D0).next (TL W0 nq)).dt k);have c0:=G9 HS _ ((G9 D0).next (TL W0 nq)).b;generalize W0.drewN nq=W1 at*;clear e2 D0 HS;simp only at c0;have CR:=GH (fun V=>KQ (14) V);unfold UY at CR;go_wp2_with fail;refine(G9 CR _).mono ?_;rintro e wr1 ⟨rfl,hbr⟩;have DR:=(G9 D1).next hk0 hbr;have b0:=DR.r.cells;have g0:=DR.r.H6;have X1:Hid (Did W k 2 (U4 (14),p) (.returned (UY (14))) (gW wr1 (W.heap.size+1) (I0 (14)) (I0 0) (.string ⟨#[]⟩) (.string ⟨#[]⟩) (I0 0) (I0 0) (I0 0) (I0 0) (I0 0) (I0 0) (I0 0) (N0))):=GH (VW rfl (KH DR.t (by omega) _ _ _ _ _ _ _ _ _ _ _ _) (by decide));clear hbr DR D1 CR;unfold UY at X1;go_wp2_with fail;exact bodyPost_ret (v:=.agg #[I0 (14),I0 0,.string ⟨#[]⟩,.string ⟨#[]⟩,I0 0,I0 0,I0 0,I0 0,I0 0,I0 0,I0 0,N0]) (by simp[results,results35,go_sem,b0]) rfl (G9 X1)
theorem CD8(p:Pw)(d:Dd)(k:Nat)(W:World)(hx:WX W k p)(hc:0<=d.c/\d.c<16)(hs:0<=d.s/\d.s<3)(hok:∀j,j<3->MP 299 (p.s j))(hcl:uG 299 p.H d.c.toNat (p.c d.c.toNat))(hp:d.q.p.length<=140737488355328)(hu:(p.s d.s.toNat).up=true):Calls prog 35 #[wP k,ddV d] W (Did W k 2 (bZ p d)):=by
 have D0:=GH (DB.start W d);have hk0:=hx.lt;obtain⟨i,hi3,hdi⟩:∃i:Nat,i<3/\d.s=i:=⟨d.s.toNat,by omega,by omega⟩;obtain⟨c,hc16,hdc⟩:∃c:Nat,c<16/\d.c=c:=⟨d.c.toNat,by omega,by omega⟩;rw[hdi,FI]at hu;rw[hdc,FI]at hcl;obtain⟨ad,nd,cd,al,cl,an,cn,ai,ci,aw,cw,SS,hsv,_⟩:=hx.srv hi3 rfl;obtain⟨ca,cc,k0,k1,k2,hcv⟩:=hx.cl hc16;have hup:=J5 (i:=i) hu;have ok:=hok i hi3;have hgt:RX (svP i (p.s i)).tr:=by rw[hup];exact ok.play.good ok.dn
 have ht:(svP i (p.s i)).tr=SK (p.s i).m (p.s i).dn:=by rw[hup]
 have hw:(svP i (p.s i)).ws=(p.s i).ws:=by rw[hup]
 have hv0:(svP i (p.s i)).up=true:=by rw[hup]
 have HS:=fun V (hV:B0 W V)=>SS.next hk0 hV;simp only[DL 10 i,hv0,hw]at HS;replace HS:=GH HS;have HK:Hid (∀V,B0 W V->V.cell? ⟨k,34+c*3,G6⟩=G8 (I0 (p.c c).s)/\V.cell? ⟨k,34+c*3+1,G6⟩=G8 (I0 (p.c c).z)/\V.cell? ⟨k,34+c*3+2,G6⟩=G8 (FV ca (p.c c).es.length cc)):=GH fun V hV=>by
  have e:∀j,V.cell? ⟨k,j,G6⟩=W.cell? ⟨k,j,G6⟩:=fun j=>by rw[World.cell?,World.cell?,hV.block k hk0]
  rw[e,e,e,DL c 3];exact⟨k0,k1,k2⟩
 have hsc:xW (p.c c).es:=fun y hy=>by have:=hcl.sh y hy;omega
 have CG0:=GH (fun V (hV:B0 W V)=>iT (svP i (p.s i)).tr (FV an (svP i (p.s i)).tr.ns.length cn) (FV ai (svP i (p.s i)).tr.ss.length ci) d.q.p V hgt (by
  obtain⟨_,_,_,_,_,e,_,_,r3,_,_⟩:=hsv.next hV;simp only[Value.agg.injEq,Array.mk.injEq,List.cons.injEq,true_and,and_true]at e;rw[<-e.2.2.1]at r3;exact r3))
 have HWV:=GH (fun V (hV:B0 W V)=>(show IV V (FV aw (p.s i).ws.length cw) (p.s i).ws from by
  obtain⟨_,_,_,_,_,e,_,_,_,_,r5⟩:=hsv.next hV;simp only[Value.agg.injEq,Array.mk.injEq,List.cons.injEq,true_and,and_true]at e;rw[<-e.2.2.2.2,hw]at r5;exact r5))
 have hdat:(pK (svP i (p.s i)).tr d.q.p).d.length<=256:=by
  unfold pK
  cases hr:LW (svP i (p.s i)).tr.ns d.q.p with
  |none=>simp[WH]
  |some m=>simpa using (hgt.nod.ok m (YE hr).1).data
 have HEE:Hid (bZ p d=if(svP i (p.s i)).tr.z<(p.c c).z then(U4 15,p)else if d.wt=false then(⟨AF2 (svP i (p.s i)).tr d.q.p,(svP i (p.s i)).tr.z,(pK (svP i (p.s i)).tr d.q.p).p,(pK (svP i (p.s i)).tr d.q.p).d,pK (svP i (p.s i)).tr d.q.p,[]⟩,⟨p.n,p.s,p.r,LZ p.c c ⟨(p.c c).s,(svP i (p.s i)).tr.z,(p.c c).es⟩,p.D,p.H,p.h⟩)
   else if ZB (p.s i).ws ⟨(p.c c).s,1,d.q.p⟩≠0 then(U4 (ZB (p.s i).ws ⟨(p.c c).s,1,d.q.p⟩),p)
   else(⟨AF2 (svP i (p.s i)).tr d.q.p,(svP i (p.s i)).tr.z,(pK (svP i (p.s i)).tr d.q.p).p,(pK (svP i (p.s i)).tr d.q.p).d,pK (svP i (p.s i)).tr d.q.p,[]⟩,⟨p.n,LZ p.s i (yX (p.s i) ⟨(p.c c).s,1,d.q.p⟩),p.r,LZ p.c c ⟨(p.c c).s,(svP i (p.s i)).tr.z,WI (p.c c).es ⟨d.q.p,(pK (svP i (p.s i)).tr d.q.p).d,AF2 (svP i (p.s i)).tr d.q.p==0⟩⟩,p.D,p.H,p.h⟩)):=GH (by
  have hso:(AF2 (svP i (p.s i)).tr d.q.p==0)=(LW (svP i (p.s i)).tr.ns d.q.p).isSome:=by
   unfold AF2
   cases LW (svP i (p.s i)).tr.ns d.q.p<;>rfl
  rw[hso];unfold bZ BP6 rN rTr rWa mW pK AF2;rw[hdi,hdc,FI,FI,ht,if_neg (by rw[hu];decide)];rfl)
 have HX:=GH hx;have HCv:=GH hcv;have HOK:=GH hok;have HCL:=GH hcl;have HSC:=GH hsc;have hPl:=hp;obtain⟨dk,dc,ds,⟨o,s,pp,dd,v,f⟩,lo,sl,ke,wt⟩:=d;simp only at hdi hdc;subst hdi hdc;simp only at CG0 HEE hPl hdat;have hi4:(i:Int)<3:=by omega
 have hc4:(c:Int)<16:=by omega
 unfold wP ddV;unfold U8 at CG0;clear SS hs hx hsv hup hgt ht hw hv0 hok ok hcl hcv hsc hp k0 k1 k2 hc;generalize hts:(svP i (p.s i)).tr=t at*;have HTS:=GH hts;clear hts;generalize hcs:(p.c c).s=cs at*;generalize hcz:(p.c c).z=cz at*;generalize hes:(p.c c).es=es at*;generalize pK t pp=n at*;generalize AF2 t pp=E at*;have HCE:=GH (DJ hcs hes);clear hcs hcz hes;rw[G9 HEE];clear HEE;generalize hR:(if t.z<cz then(U4 15,p)else _)=R;have HR:=GH hR;clear hR;go_enter func35,ntmps35;go_upto_region 1 with fail;generalize ((W.alloc _).alloc _)=W0 at*;obtain⟨⟨_,_,e2,_,_,_,_⟩,_,_,_,_,_,_⟩:=(G9 D0).cells;simp only at e2
 go_quiet (fail)
 have D1:=GH ((G9 D0).next (TL W0 nq));have c0:=(G9 HS _ (G9 D1).b).c0;generalize W0.drewN nq=W1 at*;clear e2 D0;have hkW:k<W1.heap.size:=Nat.lt_of_lt_of_le hk0 (G9 D1).b.size;have HKS:Hid (∀V,B0 W1 V->V.cell? ⟨W.heap.size,1,G6⟩=G8 (I0 c)/\V.cell? ⟨k,34+c*3,G6⟩=G8 (I0 cs)/\V.cell? ⟨k,34+c*3+1,G6⟩=G8 (I0 cz)/\V.cell? ⟨k,34+c*3+2,G6⟩=G8 (FV ca es.length cc)/\V.cell? ⟨k,1+i*10+6,G6⟩=G8 (I0 t.z)):=GH fun V hV=>by
  have hb:=GK (G9 D1).b hV;obtain⟨⟨_,e1,_,_,_,_,_⟩,_,_,_,_,_,_⟩:=((G9 D1).next hV).cells;obtain⟨h0,h1,h2⟩:=G9 HK V hb;exact⟨e1,h0,h1,h2,(G9 HS V hb).c6⟩
 go_upto_region 4 with fail;clear c0;by_cases hst:t.z<cz
 .have C1:=GH (fun V (_:B0 W1 V)=>C79 cs cz t.z ca es.length cc V hst);unfold clV at C1
  go_cut [6,7]from 22 (fun t6 t7 wx=>∃q,t6=P0 q/\t7=I0 15/\Hid (B0 W1 wx))
  case first=>
   have hS0:=G9 HKS _ (AB W1.heap.size W1).drew;refine wp_region_held (S:=fun V:World=>V.cell? ⟨W.heap.size,1,G6⟩=G8 (I0 c)/\V.cell? ⟨k,34+c*3,G6⟩=G8 (I0 cs)/\V.cell? ⟨k,34+c*3+1,G6⟩=G8 (I0 cz)/\V.cell? ⟨k,34+c*3+2,G6⟩=G8 (FV ca es.length cc)/\V.cell? ⟨k,1+i*10+6,G6⟩=G8 (I0 t.z)) (by kernel_rfl) ?_;change wpAnyH _ _ _ _ _ _ _ _ W1.drew;refine tkH 0 hS0 ?_;refine tkH 1 hS0 ?_;refine tkH 2 hS0 ?_;refine tkH 3 hS0 ?_;refine tkH 4 hS0 ?_;refine tkH 5 hS0 ?_;refine tkH 6 hS0 ?_;refine tkH 7 hS0 ?_;refine tkH 8 hS0 ?_;refine tkH 9 hS0 ?_;refine tkH 10 hS0 ?_;refine tkH 11 hS0 ?_;refine rd2 12 16 (fun K hK=>?_) (fun K hK=>?_)
   .go_simp;refine(G9 C1 _ (AB _ _).drew).mono ?_;rintro e w1 ⟨rfl,hb1⟩;have aB1:Hid (B0 W1 w1):=GH (GK (AB _ _).drew hb1);clear hb1;have hS1:=G9 HKS _ (G9 aB1);refine nxH hK hS1 ?_;clear hK K;refine tkH 13 hS1 ?_;refine tkH 14 hS1 ?_;refine tkH 15 hS1 ?_;refine rd1 16 (fun K hK=>?_);go_simp;have hS2:=G9 HKS _ (GK (G9 aB1) (GI w1 (.cells #[I0 0,I0 0,N0] 70)));refine nxH hK hS2 ?_;clear hK K;refine rd1 17 (fun K hK=>?_);go_simp;have hX2:Hid (B0 W1 _):=GH (GK (G9 aB1) (GI w1 (.cells #[I0 0,I0 0,N0] 70)));have hS3:=G9 HKS _ (G9 hX2);refine nxH hK hS3 ?_;clear hK K;refine tkH 18 hS3 ?_;refine wpAnyH_done (by kernel_rfl) ?_ _;go_wp2_with fail
    go_meet
    exact⟨_,rfl,rfl,hX2⟩
   .go_simp;have hS2:=G9 HKS _ (GK (AB W1.heap.size W1).drew (GI W1.drew (.cells #[I0 0,I0 0,N0] 70)));refine nxH hK hS2 ?_;clear hK K;refine rd1 12 (fun K hK=>?_);go_simp;refine(G9 C1 _ (GK (AB _ _).drew (GI _ _))).mono ?_;rintro e w1 ⟨rfl,hb1⟩;have aB1:Hid (B0 W1 w1):=GH (GK (GK (AB _ _).drew (GI _ _)) hb1);have aZ1:Hid (NH w1 W1.heap.size 0 0 (N0)):=GH ((hb1.block _ (by simp)).trans (heap_alloc_new W1.drew _));clear hb1;have hS1:=G9 HKS _ (G9 aB1);refine nxH hK hS1 ?_;clear hK K;refine tkH 13 hS1 ?_;refine tkH 14 hS1 ?_;refine tkH 15 hS1 ?_;refine rd1 17 (fun K hK=>?_);have z0:=(G9 aZ1).fr 0;have z1:=(G9 aZ1).fr 1;have z2:=(G9 aZ1).fr 2;have x0:=(G9 aZ1).c0;have x1:=(G9 aZ1).c1;have x2:=(G9 aZ1).c2;go_simp;have hX2:Hid (B0 W1 _):=GH ((((G9 aB1).setCell (p:=⟨W1.heap.size,0,G6⟩) (AA _) (I0 0)).setCell (p:=⟨W1.heap.size,1,G6⟩) (AA _) (I0 0)).setCell (p:=⟨W1.heap.size,2,G6⟩) (AA _) (N0));have hS3:=G9 HKS _ (G9 hX2);refine nxH hK hS3 ?_;clear hK K;refine tkH 18 hS3 ?_;refine wpAnyH_done (by kernel_rfl) ?_ _;go_wp2_with fail
    go_meet
    exact⟨_,rfl,rfl,hX2⟩
  case rest=>
   obtain⟨q,rfl,rfl,HQ⟩:=hcut;have D2:=GH (((G9 D1).next (G9 HQ)).dt k);clear HKS C1 D1 HQ;have CR:=GH (fun V=>KQ (15) V);unfold UY at CR;go_wp2_with fail;refine(G9 CR _).mono ?_;rintro e wr1 ⟨rfl,hbr⟩;have DR:=(G9 D2).next hk0 hbr;have b0:=DR.r.cells;have g0:=DR.r.H6;have X1:Hid (Did W k 2 (U4 (15),p) (.returned (UY (15))) (gW wr1 (W.heap.size+1) (I0 (15)) (I0 0) (.string ⟨#[]⟩) (.string ⟨#[]⟩) (I0 0) (I0 0) (I0 0) (I0 0) (I0 0) (I0 0) (I0 0) (N0))):=GH (VW rfl (KH DR.t (by omega) _ _ _ _ _ _ _ _ _ _ _ _) (by decide));clear hbr DR D2 CR;unfold UY at X1;go_wp2_with fail;exact bodyPost_ret (v:=.agg #[I0 (15),I0 0,.string ⟨#[]⟩,.string ⟨#[]⟩,I0 0,I0 0,I0 0,I0 0,I0 0,I0 0,I0 0,N0]) (by simp[results,results35,go_sem,b0]) rfl (by rw[<-G9 HR,if_pos hst];exact G9 X1)
 .have hle:cz<=t.z:=by omega
  have C1:=GH (fun V (hV:B0 W1 V)=>(AE0 cs cz t.z (FV ca es.length cc) es V ((G9 HCv).next (GK (G9 D1).b hV)) (G9 HSC) (by have:=(G9 HCL).len;rw[(G9 HCE).2]at this;omega) hle).mono fun e w' h=>(show ∃a1 c1,e=.returned (.tuple #[.agg #[I0 cs,I0 t.z,FV a1 es.length c1],I0 0])/\Hid (I5 w' V.heap.size (FV a1 es.length c1) es)/\B0 V w' from by
   obtain⟨v',he,ho,hb⟩:=h;obtain⟨a1,c1,rfl⟩:=IQ ho;exact⟨a1,c1,he,GH ho,hb⟩))
  go_cut [6,7]from 22 (fun t6 t7 wx=>∃q a1 c1,t6=P0 q/\t7=I0 0/\Hid (BZ2 W1 wx q cs t.z (FV a1 es.length c1) es))
  case first=>
   have hS0:=G9 HKS _ (AB W1.heap.size W1).drew;refine wp_region_held (S:=fun V:World=>V.cell? ⟨W.heap.size,1,G6⟩=G8 (I0 c)/\V.cell? ⟨k,34+c*3,G6⟩=G8 (I0 cs)/\V.cell? ⟨k,34+c*3+1,G6⟩=G8 (I0 cz)/\V.cell? ⟨k,34+c*3+2,G6⟩=G8 (FV ca es.length cc)/\V.cell? ⟨k,1+i*10+6,G6⟩=G8 (I0 t.z)) (by kernel_rfl) ?_;change wpAnyH _ _ _ _ _ _ _ _ W1.drew;refine tkH 0 hS0 ?_;refine tkH 1 hS0 ?_;refine tkH 2 hS0 ?_;refine tkH 3 hS0 ?_;refine tkH 4 hS0 ?_;refine tkH 5 hS0 ?_;refine tkH 6 hS0 ?_;refine tkH 7 hS0 ?_;refine tkH 8 hS0 ?_;refine tkH 9 hS0 ?_;refine tkH 10 hS0 ?_;refine tkH 11 hS0 ?_;refine rd2 12 16 (fun K hK=>?_) (fun K hK=>?_)
   .go_simp;refine(G9 C1 _ (AB _ _).drew).mono ?_;rintro e w1 ⟨a1,c1,rfl,H1,hb1⟩;have aB1:Hid (B0 W1 w1):=GH (GK (AB _ _).drew hb1);clear hb1;have hS1:=G9 HKS _ (G9 aB1);refine nxH hK hS1 ?_;clear hK K;refine tkH 13 hS1 ?_;refine tkH 14 hS1 ?_;refine tkH 15 hS1 ?_;refine rd1 16 (fun K hK=>?_);go_simp;have hS2:=G9 HKS _ (GK (G9 aB1) (GI w1 (.cells #[I0 0,I0 0,N0] 70)));refine nxH hK hS2 ?_;clear hK K;refine rd1 17 (fun K hK=>?_);go_simp;have hX2:Hid (BZ2 W1 _ _ cs t.z (FV a1 es.length c1) es):=GH (AF7 (G9 aB1) (G9 H1));have hS3:=G9 HKS _ (G9 hX2).b;refine nxH hK hS3 ?_;clear hK K;refine tkH 18 hS3 ?_;refine wpAnyH_done (by kernel_rfl) ?_ _;go_wp2_with fail
    go_meet
    exact⟨_,a1,c1,rfl,rfl,hX2⟩
   .go_simp;have hS2:=G9 HKS _ (GK (AB W1.heap.size W1).drew (GI W1.drew (.cells #[I0 0,I0 0,N0] 70)));refine nxH hK hS2 ?_;clear hK K;refine rd1 12 (fun K hK=>?_);go_simp;refine(G9 C1 _ (GK (AB _ _).drew (GI _ _))).mono ?_;rintro e w1 ⟨a1,c1,rfl,H1,hb1⟩;have aB1:Hid (B0 W1 w1):=GH (GK (GK (AB _ _).drew (GI _ _)) hb1);have aZ1:Hid (NH w1 W1.heap.size 0 0 (N0)):=GH ((hb1.block _ (by simp)).trans (heap_alloc_new W1.drew _));clear hb1;have hS1:=G9 HKS _ (G9 aB1);refine nxH hK hS1 ?_;clear hK K;refine tkH 13 hS1 ?_;refine tkH 14 hS1 ?_;refine tkH 15 hS1 ?_;refine rd1 17 (fun K hK=>?_);have z0:=(G9 aZ1).fr 0;have z1:=(G9 aZ1).fr 1;have z2:=(G9 aZ1).fr 2;have x0:=(G9 aZ1).c0;have x1:=(G9 aZ1).c1;have x2:=(G9 aZ1).c2;go_simp;have hX2:Hid (BZ2 W1 _ _ cs t.z (FV a1 es.length c1) es):=GH (AF8 (G9 aB1) (AA _) (G9 aZ1) (G9 H1) (by simp));have hS3:=G9 HKS _ (G9 hX2).b;refine nxH hK hS3 ?_;clear hK K;refine tkH 18 hS3 ?_;refine wpAnyH_done (by kernel_rfl) ?_ _;go_wp2_with fail
    go_meet
    exact⟨_,a1,c1,rfl,rfl,hX2⟩
  case rest=>
   obtain⟨q,a1,c1,rfl,rfl,HQ⟩:=hcut;generalize wc=W7 at*;have D7:=GH ((G9 D1).next (G9 HQ).b);have X7:=GH (((G9 HX).next (G9 D1).b).offq (G9 HQ).le|>.next (G9 HQ).b);have hkq:k≠q:=by have:=(G9 HQ).le;omega
   have hWq:W.heap.size+1<q:=by have:=(G9 HQ).le;have:=(G9 D1).r.lt;omega
   have Q7:=GH (DJ (G9 HQ).box (G9 HQ).v);have hk7:=(G9 X7).x.lt;clear HKS C1 D1 HQ hle hkW;have HKS:Hid (∀V,B0 W7 V->V.cell? ⟨k,1+i*10+6,G6⟩=G8 (I0 t.z)/\V.cell? ⟨k,1+i*10+7,G6⟩=G8 (FV an t.ns.length cn)/\V.cell? ⟨k,1+i*10+8,G6⟩=G8 (FV ai t.ss.length ci)/\V.cell? ⟨W.heap.size,5,G6⟩=G8 (S0 pp)):=GH fun V hV=>by
    have hb:=GK (G9 D7).b hV;obtain⟨⟨_,_,_,_,_,e5,_⟩,_,_,_,_,_,_⟩:=((G9 D7).next hV).cells;have h:=G9 HS V hb;exact⟨h.c6,h.c7,h.c8,e5⟩
   have CG:=GH (fun V (hV:B0 W7 V)=>G9 CG0 V (GK (G9 D7).b hV));go_upto_region 7 with fail
   go_cut [8,9]from 42 (fun t8 t9 wx=>∃q7,t8=P0 q7/\t9=I0 E/\Hid (BS6 W7 wx q7 n))
   case first=>
    have hS0:=G9 HKS _ (AB W7.heap.size W7).drew;refine wp_region_held (S:=fun V:World=>V.cell? ⟨k,1+i*10+6,G6⟩=G8 (I0 t.z)/\V.cell? ⟨k,1+i*10+7,G6⟩=G8 (FV an t.ns.length cn)/\V.cell? ⟨k,1+i*10+8,G6⟩=G8 (FV ai t.ss.length ci)/\V.cell? ⟨W.heap.size,5,G6⟩=G8 (S0 pp)) (by kernel_rfl) ?_;change wpAnyH _ _ _ _ _ _ _ _ W7.drew;refine tkH 0 hS0 ?_;refine tkH 1 hS0 ?_;refine tkH 2 hS0 ?_;refine tkH 3 hS0 ?_;refine tkH 4 hS0 ?_;refine tkH 5 hS0 ?_;refine tkH 6 hS0 ?_;refine rd2 7 11 (fun K hK=>?_) (fun K hK=>?_)
    .go_simp;refine(G9 CG _ (AB _ _).drew).mono ?_;rintro e w2 ⟨rfl,hb2⟩;have aB2:Hid (B0 W7 w2):=GH (GK (AB _ _).drew hb2);clear hb2;have hS2:=G9 HKS _ (G9 aB2);refine nxH hK hS2 ?_;clear hK K;refine tkH 8 hS2 ?_;refine tkH 9 hS2 ?_;refine tkH 10 hS2 ?_;refine rd1 11 (fun K hK=>?_);go_simp;have hS3:=G9 HKS _ (GK (G9 aB2) (GI w2 (.cells #[.string ⟨#[]⟩,.string ⟨#[]⟩,I0 0,I0 0,I0 0,I0 0,I0 0,I0 0,I0 0] 61)));refine nxH hK hS3 ?_;clear hK K;refine rd1 12 (fun K hK=>?_);go_simp;have hX2:Hid (BS6 W7 _ _ n):=GH (AF6 n.p n.d n.c n.m n.q n.v n.k n.o n.n (G9 aB2));have hS4:=G9 HKS _ (G9 hX2).b;refine nxH hK hS4 ?_;clear hK K;refine tkH 13 hS4 ?_;refine wpAnyH_done (by kernel_rfl) ?_ _;go_wp2_with fail
     go_meet
     exact⟨_,rfl,rfl,hX2⟩
    .go_simp;have hS3:=G9 HKS _ (GK (AB W7.heap.size W7).drew (GI W7.drew (.cells #[.string ⟨#[]⟩,.string ⟨#[]⟩,I0 0,I0 0,I0 0,I0 0,I0 0,I0 0,I0 0] 61)));refine nxH hK hS3 ?_;clear hK K;refine rd1 7 (fun K hK=>?_);go_simp;refine(G9 CG _ (GK (AB _ _).drew (GI _ _))).mono ?_;rintro e w2 ⟨rfl,hb2⟩;have aB2:Hid (B0 W7 w2):=GH (GK (GK (AB _ _).drew (GI _ _)) hb2);have aZ2:Hid (JU w2 W7.heap.size WH):=GH ((hb2.block _ (by simp)).trans (heap_alloc_new W7.drew _));clear hb2;have hS2:=G9 HKS _ (G9 aB2);refine nxH hK hS2 ?_;clear hK K;refine tkH 8 hS2 ?_;refine tkH 9 hS2 ?_;refine tkH 10 hS2 ?_;refine rd1 12 (fun K hK=>?_);obtain⟨⟨x0,x1,x2,x3,x4,x5,x6,x7,x8⟩,y0,y1,y2,y3,y4,y5,y6,y7,y8⟩:=sV (G9 aZ2);go_simp;have hX2:Hid (BS6 W7 _ _ n):=GH (sU n.p n.d n.c n.m n.q n.v n.k n.o n.n (G9 aB2) (AA _) (G9 aZ2));have hS4:=G9 HKS _ (G9 hX2).b;refine nxH hK hS4 ?_;clear hK K;refine tkH 13 hS4 ?_;refine wpAnyH_done (by kernel_rfl) ?_ _;go_wp2_with fail
     go_meet
     exact⟨_,rfl,rfl,hX2⟩
   case rest=>
    obtain⟨q7,rfl,rfl,HN⟩:=hcut;generalize wc=W9 at*;have D9:=GH ((G9 D7).next (G9 HN).b);have X9:=GH ((G9 X7).next (G9 HN).b);have Q9:=GH (DJ ((G9 Q7).1.next (G9 HN).b) ((G9 Q7).2.next (G9 HN).b));have N9:=GH (G9 HN).one;have hk9:=(G9 X9).x.lt;have hkn:k≠q7:=by have:=(G9 HN).le;omega
    have hqn:q≠q7:=by have:=(G9 HN).le;have:=(G9 Q7).1.lt;omega
    have hWn:W.heap.size+1<q7:=by have:=(G9 HN).le;have:=(G9 Q7).1.lt;omega
    obtain⟨⟨_,_,_,_,_,_,_⟩,_,_,_,_,_,e12⟩:=(G9 D9).cells;simp only at e12;clear HKS CG CG0 D7 X7 Q7 HN;refine Or.elim (show wt=false\/wt=true by cases wt<;>simp) ?a0 ?a1
    case' a1=>
     intro hwt;subst hwt;have K9:Hid (∀V,B0 W9 V->V.cell? ⟨k,1+i*10+9,G6⟩=G8 (FV aw (p.s i).ws.length cw)):=GH fun V hV=>(G9 HS V (GK (G9 D9).b hV)).c9;have F9:Hid (∀V,B0 W9 V->V.frozen? ⟨k,1+i*10+9,G6⟩=false):=GH fun V hV=>((G9 X9).x.next hV).H6 _;have CA:=GH (fun V (hV:B0 W9 V)=>(CD7 (FV aw (p.s i).ws.length cw) (p.s i).ws ⟨cs,1,pp⟩ V (G9 HWV V (GK (G9 D9).b hV)) (fun y hy=>by have:=MV ((G9 HOK i hi3).wk y hy).2.2.2;omega) hPl (by have:=(G9 HOK i hi3).wl;omega)).mono fun e w' h=>(show ∃a3 c3,e=.returned (.tuple #[FV a3 (oU (p.s i).ws ⟨cs,1,pp⟩).length c3,I0 (ZB (p.s i).ws ⟨cs,1,pp⟩)])/\Hid (I5 w' V.heap.size (FV a3 (oU (p.s i).ws ⟨cs,1,pp⟩).length c3) (oU (p.s i).ws ⟨cs,1,pp⟩))/\B0 V w' from by
      obtain⟨v',he,ho,hb⟩:=h;obtain⟨a3,c3,rfl⟩:=IQ ho;exact⟨a3,c3,he,GH ho,hb⟩))
     unfold waV at CA;simp only at CA;have HAE:=GH (BU0 (p.s i).ws ⟨cs,1,pp⟩);generalize hws:oU (p.s i).ws ⟨cs,1,pp⟩=ws' at*;generalize hae:ZB (p.s i).ws ⟨cs,1,pp⟩=AE at*;have HWS:=GH (DJ hws hae);clear hws hae;have HKS:Hid (∀V,B0 W9 V->V.cell? ⟨q,0,G6⟩=G8 (I0 cs)/\V.cell? ⟨W.heap.size,5,G6⟩=G8 (S0 pp)):=GH fun V hV=>by
      obtain⟨⟨_,_,_,_,_,e5,_⟩,_,_,_,_,_,_⟩:=((G9 D9).next hV).cells;exact⟨((G9 Q9).1.next hV).c0,e5⟩
     have HKX:Hid (∀w5,B0 W9 w5->∀y,(fun V:World=>V.cell? ⟨q,0,G6⟩=G8 (I0 cs)/\V.cell? ⟨W.heap.size,5,G6⟩=G8 (S0 pp)) (w5.setCell ⟨k,1+i*10+9,G6⟩ y)):=GH fun w5 h5 y=>by
      have t5:=JQ w5 k (1+i*10+9) y;have b5:=((G9 Q9).1.next h5).turn t5 hkq;obtain⟨⟨_,_,_,_,_,e5,_⟩,_,_,_,_,_,_⟩:=((((G9 D9).next h5).dt k).touch hk0 t5).cells;exact⟨b5.c0,e5⟩
     go_upto_region 9 with fail
     go_cut [7]from 55 (fun t7 wx=>t7=I0 AE/\∃w9 a3 c3,wx=w9.setCell ⟨k,1+i*10+9,G6⟩ (FV a3 ws'.length c3)/\Hid (B0 W9 w9/\I5 w9 W9.heap.size (FV a3 ws'.length c3) ws'))
     case first=>
      have hS0:=G9 HKS _ (AB W9.heap.size W9).drew;refine wp_region_held (S:=fun V:World=>V.cell? ⟨q,0,G6⟩=G8 (I0 cs)/\V.cell? ⟨W.heap.size,5,G6⟩=G8 (S0 pp)) (by kernel_rfl) ?_;change wpAnyH _ _ _ _ _ _ _ _ W9.drew;refine tkH 0 hS0 ?_;refine tkH 1 hS0 ?_;refine tkH 2 hS0 ?_;refine tkH 3 hS0 ?_;refine tkH 5 hS0 ?_;refine tkH 6 hS0 ?_;refine tkH 7 hS0 ?_;refine tkH 8 hS0 ?_;refine tkH 9 hS0 ?_;refine tkH 10 hS0 ?_;refine rd1 4 (fun K hK=>?_);have d8:=G9 K9 _ (AB W9.heap.size W9).drew;have d9:=G9 K9 W9 (AB _ _);go_simp;clear d8 d9;refine nxH hK hS0 ?_;clear hK K;refine rd1 11 (fun K hK=>?_);go_simp;refine(G9 CA _ (AB _ _).drew).mono ?_;rintro e w1 ⟨a3,c3,rfl,H1,hb1⟩;have aB1:Hid (B0 W9 w1):=GH (GK (AB _ _).drew hb1);clear hb1;have hS1:=G9 HKS _ (G9 aB1);refine nxH hK hS1 ?_;clear hK K;refine tkH 12 hS1 ?_;refine tkH 13 hS1 ?_;refine tkH 14 hS1 ?_;refine tkH 15 hS1 ?_;refine tkH 16 hS1 ?_;refine rd1 17 (fun K hK=>?_);have d8:=G9 K9 _ (G9 aB1);have f8:=G9 F9 _ (G9 aB1);go_simp;have hS6:=G9 HKX w1 (G9 aB1) (FV a3 ws'.length c3);refine nxH hK hS6 ?_;clear hK K;refine tkH 18 hS6 ?_;refine wpAnyH_done (by kernel_rfl) ?_ _;go_wp2_with fail
      go_meet
      exact⟨rfl,w1,a3,c3,rfl,GH ⟨G9 aB1,G9 H1⟩⟩
     obtain⟨rfl,w9,a3,c3,rfl,H9⟩:=hcut;have T10:=GH ((Touch.of_below (F:=(· =k)) (G9 H9).1).trans (JQ w9 k (1+i*10+9) (FV a3 ws'.length c3)));have D10:=GH (((G9 D9).dt k).touch hk0 (G9 T10));have Q10:=GH (DJ ((G9 Q9).1.turn (G9 T10) hkq) ((((G9 X9).x.rowC (G9 Q9).2).touch (G9 T10)).1));have N10:=GH ((G9 N9).turn (G9 T10) hkn);have X10:=GH (fun(hu:(p.s i).up=true)=>((G9 X9).next (G9 H9).1).BY4 hi3 hu (x:=yX (p.s i) ⟨cs,1,pp⟩) (y:=FV a3 ws'.length c3) rfl (by show IV w9 _ (oU (p.s i).ws ⟨cs,1,pp⟩);rw[(G9 HWS).1];exact(G9 H9).2.seq) (fun g e=>by
      simp only[DK,Option.some.injEq]at e;subst e;exact VL (G9 H9).2 (G9 Q9).1.lt) (fun b e=>VL (G9 H9).2 ((G9 X9).x.hlt e)))
     rw[DL 10 i]at X10;clear K9 F9 CA HKS HKX D9 X9 Q9 N9 H9 T10 e12 hk9;generalize w9.setCell _ _=W10 at*;by_cases hA:AE≠0
     .have hA2:(AE==0)=false:=beq_eq_false_iff_ne.2 hA;have CR:=GH (fun V=>KQ (AE) V);unfold UY at CR;go_wp2_with fail;refine(G9 CR _).mono ?_;rintro e wr1 ⟨rfl,hbr⟩;have DR:=(G9 D10).next hk0 hbr;have b0:=DR.r.cells;have g0:=DR.r.H6;have X1:Hid (Did W k 2 (U4 (AE),p) (.returned (UY (AE))) (gW wr1 (W.heap.size+1) (I0 (AE)) (I0 0) (.string ⟨#[]⟩) (.string ⟨#[]⟩) (I0 0) (I0 0) (I0 0) (I0 0) (I0 0) (I0 0) (I0 0) (N0))):=GH (VW rfl (KH DR.t (by omega) _ _ _ _ _ _ _ _ _ _ _ _) (BU1 hA (G9 HAE)));clear hbr DR D10 CR;unfold UY at X1;go_wp2_with fail;exact bodyPost_ret (v:=.agg #[I0 (AE),I0 0,.string ⟨#[]⟩,.string ⟨#[]⟩,I0 0,I0 0,I0 0,I0 0,I0 0,I0 0,I0 0,N0]) (by simp[results,results35,go_sem,b0]) rfl (by rw[<-G9 HR,if_neg (show ¬t.z<cz by omega),if_neg (by simp),if_pos hA];exact G9 X1)
     obtain rfl:AE=0:=by omega
     have C12:=GH (fun V (hV:B0 W10 V)=>(BB4 cs t.z (FV a1 es.length c1) es ⟨pp,n.d,E==0⟩ V ((G9 Q10).2.next hV) (G9 HSC) (by have:=(G9 HCL).len;rw[(G9 HCE).2]at this;omega) (by have:=(G9 HCL).asc;rw[(G9 HCE).2]at this;exact this) ⟨hPl,by show n.d.length<=_;omega⟩).mono fun e w' h=>(show ∃a4 c4,e=.returned (.agg #[I0 cs,I0 t.z,FV a4 (WI es ⟨pp,n.d,E==0⟩).length c4])/\Hid (I5 w' V.heap.size (FV a4 (WI es ⟨pp,n.d,E==0⟩).length c4) (WI es ⟨pp,n.d,E==0⟩))/\B0 V w' from by
      obtain⟨v',he,ho,hb⟩:=h;obtain⟨a4,c4,rfl⟩:=IQ ho;exact⟨a4,c4,he,GH ho,hb⟩))
     unfold clV enV at C12;simp only at C12;generalize hkE:WI es ⟨pp,n.d,E==0⟩=es' at*;have HKE:=GH hkE;clear hkE;have x0:=(G9 Q10).1.c0;have x1:=(G9 Q10).1.c1;have x2:=(G9 Q10).1.c2;have n1:=(G9 N10).JO 1 _ rfl;obtain⟨⟨_,_,_,_,_,e5,_⟩,_,_,_,_,_,_⟩:=(G9 D10).cells;simp only at e5;go_wp2_with fail;refine(G9 C12 _ (AB _ _)).mono ?_;rintro e w12 ⟨a4,c4,rfl,H12,CQ3⟩;clear x0 x1 x2 n1 e5 C12;have hq10:=(G9 Q10).1.lt;have Q12:=(G9 Q10).1.next CQ3;have x0:=Q12.c0;have x1:=Q12.c1;have x2:=Q12.c2;have y0:=Q12.fr 0;have y1:=Q12.fr 1;have y2:=Q12.fr 2;have D13:=GH (((G9 D10).next hk0 CQ3).other (show W.heap.size+1<q by omega) (I0 cs) (I0 t.z) (FV a4 es'.length c4));have N13:=GH ((((((G9 N10).XV CQ3 (G9 N10).ltz).PD (a:=⟨q,0,G6⟩) (fun e=>hqn e.symm) (I0 cs)).PD (a:=⟨q,1,G6⟩) (fun e=>hqn e.symm) (I0 t.z)).PD (a:=⟨q,2,G6⟩) (fun e=>hqn e.symm) (FV a4 es'.length c4)));have Q13:=GH (DJ (((Q12.set0 (s':=cs)).set1 (z':=t.z)).set2 (v':=FV a4 es'.length c4)) (((((G9 H12).PD (k:=q) (j:=0) hq10 (I0 cs)).PD (k:=q) (j:=1) hq10 (I0 t.z)).PD (k:=q) (j:=2) hq10 (FV a4 es'.length c4)).seq));have X13:=GH (fun hu=>((((G9 X10) hu).next CQ3).far rfl hkq (TK w12 q 0 (I0 cs) (I0 t.z) (FV a4 es'.length c4))).x);unfold rY at X13;obtain⟨P13,BB7⟩:∃P:Pw,P=⟨p.n,LZ p.s i (yX (p.s i) ⟨cs,1,pp⟩),p.r,p.c,p.D,p.H,p.h⟩:=⟨_,rfl⟩;have HF:Hid (R=(⟨E,t.z,n.p,n.d,n,[]⟩,⟨P13.n,P13.s,P13.r,LZ P13.c c ⟨cs,t.z,es'⟩,P13.D,P13.H,P13.h⟩)):=GH (by rw[BB7,<-G9 HR,if_neg (show ¬t.z<cz by omega),if_neg (by simp),if_neg (by simp)]);have HO:Hid (∀j,j<3->MP 300 (P13.s j)):=GH fun j hj=>by
      rw[BB7];show MP 300 (LZ p.s i (yX (p.s i) ⟨cs,1,pp⟩) j);by_cases e:j=i
      .subst e;rw[IU];exact BY6 (G9 HOK j hj) hu (by rw[(G9 HWS).2]) rfl (by have:=(G9 HCL).s;rw[(G9 HCE).1]at this;show 1<=cs/\cs<=16;omega)
      .rw[GN _ _ e];exact(G9 HOK j hj).more (by omega)
     replace X13:=GH (G9 X13 hu);rw[<-BB7]at X13;have HZ:Hid ((svP i (P13.s i)).tr.z=t.z):=GH (by
      rw[BB7];show (svP i (LZ p.s i (yX (p.s i) ⟨cs,1,pp⟩) i)).tr.z=t.z;rw[IU,<-G9 HTS,J5 hu,J5 (p:=yX (p.s i) ⟨cs,1,pp⟩) hu];rfl)
     clear BB7 Q12 D10 Q10 N10 X10 H12 CQ3 HWS HAE HKE;go_upto_region 13 with fail;generalize ((w12.setCell _ _).setCell _ _).setCell _ _=W13 at*;clear x0 x1 x2 y0 y1 y2
    case' a0=>
     intro hwt;subst hwt;obtain⟨P13,BB7⟩:∃P:Pw,P=p:=⟨_,rfl⟩;have HF:Hid (R=(⟨E,t.z,n.p,n.d,n,[]⟩,⟨P13.n,P13.s,P13.r,LZ P13.c c ⟨cs,t.z,es⟩,P13.D,P13.H,P13.h⟩)):=GH (by rw[BB7,<-G9 HR,if_neg (show ¬t.z<cz by omega),if_pos rfl]);have HO:Hid (∀j,j<3->MP 300 (P13.s j)):=GH fun j hj=>by rw[BB7];exact(G9 HOK j hj).more (by omega)
     have X13:=GH (G9 X9).x;rw[<-BB7]at X13;have D13:=GH ((G9 D9).dt k);have Q13:=Q9;have N13:=N9;have HZ:Hid ((svP i (P13.s i)).tr.z=t.z):=GH (by rw[BB7,G9 HTS]);clear BB7 X9 D9 Q9 N9;go_upto_region 13 with fail
    all_goals
     have x0:=(G9 Q13).1.c0;have x1:=(G9 Q13).1.c1;have x2:=(G9 Q13).1.c2;obtain⟨⟨_,e1,_,_,_,_,_⟩,_,_,_,_,_,_⟩:=(G9 D13).cells;simp only at e1;obtain⟨_,_,k0,k1,k2,_⟩:=(G9 X13).cl hc16;rw[DL 3 c]at k0 k1 k2;have f0:=(G9 X13).H6 (34+c*3);have f1:=(G9 X13).H6 (34+c*3+1);have f2:=(G9 X13).H6 (34+c*3+2);have hkl:=(G9 X13).lt;go_region;have X14:=GH (CQ2 hc16 hk0 hkn (G9 X13) (G9 Q13).2 (G9 D13) (G9 N13) cs t.z);unfold rY at X14;clear x0 x1 x2 e1 k0 k1 k2 f0 f1 f2 hkl X13 D13 N13 Q13;generalize World.drew _=W14 at*;obtain⟨_,_,_,_,_,_,_,_,_,_,_,SS,_,_⟩:=(G9 X14).1.srv hi3 rfl;have D14:=GH (G9 X14).2;have k6:=SS.c6;simp only[DL 10 i,G9 HZ]at k6;have n0:=(G9 D14).2.JO 0 _ rfl;have n1:=(G9 D14).2.JO 1 _ rfl;have n2:=(G9 D14).2.JO 2 _ rfl;have n3:=(G9 D14).2.JO 3 _ rfl;have n4:=(G9 D14).2.JO 4 _ rfl;have n5:=(G9 D14).2.JO 5 _ rfl;have n6:=(G9 D14).2.JO 6 _ rfl;have n7:=(G9 D14).2.JO 7 _ rfl;have n8:=(G9 D14).2.JO 8 _ rfl;have X1:=GH (BU2 (iU (kd:=2) (B:=W.heap.size+2) (r:=⟨E,t.z,n.p,n.d,n,[]⟩) (vn:=N0) (G9 D14).1.t (G9 D14).1.r (by omega) (by omega) ((G9 X14).1.grN rfl) (G9 HO) (ZW.nil _ _) (by omega)));have b0:=(G9 D14).1.r.cells;have g0:=(G9 D14).1.r.H6;simp only[rpV,gW]at X1;clear SS X14 D14 HO HZ;go_upto_region 14 with fail;go_region;go_wp2_with fail;exact bodyPost_ret (v:=.agg #[I0 E,I0 t.z,S0 n.p,S0 n.d,I0 n.c,I0 n.m,I0 n.q,I0 n.v,I0 n.k,I0 n.o,I0 n.n,N0]) (by simp[results,results35,go_sem,b0]) rfl (by rw[G9 HF];exact G9 X1)
