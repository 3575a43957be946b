/-
  Part.
-/
import Derived.Test.YthcncjimjclfpaaGreatDoorLSAD
import Derived.Test.YthcncjimjclfpaaGreatDoorLSAB
set_option maxRecDepth 20000
set_option maxHeartbeats 8000000
namespace Go.Proofs.YthcncjimjclfpaaGreatDoor
open Go.RowKit Go.Proofs.Tryz
open _root_.Nat renaming le_refl->A8,mul_comm->DC
open Go.RowKit.Below renaming refl->AA
open _root_.And renaming intro->C9
open Go.Value renaming ownBlock->D8,slice->FQ
open _root_.Int renaming toNat_natCast->FC
open _root_.Option renaming none->FX,some->FZ
variable{W V:World}{k q:Nat}{p:Pw}{v:Value}
theorem WX.offq(h:WX W k p)(hq:W.heap.size<=q):WXO W k p (FQ (FZ ⟨q,0,FX⟩) 1 1):=by
 obtain⟨f,hb,hr⟩:=h;refine⟨f,hb,hr,fun g hg=>?_⟩;simp only[D8,Option.some.injEq]at hg;subst hg;exact A70 hr hq
theorem WXO.BZ4(h:WXO W k p v){i:Nat}(hi:i<3)(hu:(p.s i).up=true){x:Ps}{y:Value}(hx:x=⟨(p.s i).up,(p.s i).e,(p.s i).m,(p.s i).a,(p.s i).q,(p.s i).dn,x.ws⟩)(hv:IU W y x.ws)(ha:∀g,v.ownBlock=FZ g->UJ y g):WXO (W.setCell ⟨k,1+10*i+9,FX⟩ y) k ⟨p.n,LU p.s i x,p.r,p.c,p.D,p.H,p.h⟩ v:=by
 obtain⟨f,hb,hr,ho⟩:=h;have e1:svP i x=⟨(svP i (p.s i)).up,(svP i (p.s i)).fs,(svP i (p.s i)).id,(svP i (p.s i)).ep,(svP i (p.s i)).ts,(svP i (p.s i)).dn,(svP i (p.s i)).tr,x.ws⟩:=by
  rw[J5 hu,J5 (by rw[hx];exact hu),hx]
 refine⟨_,hb.set (j:=1+10*i+9) (by omega) _,WdR.touch (W:=W) ?_ (JJ _ _ _ _),fun g e=>?_⟩
 .refine⟨by rw[GH _ _ (by omega)];exact hr.n,fun j hj=>?_,fun j hj=>by rw[GH _ _ (by omega)];exact hr.r j hj,fun j hj=>(hr.c j hj).congr fun q hq=>by rw[GH _ _ (by omega)],by rw[GH _ _ (by omega)];exact hr.d,fun j hj h0=>by
   rw[GH _ _ (by omega)];refine hr.h j hj ?_;by_cases e:j=i
   .subst e;simp only[IG]at h0;rw[J5 (by rw[hx];exact hu)]at h0;rw[J5 hu];rw[hx]at h0;exact h0
   .simp only[GH _ _ e]at h0;exact h0,hr.hk⟩
  by_cases e:j=i
  .subst e;simp only[IG];have hs:=hr.s j hj;rw[e1];have g:∀q,q<9->LU f (1+10*j+9) y (1+10*j+q)=f (1+10*j+q):=fun q hq=>GH _ _ (by omega);exact⟨by rw[g 0 (by omega)];exact hs.up,by rw[g 1 (by omega)];exact hs.d,by rw[g 2 (by omega)];exact hs.id,by rw[g 3 (by omega)];exact hs.ep,by rw[g 4 (by omega)];exact hs.l,by rw[g 5 (by omega)];exact hs.dn,by rw[g 6 (by omega)];exact hs.z,by rw[g 7 (by omega)];exact hs.n,by rw[g 8 (by omega)];exact hs.i,by rw[IG];exact VQ hv (hr.gW hb)⟩
  .simp only[GH _ _ e];exact(hr.s j hj).congr fun q hq=>by rw[GH _ _ (by omega)]
 .have o:=ho g e;have es:∀j,j<3->(svP j (LU p.s i x j)).fs=(svP j (p.s j)).fs/\(svP j (LU p.s i x j)).ts=(svP j (p.s j)).ts/\(svP j (LU p.s i x j)).tr=(svP j (p.s j)).tr:=fun j hj=>by
   by_cases e:j=i
   .subst e;rw[IG,e1];exact⟨rfl,rfl,rfl⟩
   .rw[GH _ _ e];exact⟨rfl,rfl,rfl⟩
  refine⟨fun j hj h0=>by rw[GH _ _ (by omega)];exact o.d j hj (by rw[<-(es j hj).1];exact h0),fun j hj h0=>by rw[GH _ _ (by omega)];exact o.l j hj (by rw[<-(es j hj).2.1];exact h0),fun j hj h0=>by rw[GH _ _ (by omega)];exact o.n j hj (by rw[<-(es j hj).2.2];exact h0),fun j hj h0=>by rw[GH _ _ (by omega)];exact o.i j hj (by rw[<-(es j hj).2.2];exact h0),fun j hj h0=>?_,fun j hj h0=>by rw[GH _ _ (by omega)];exact o.c j hj h0,fun h0=>by rw[GH _ _ (by omega)];exact o.a h0⟩;by_cases e':j=i
  .subst e';rw[IG];exact ha g e
  .rw[GH _ _ (by omega)];simp only[GH _ _ e']at h0;exact o.w j hj h0
theorem WX.rowC{es:List En}(h:WX W k p)(hv:IU W v es):Row W k v es:=by
 obtain⟨f,hb,hr⟩:=h;exact cO hv (hr.gW hb)
theorem DT.other{w:World}{d:Dd}(h:DT k w W d)(hq:w.heap.size+1<q)(x0 x1 x2:Value):DT k w (((W.setCell ⟨q,0,FX⟩ x0).setCell ⟨q,1,FX⟩ x1).setCell ⟨q,2,FX⟩ x2) d:=
 ⟨((h.t.new (by omega) x0).new (by omega) x1).new (by omega) x2,h.r.touch ((TB W q 0 x0 x1 x2)) (by omega),((TB W q 0 x0 x1 x2).block _ h.d.ltz (by omega)).trans h.d⟩
theorem BU7(ws:List Wa)(x:Wa):bZ ws x≠16/\bZ ws x≠7:=by
 unfold bZ uK
 repeat' split
 all_goals decide
theorem BU8{E:Int}(h:E≠0)(h2:E≠16/\E≠7):U0 2 E=false:=by simp[U0,h,h2]
theorem JF.turn{α:Type}[Lay α]{g:Nat}{x:α}(h:JF W g x)(ht:Touch (· =k) W V)(hk:k≠g):JF V g x:=(ht.block g h.ltz (fun e=>hk e.symm)).trans h
theorem OC.turn{g:Nat}{s z:Int}(h:OC W g s z v)(ht:Touch (· =k) W V)(hk:k≠g):OC V g s z v:=(ht.block g h.lt (fun e=>hk e.symm)).trans h
theorem BU9{kd:Int}{x:Rp×Pw}{e:Ending}(h:Did W k kd x e V):Did W k kd x e V.drew:=by
 obtain⟨v,he,ho,ht,hx⟩:=h;exact⟨v,he,ho.next (AA _ _).drew,ht.drew,fun hl=>(hx hl).next (AA _ _).drew⟩
theorem CQ5{c:Nat}{d:Dd}{n:Nd}{es:List En}(hc:c<16)(hk0:k<W.heap.size)(hkq:k≠q)(X:WX V k p)(hv:IU V v es)(D:DT k W V d)(N:JF V q n)(s z:Int):
  WX (sJ V k (34+c*3) (I0 s) (I0 z) v).drew k ⟨p.n,p.s,p.r,LU p.c c ⟨s,z,es⟩,p.D,p.H,p.h⟩/\DT k W (sJ V k (34+c*3) (I0 s) (I0 z) v).drew d/\JF (sJ V k (34+c*3) (I0 s) (I0 z) v).drew q n:=by
 have hT:=TB V k (34+c*3) (I0 s) (I0 z) v;have hN:=N.turn hT hkq;refine⟨?_,(D.touch hk0 hT).next hk0 (AA _ _).drew,hN.Y0 (AA _ _).drew hN.ltz⟩;rw[DC c 3];exact(X.BQ6 hc (c:=⟨s,z,es⟩) hv).next (AA _ _).drew
theorem BB8(p:Pw)(d:Dd)(k:Nat)(W:World)(hx:WX W k p)(hs:0<=d.s/\d.s<3)(hu:(p.s d.s.toNat).up=false):Calls prog 48 #[wP k,ddV d] W (Did W k 2 (TQ 14,p)):=by
 have D0:=G6 (DB.start W d);have hk0:=hx.lt;obtain⟨i,hi3,hdi⟩:∃i:Nat,i<3/\d.s=i:=⟨d.s.toNat,by omega,by omega⟩;rw[hdi,FC]at hu;obtain⟨ad,nd,cd,al,cl,an,cn,ai,ci,aw,cw,SS,_,_⟩:=hx.srv hi3 rfl;have HS:=G6 (fun V (hV:B0 W V)=>(SS.next hk0 hV).c0);rw[VP hu,DC 10 i]at HS;obtain⟨dk,dc,ds,⟨o,s,pp,dd,v,f⟩,lo,sl,ke,wt⟩:=d;simp only at hdi;subst hdi;have hi4:(i:Int)<3:=by omega
 unfold wP ddV;clear SS hu hs hx;go_enter func48,ntmps48;go_upto_region 1 with fail;generalize ((W.alloc _).alloc _)=W0 at*;obtain⟨⟨_,_,e2,_,_,_,_⟩,_,_,_,_,_,_⟩:=(G5 D0).cells;simp only at e2
 go_quiet (fail)
 have D1:=G6 (((G5 D0).next (TD W0 nq)).dt k);have c0:=G5 HS _ ((G5 D0).next (TD W0 nq)).b;generalize W0.drewN nq=W1 at*;clear e2 D0 HS;simp only at c0;have CR:=G6 (fun V=>KP (14) V);unfold UQ at CR;go_wp2_with fail;refine(G5 CR _).mono ?_;rintro e wr1 ⟨rfl,hbr⟩;have DR:=(G5 D1).next hk0 hbr;have b0:=DR.r.cells;have g0:=DR.r.GN;have X1:Hid (Did W k 2 (TQ (14),p) (.returned (UQ (14))) (gY wr1 (W.heap.size+1) (I0 (14)) (I0 0) (.string ⟨#[]⟩) (.string ⟨#[]⟩) (I0 0) (I0 0) (I0 0) (I0 0) (I0 0) (I0 0) (I0 0) (N0))):=G6 (VT rfl (JZ DR.t (by omega) _ _ _ _ _ _ _ _ _ _ _ _) (by decide));clear hbr DR D1 CR;unfold UQ at X1;go_wp2_with fail;exact bodyPost_ret (v:=.agg #[I0 (14),I0 0,.string ⟨#[]⟩,.string ⟨#[]⟩,I0 0,I0 0,I0 0,I0 0,I0 0,I0 0,I0 0,N0]) (by simp[results,results48,go_sem,b0]) rfl (G5 X1)
theorem CE0(p:Pw)(d:Dd)(k:Nat)(W:World)(hx:WX W k p)(hc:0<=d.c/\d.c<16)(hs:0<=d.s/\d.s<3)(hok:∀j,j<3->ML 299 (p.s j))(hcl:uM 299 p.H d.c.toNat (p.c d.c.toNat))(hp:d.q.p.length<=140737488355328)(hu:(p.s d.s.toNat).up=true):Calls prog 48 #[wP k,ddV d] W (Did W k 2 (lN p d)):=by
 have D0:=G6 (DB.start W d);have hk0:=hx.lt;obtain⟨i,hi3,hdi⟩:∃i:Nat,i<3/\d.s=i:=⟨d.s.toNat,by omega,by omega⟩;obtain⟨c,hc16,hdc⟩:∃c:Nat,c<16/\d.c=c:=⟨d.c.toNat,by omega,by omega⟩;rw[hdi,FC]at hu;rw[hdc,FC]at hcl;obtain⟨ad,nd,cd,al,cl,an,cn,ai,ci,aw,cw,SS,hsv,_⟩:=hx.srv hi3 rfl;obtain⟨ca,cc,k0,k1,k2,hcv⟩:=hx.cl hc16;have hup:=J5 (i:=i) hu;have ok:=hok i hi3;have hgt:QA (svP i (p.s i)).tr:=by rw[hup];exact ok.play.good ok.dn
 have ht:(svP i (p.s i)).tr=OE (p.s i).m (p.s i).dn:=by rw[hup]
 have hw:(svP i (p.s i)).ws=(p.s i).ws:=by rw[hup]
 have hv0:(svP i (p.s i)).up=true:=by rw[hup]
 have HS:=fun V (hV:B0 W V)=>SS.next hk0 hV;simp only[DC 10 i,hv0,hw]at HS;replace HS:=G6 HS;have HK:Hid (∀V,B0 W V->V.cell? ⟨k,34+c*3,FX⟩=FZ (I0 (p.c c).s)/\V.cell? ⟨k,34+c*3+1,FX⟩=FZ (I0 (p.c c).z)/\V.cell? ⟨k,34+c*3+2,FX⟩=FZ (FQ ca (p.c c).es.length cc)):=G6 fun V hV=>by
  have e:∀j,V.cell? ⟨k,j,FX⟩=W.cell? ⟨k,j,FX⟩:=fun j=>by rw[World.cell?,World.cell?,hV.block k hk0]
  rw[e,e,e,DC c 3];exact⟨k0,k1,k2⟩
 have hsc:yD (p.c c).es:=fun y hy=>by have:=hcl.sh y hy;omega
 have CG0:=G6 (fun V (hV:B0 W V)=>iV (svP i (p.s i)).tr (FQ an (svP i (p.s i)).tr.ns.length cn) (FQ ai (svP i (p.s i)).tr.ss.length ci) d.q.p V hgt (by
  obtain⟨_,_,_,_,_,e,_,_,r3,_,_⟩:=hsv.next hV;simp only[Value.agg.injEq,Array.mk.injEq,List.cons.injEq,true_and,and_true]at e;rw[<-e.2.2.1]at r3;exact r3))
 have HWV:=G6 (fun V (hV:B0 W V)=>(show IU V (FQ aw (p.s i).ws.length cw) (p.s i).ws from by
  obtain⟨_,_,_,_,_,e,_,_,_,_,r5⟩:=hsv.next hV;simp only[Value.agg.injEq,Array.mk.injEq,List.cons.injEq,true_and,and_true]at e;rw[<-e.2.2.2.2,hw]at r5;exact r5))
 have hdat:(qB (svP i (p.s i)).tr d.q.p).d.length<=256:=by
  unfold qB
  cases hr:KJ (svP i (p.s i)).tr.ns d.q.p with
  |none=>simp[WI]
  |some m=>simpa using (hgt.nod.ok m (SC hr).1).data
 have HEE:Hid (lN p d=if(svP i (p.s i)).tr.z<(p.c c).z then(TQ 15,p)else if d.wt=false then(⟨AH1 (svP i (p.s i)).tr d.q.p,(svP i (p.s i)).tr.z,(qB (svP i (p.s i)).tr d.q.p).p,(qB (svP i (p.s i)).tr d.q.p).d,qB (svP i (p.s i)).tr d.q.p,[]⟩,⟨p.n,p.s,p.r,LU p.c c ⟨(p.c c).s,(svP i (p.s i)).tr.z,(p.c c).es⟩,p.D,p.H,p.h⟩)
   else if bZ (p.s i).ws ⟨(p.c c).s,1,d.q.p⟩≠0 then(TQ (bZ (p.s i).ws ⟨(p.c c).s,1,d.q.p⟩),p)
   else(⟨AH1 (svP i (p.s i)).tr d.q.p,(svP i (p.s i)).tr.z,(qB (svP i (p.s i)).tr d.q.p).p,(qB (svP i (p.s i)).tr d.q.p).d,qB (svP i (p.s i)).tr d.q.p,[]⟩,⟨p.n,LU p.s i (zM (p.s i) ⟨(p.c c).s,1,d.q.p⟩),p.r,LU p.c c ⟨(p.c c).s,(svP i (p.s i)).tr.z,WJ (p.c c).es ⟨d.q.p,(qB (svP i (p.s i)).tr d.q.p).d,AH1 (svP i (p.s i)).tr d.q.p==0⟩⟩,p.D,p.H,p.h⟩)):=G6 (by
  have hso:(AH1 (svP i (p.s i)).tr d.q.p==0)=(KJ (svP i (p.s i)).tr.ns d.q.p).isSome:=by
   unfold AH1
   cases KJ (svP i (p.s i)).tr.ns d.q.p<;>rfl
  rw[hso];unfold lN BQ4 rN rTr rWa nM qB AH1;rw[hdi,hdc,FC,FC,ht,if_neg (by rw[hu];decide)];rfl)
 have HX:=G6 hx;have HCv:=G6 hcv;have HOK:=G6 hok;have HCL:=G6 hcl;have HSC:=G6 hsc;have hPl:=hp;obtain⟨dk,dc,ds,⟨o,s,pp,dd,v,f⟩,lo,sl,ke,wt⟩:=d;simp only at hdi hdc;subst hdi hdc;simp only at CG0 HEE hPl hdat;have hi4:(i:Int)<3:=by omega
 have hc4:(c:Int)<16:=by omega
 unfold wP ddV;unfold TY at CG0;clear SS hs hx hsv hup hgt ht hw hv0 hok ok hcl hcv hsc hp k0 k1 k2 hc;generalize hts:(svP i (p.s i)).tr=t at*;have HTS:=G6 hts;clear hts;generalize hcs:(p.c c).s=cs at*;generalize hcz:(p.c c).z=cz at*;generalize hes:(p.c c).es=es at*;generalize qB t pp=n at*;generalize AH1 t pp=E at*;have HCE:=G6 (C9 hcs hes);clear hcs hcz hes;rw[G5 HEE];clear HEE;generalize hR:(if t.z<cz then(TQ 15,p)else _)=R;have HR:=G6 hR;clear hR;go_enter func48,ntmps48;go_upto_region 1 with fail;generalize ((W.alloc _).alloc _)=W0 at*;obtain⟨⟨_,_,e2,_,_,_,_⟩,_,_,_,_,_,_⟩:=(G5 D0).cells;simp only at e2
 go_quiet (fail)
 have D1:=G6 ((G5 D0).next (TD W0 nq));have c0:=(G5 HS _ (G5 D1).b).c0;generalize W0.drewN nq=W1 at*;clear e2 D0;have hkW:k<W1.heap.size:=Nat.lt_of_lt_of_le hk0 (G5 D1).b.size;have HKS:Hid (∀V,B0 W1 V->V.cell? ⟨W.heap.size,1,FX⟩=FZ (I0 c)/\V.cell? ⟨k,34+c*3,FX⟩=FZ (I0 cs)/\V.cell? ⟨k,34+c*3+1,FX⟩=FZ (I0 cz)/\V.cell? ⟨k,34+c*3+2,FX⟩=FZ (FQ ca es.length cc)/\V.cell? ⟨k,1+i*10+6,FX⟩=FZ (I0 t.z)):=G6 fun V hV=>by
  have hb:=G8 (G5 D1).b hV;obtain⟨⟨_,e1,_,_,_,_,_⟩,_,_,_,_,_,_⟩:=((G5 D1).next hV).cells;obtain⟨h0,h1,h2⟩:=G5 HK V hb;exact⟨e1,h0,h1,h2,(G5 HS V hb).c6⟩
 go_upto_region 4 with fail;clear c0;by_cases hst:t.z<cz
 .have C1:=G6 (fun V (_:B0 W1 V)=>C91 cs cz t.z ca es.length cc V hst);unfold clV at C1
  go_cut [6,7]from 22 (fun t6 t7 wx=>∃q,t6=P0 q/\t7=I0 15/\Hid (B0 W1 wx))
  case first=>
   have hS0:=G5 HKS _ (AA W1.heap.size W1).drew;refine wp_region_held (S:=fun V:World=>V.cell? ⟨W.heap.size,1,FX⟩=FZ (I0 c)/\V.cell? ⟨k,34+c*3,FX⟩=FZ (I0 cs)/\V.cell? ⟨k,34+c*3+1,FX⟩=FZ (I0 cz)/\V.cell? ⟨k,34+c*3+2,FX⟩=FZ (FQ ca es.length cc)/\V.cell? ⟨k,1+i*10+6,FX⟩=FZ (I0 t.z)) (by kernel_rfl) ?_;change wpAnyH _ _ _ _ _ _ _ _ W1.drew;refine tkH 0 hS0 ?_;refine tkH 1 hS0 ?_;refine tkH 2 hS0 ?_;refine tkH 3 hS0 ?_;refine tkH 4 hS0 ?_;refine tkH 5 hS0 ?_;refine tkH 6 hS0 ?_;refine tkH 7 hS0 ?_;refine tkH 8 hS0 ?_;refine tkH 9 hS0 ?_;refine tkH 10 hS0 ?_;refine tkH 11 hS0 ?_;refine rd2 12 16 (fun K hK=>?_) (fun K hK=>?_)
   .go_simp;refine(G5 C1 _ (AA _ _).drew).mono ?_;rintro e w1 ⟨rfl,hb1⟩;have aB1:Hid (B0 W1 w1):=G6 (G8 (AA _ _).drew hb1);clear hb1;have hS1:=G5 HKS _ (G5 aB1);refine nxH hK hS1 ?_;clear hK K;refine tkH 13 hS1 ?_;refine tkH 14 hS1 ?_;refine tkH 15 hS1 ?_;refine rd1 16 (fun K hK=>?_);go_simp;have hS2:=G5 HKS _ (G8 (G5 aB1) (G7 w1 (.cells #[I0 0,I0 0,N0] 46)));refine nxH hK hS2 ?_;clear hK K;refine rd1 17 (fun K hK=>?_);go_simp;have hX2:Hid (B0 W1 _):=G6 (G8 (G5 aB1) (G7 w1 (.cells #[I0 0,I0 0,N0] 46)));have hS3:=G5 HKS _ (G5 hX2);refine nxH hK hS3 ?_;clear hK K;refine tkH 18 hS3 ?_;refine wpAnyH_done (by kernel_rfl) ?_ _;go_wp2_with fail
    go_meet
    exact⟨_,rfl,rfl,hX2⟩
   .go_simp;have hS2:=G5 HKS _ (G8 (AA W1.heap.size W1).drew (G7 W1.drew (.cells #[I0 0,I0 0,N0] 46)));refine nxH hK hS2 ?_;clear hK K;refine rd1 12 (fun K hK=>?_);go_simp;refine(G5 C1 _ (G8 (AA _ _).drew (G7 _ _))).mono ?_;rintro e w1 ⟨rfl,hb1⟩;have aB1:Hid (B0 W1 w1):=G6 (G8 (G8 (AA _ _).drew (G7 _ _)) hb1);have aZ1:Hid (OC w1 W1.heap.size 0 0 (N0)):=G6 ((hb1.block _ (by simp)).trans (heap_alloc_new W1.drew _));clear hb1;have hS1:=G5 HKS _ (G5 aB1);refine nxH hK hS1 ?_;clear hK K;refine tkH 13 hS1 ?_;refine tkH 14 hS1 ?_;refine tkH 15 hS1 ?_;refine rd1 17 (fun K hK=>?_);have z0:=(G5 aZ1).fr 0;have z1:=(G5 aZ1).fr 1;have z2:=(G5 aZ1).fr 2;have x0:=(G5 aZ1).c0;have x1:=(G5 aZ1).c1;have x2:=(G5 aZ1).c2;go_simp;have hX2:Hid (B0 W1 _):=G6 ((((G5 aB1).setCell (p:=⟨W1.heap.size,0,FX⟩) (A8 _) (I0 0)).setCell (p:=⟨W1.heap.size,1,FX⟩) (A8 _) (I0 0)).setCell (p:=⟨W1.heap.size,2,FX⟩) (A8 _) (N0));have hS3:=G5 HKS _ (G5 hX2);refine nxH hK hS3 ?_;clear hK K;refine tkH 18 hS3 ?_;refine wpAnyH_done (by kernel_rfl) ?_ _;go_wp2_with fail
    go_meet
    exact⟨_,rfl,rfl,hX2⟩
  case rest=>
   obtain⟨q,rfl,rfl,HQ⟩:=hcut;have D2:=G6 (((G5 D1).next (G5 HQ)).dt k);clear HKS C1 D1 HQ;have CR:=G6 (fun V=>KP (15) V);unfold UQ at CR;go_wp2_with fail;refine(G5 CR _).mono ?_;rintro e wr1 ⟨rfl,hbr⟩;have DR:=(G5 D2).next hk0 hbr;have b0:=DR.r.cells;have g0:=DR.r.GN;have X1:Hid (Did W k 2 (TQ (15),p) (.returned (UQ (15))) (gY wr1 (W.heap.size+1) (I0 (15)) (I0 0) (.string ⟨#[]⟩) (.string ⟨#[]⟩) (I0 0) (I0 0) (I0 0) (I0 0) (I0 0) (I0 0) (I0 0) (N0))):=G6 (VT rfl (JZ DR.t (by omega) _ _ _ _ _ _ _ _ _ _ _ _) (by decide));clear hbr DR D2 CR;unfold UQ at X1;go_wp2_with fail;exact bodyPost_ret (v:=.agg #[I0 (15),I0 0,.string ⟨#[]⟩,.string ⟨#[]⟩,I0 0,I0 0,I0 0,I0 0,I0 0,I0 0,I0 0,N0]) (by simp[results,results48,go_sem,b0]) rfl (by rw[<-G5 HR,if_pos hst];exact G5 X1)
 .have hle:cz<=t.z:=by omega
  have C1:=G6 (fun V (hV:B0 W1 V)=>(AF9 cs cz t.z (FQ ca es.length cc) es V ((G5 HCv).next (G8 (G5 D1).b hV)) (G5 HSC) (by have:=(G5 HCL).len;rw[(G5 HCE).2]at this;omega) hle).mono fun e w' h=>(show ∃a1 c1,e=.returned (.tuple #[.agg #[I0 cs,I0 t.z,FQ a1 es.length c1],I0 0])/\Hid (GZ w' V.heap.size (FQ a1 es.length c1) es)/\B0 V w' from by
   obtain⟨v',he,ho,hb⟩:=h;obtain⟨a1,c1,rfl⟩:=IY ho;exact⟨a1,c1,he,G6 ho,hb⟩))
  go_cut [6,7]from 22 (fun t6 t7 wx=>∃q a1 c1,t6=P0 q/\t7=I0 0/\Hid (C02 W1 wx q cs t.z (FQ a1 es.length c1) es))
  case first=>
   have hS0:=G5 HKS _ (AA W1.heap.size W1).drew;refine wp_region_held (S:=fun V:World=>V.cell? ⟨W.heap.size,1,FX⟩=FZ (I0 c)/\V.cell? ⟨k,34+c*3,FX⟩=FZ (I0 cs)/\V.cell? ⟨k,34+c*3+1,FX⟩=FZ (I0 cz)/\V.cell? ⟨k,34+c*3+2,FX⟩=FZ (FQ ca es.length cc)/\V.cell? ⟨k,1+i*10+6,FX⟩=FZ (I0 t.z)) (by kernel_rfl) ?_;change wpAnyH _ _ _ _ _ _ _ _ W1.drew;refine tkH 0 hS0 ?_;refine tkH 1 hS0 ?_;refine tkH 2 hS0 ?_;refine tkH 3 hS0 ?_;refine tkH 4 hS0 ?_;refine tkH 5 hS0 ?_;refine tkH 6 hS0 ?_;refine tkH 7 hS0 ?_;refine tkH 8 hS0 ?_;refine tkH 9 hS0 ?_;refine tkH 10 hS0 ?_;refine tkH 11 hS0 ?_;refine rd2 12 16 (fun K hK=>?_) (fun K hK=>?_)
   .go_simp;refine(G5 C1 _ (AA _ _).drew).mono ?_;rintro e w1 ⟨a1,c1,rfl,H1,hb1⟩;have aB1:Hid (B0 W1 w1):=G6 (G8 (AA _ _).drew hb1);clear hb1;have hS1:=G5 HKS _ (G5 aB1);refine nxH hK hS1 ?_;clear hK K;refine tkH 13 hS1 ?_;refine tkH 14 hS1 ?_;refine tkH 15 hS1 ?_;refine rd1 16 (fun K hK=>?_);go_simp;have hS2:=G5 HKS _ (G8 (G5 aB1) (G7 w1 (.cells #[I0 0,I0 0,N0] 46)));refine nxH hK hS2 ?_;clear hK K;refine rd1 17 (fun K hK=>?_);go_simp;have hX2:Hid (C02 W1 _ _ cs t.z (FQ a1 es.length c1) es):=G6 (AH6 (G5 aB1) (G5 H1));have hS3:=G5 HKS _ (G5 hX2).b;refine nxH hK hS3 ?_;clear hK K;refine tkH 18 hS3 ?_;refine wpAnyH_done (by kernel_rfl) ?_ _;go_wp2_with fail
    go_meet
    exact⟨_,a1,c1,rfl,rfl,hX2⟩
   .go_simp;have hS2:=G5 HKS _ (G8 (AA W1.heap.size W1).drew (G7 W1.drew (.cells #[I0 0,I0 0,N0] 46)));refine nxH hK hS2 ?_;clear hK K;refine rd1 12 (fun K hK=>?_);go_simp;refine(G5 C1 _ (G8 (AA _ _).drew (G7 _ _))).mono ?_;rintro e w1 ⟨a1,c1,rfl,H1,hb1⟩;have aB1:Hid (B0 W1 w1):=G6 (G8 (G8 (AA _ _).drew (G7 _ _)) hb1);have aZ1:Hid (OC w1 W1.heap.size 0 0 (N0)):=G6 ((hb1.block _ (by simp)).trans (heap_alloc_new W1.drew _));clear hb1;have hS1:=G5 HKS _ (G5 aB1);refine nxH hK hS1 ?_;clear hK K;refine tkH 13 hS1 ?_;refine tkH 14 hS1 ?_;refine tkH 15 hS1 ?_;refine rd1 17 (fun K hK=>?_);have z0:=(G5 aZ1).fr 0;have z1:=(G5 aZ1).fr 1;have z2:=(G5 aZ1).fr 2;have x0:=(G5 aZ1).c0;have x1:=(G5 aZ1).c1;have x2:=(G5 aZ1).c2;go_simp;have hX2:Hid (C02 W1 _ _ cs t.z (FQ a1 es.length c1) es):=G6 (AH7 (G5 aB1) (A8 _) (G5 aZ1) (G5 H1) (by simp));have hS3:=G5 HKS _ (G5 hX2).b;refine nxH hK hS3 ?_;clear hK K;refine tkH 18 hS3 ?_;refine wpAnyH_done (by kernel_rfl) ?_ _;go_wp2_with fail
    go_meet
    exact⟨_,a1,c1,rfl,rfl,hX2⟩
  case rest=>
   obtain⟨q,a1,c1,rfl,rfl,HQ⟩:=hcut;generalize wc=W7 at*;have D7:=G6 ((G5 D1).next (G5 HQ).b);have X7:=G6 (((G5 HX).next (G5 D1).b).offq (G5 HQ).le|>.next (G5 HQ).b);have hkq:k≠q:=by have:=(G5 HQ).le;omega
   have hWq:W.heap.size+1<q:=by have:=(G5 HQ).le;have:=(G5 D1).r.lt;omega
   have Q7:=G6 (C9 (G5 HQ).box (G5 HQ).v);have hk7:=(G5 X7).x.lt;clear HKS C1 D1 HQ hle hkW;have HKS:Hid (∀V,B0 W7 V->V.cell? ⟨k,1+i*10+6,FX⟩=FZ (I0 t.z)/\V.cell? ⟨k,1+i*10+7,FX⟩=FZ (FQ an t.ns.length cn)/\V.cell? ⟨k,1+i*10+8,FX⟩=FZ (FQ ai t.ss.length ci)/\V.cell? ⟨W.heap.size,5,FX⟩=FZ (S0 pp)):=G6 fun V hV=>by
    have hb:=G8 (G5 D7).b hV;obtain⟨⟨_,_,_,_,_,e5,_⟩,_,_,_,_,_,_⟩:=((G5 D7).next hV).cells;have h:=G5 HS V hb;exact⟨h.c6,h.c7,h.c8,e5⟩
   have CG:=G6 (fun V (hV:B0 W7 V)=>G5 CG0 V (G8 (G5 D7).b hV));go_upto_region 7 with fail
   go_cut [8,9]from 42 (fun t8 t9 wx=>∃q7,t8=P0 q7/\t9=I0 E/\Hid (BT3 W7 wx q7 n))
   case first=>
    have hS0:=G5 HKS _ (AA W7.heap.size W7).drew;refine wp_region_held (S:=fun V:World=>V.cell? ⟨k,1+i*10+6,FX⟩=FZ (I0 t.z)/\V.cell? ⟨k,1+i*10+7,FX⟩=FZ (FQ an t.ns.length cn)/\V.cell? ⟨k,1+i*10+8,FX⟩=FZ (FQ ai t.ss.length ci)/\V.cell? ⟨W.heap.size,5,FX⟩=FZ (S0 pp)) (by kernel_rfl) ?_;change wpAnyH _ _ _ _ _ _ _ _ W7.drew;refine tkH 0 hS0 ?_;refine tkH 1 hS0 ?_;refine tkH 2 hS0 ?_;refine tkH 3 hS0 ?_;refine tkH 4 hS0 ?_;refine tkH 5 hS0 ?_;refine tkH 6 hS0 ?_;refine rd2 7 11 (fun K hK=>?_) (fun K hK=>?_)
    .go_simp;refine(G5 CG _ (AA _ _).drew).mono ?_;rintro e w2 ⟨rfl,hb2⟩;have aB2:Hid (B0 W7 w2):=G6 (G8 (AA _ _).drew hb2);clear hb2;have hS2:=G5 HKS _ (G5 aB2);refine nxH hK hS2 ?_;clear hK K;refine tkH 8 hS2 ?_;refine tkH 9 hS2 ?_;refine tkH 10 hS2 ?_;refine rd1 11 (fun K hK=>?_);go_simp;have hS3:=G5 HKS _ (G8 (G5 aB2) (G7 w2 (.cells #[.string ⟨#[]⟩,.string ⟨#[]⟩,I0 0,I0 0,I0 0,I0 0,I0 0,I0 0,I0 0] 49)));refine nxH hK hS3 ?_;clear hK K;refine rd1 12 (fun K hK=>?_);go_simp;have hX2:Hid (BT3 W7 _ _ n):=G6 (AH5 n.p n.d n.c n.m n.q n.v n.k n.o n.n (G5 aB2));have hS4:=G5 HKS _ (G5 hX2).b;refine nxH hK hS4 ?_;clear hK K;refine tkH 13 hS4 ?_;refine wpAnyH_done (by kernel_rfl) ?_ _;go_wp2_with fail
     go_meet
     exact⟨_,rfl,rfl,hX2⟩
    .go_simp;have hS3:=G5 HKS _ (G8 (AA W7.heap.size W7).drew (G7 W7.drew (.cells #[.string ⟨#[]⟩,.string ⟨#[]⟩,I0 0,I0 0,I0 0,I0 0,I0 0,I0 0,I0 0] 49)));refine nxH hK hS3 ?_;clear hK K;refine rd1 7 (fun K hK=>?_);go_simp;refine(G5 CG _ (G8 (AA _ _).drew (G7 _ _))).mono ?_;rintro e w2 ⟨rfl,hb2⟩;have aB2:Hid (B0 W7 w2):=G6 (G8 (G8 (AA _ _).drew (G7 _ _)) hb2);have aZ2:Hid (JF w2 W7.heap.size WI):=G6 ((hb2.block _ (by simp)).trans (heap_alloc_new W7.drew _));clear hb2;have hS2:=G5 HKS _ (G5 aB2);refine nxH hK hS2 ?_;clear hK K;refine tkH 8 hS2 ?_;refine tkH 9 hS2 ?_;refine tkH 10 hS2 ?_;refine rd1 12 (fun K hK=>?_);obtain⟨⟨x0,x1,x2,x3,x4,x5,x6,x7,x8⟩,y0,y1,y2,y3,y4,y5,y6,y7,y8⟩:=tK (G5 aZ2);go_simp;have hX2:Hid (BT3 W7 _ _ n):=G6 (tJ n.p n.d n.c n.m n.q n.v n.k n.o n.n (G5 aB2) (A8 _) (G5 aZ2));have hS4:=G5 HKS _ (G5 hX2).b;refine nxH hK hS4 ?_;clear hK K;refine tkH 13 hS4 ?_;refine wpAnyH_done (by kernel_rfl) ?_ _;go_wp2_with fail
     go_meet
     exact⟨_,rfl,rfl,hX2⟩
   case rest=>
    obtain⟨q7,rfl,rfl,HN⟩:=hcut;generalize wc=W9 at*;have D9:=G6 ((G5 D7).next (G5 HN).b);have X9:=G6 ((G5 X7).next (G5 HN).b);have Q9:=G6 (C9 ((G5 Q7).1.next (G5 HN).b) ((G5 Q7).2.next (G5 HN).b));have N9:=G6 (G5 HN).one;have hk9:=(G5 X9).x.lt;have hkn:k≠q7:=by have:=(G5 HN).le;omega
    have hqn:q≠q7:=by have:=(G5 HN).le;have:=(G5 Q7).1.lt;omega
    have hWn:W.heap.size+1<q7:=by have:=(G5 HN).le;have:=(G5 Q7).1.lt;omega
    obtain⟨⟨_,_,_,_,_,_,_⟩,_,_,_,_,_,e12⟩:=(G5 D9).cells;simp only at e12;clear HKS CG CG0 D7 X7 Q7 HN;refine Or.elim (show wt=false\/wt=true by cases wt<;>simp) ?a0 ?a1
    case' a1=>
     intro hwt;subst hwt;have K9:Hid (∀V,B0 W9 V->V.cell? ⟨k,1+i*10+9,FX⟩=FZ (FQ aw (p.s i).ws.length cw)):=G6 fun V hV=>(G5 HS V (G8 (G5 D9).b hV)).c9;have F9:Hid (∀V,B0 W9 V->V.frozen? ⟨k,1+i*10+9,FX⟩=false):=G6 fun V hV=>((G5 X9).x.next hV).GN _;have CA:=G6 (fun V (hV:B0 W9 V)=>(CD9 (FQ aw (p.s i).ws.length cw) (p.s i).ws ⟨cs,1,pp⟩ V (G5 HWV V (G8 (G5 D9).b hV)) (fun y hy=>by have:=MP ((G5 HOK i hi3).wk y hy).2.2.2;omega) hPl (by have:=(G5 HOK i hi3).wl;omega)).mono fun e w' h=>(show ∃a3 c3,e=.returned (.tuple #[FQ a3 (pK (p.s i).ws ⟨cs,1,pp⟩).length c3,I0 (bZ (p.s i).ws ⟨cs,1,pp⟩)])/\Hid (GZ w' V.heap.size (FQ a3 (pK (p.s i).ws ⟨cs,1,pp⟩).length c3) (pK (p.s i).ws ⟨cs,1,pp⟩))/\B0 V w' from by
      obtain⟨v',he,ho,hb⟩:=h;obtain⟨a3,c3,rfl⟩:=IY ho;exact⟨a3,c3,he,G6 ho,hb⟩))
     unfold waV at CA;simp only at CA;have HAE:=G6 (BU7 (p.s i).ws ⟨cs,1,pp⟩);generalize hws:pK (p.s i).ws ⟨cs,1,pp⟩=ws' at*;generalize hae:bZ (p.s i).ws ⟨cs,1,pp⟩=AE at*;have HWS:=G6 (C9 hws hae);clear hws hae;have HKS:Hid (∀V,B0 W9 V->V.cell? ⟨q,0,FX⟩=FZ (I0 cs)/\V.cell? ⟨W.heap.size,5,FX⟩=FZ (S0 pp)):=G6 fun V hV=>by
      obtain⟨⟨_,_,_,_,_,e5,_⟩,_,_,_,_,_,_⟩:=((G5 D9).next hV).cells;exact⟨((G5 Q9).1.next hV).c0,e5⟩
     have HKX:Hid (∀w5,B0 W9 w5->∀y,(fun V:World=>V.cell? ⟨q,0,FX⟩=FZ (I0 cs)/\V.cell? ⟨W.heap.size,5,FX⟩=FZ (S0 pp)) (w5.setCell ⟨k,1+i*10+9,FX⟩ y)):=G6 fun w5 h5 y=>by
      have t5:=JJ w5 k (1+i*10+9) y;have b5:=((G5 Q9).1.next h5).turn t5 hkq;obtain⟨⟨_,_,_,_,_,e5,_⟩,_,_,_,_,_,_⟩:=((((G5 D9).next h5).dt k).touch hk0 t5).cells;exact⟨b5.c0,e5⟩
     go_upto_region 9 with fail
     go_cut [7]from 55 (fun t7 wx=>t7=I0 AE/\∃w9 a3 c3,wx=w9.setCell ⟨k,1+i*10+9,FX⟩ (FQ a3 ws'.length c3)/\Hid (B0 W9 w9/\GZ w9 W9.heap.size (FQ a3 ws'.length c3) ws'))
     case first=>
      have hS0:=G5 HKS _ (AA W9.heap.size W9).drew;refine wp_region_held (S:=fun V:World=>V.cell? ⟨q,0,FX⟩=FZ (I0 cs)/\V.cell? ⟨W.heap.size,5,FX⟩=FZ (S0 pp)) (by kernel_rfl) ?_;change wpAnyH _ _ _ _ _ _ _ _ W9.drew;refine tkH 0 hS0 ?_;refine tkH 1 hS0 ?_;refine tkH 2 hS0 ?_;refine tkH 3 hS0 ?_;refine tkH 5 hS0 ?_;refine tkH 6 hS0 ?_;refine tkH 7 hS0 ?_;refine tkH 8 hS0 ?_;refine tkH 9 hS0 ?_;refine tkH 10 hS0 ?_;refine rd1 4 (fun K hK=>?_);have d8:=G5 K9 _ (AA W9.heap.size W9).drew;have d9:=G5 K9 W9 (AA _ _);go_simp;clear d8 d9;refine nxH hK hS0 ?_;clear hK K;refine rd1 11 (fun K hK=>?_);go_simp;refine(G5 CA _ (AA _ _).drew).mono ?_;rintro e w1 ⟨a3,c3,rfl,H1,hb1⟩;have aB1:Hid (B0 W9 w1):=G6 (G8 (AA _ _).drew hb1);clear hb1;have hS1:=G5 HKS _ (G5 aB1);refine nxH hK hS1 ?_;clear hK K;refine tkH 12 hS1 ?_;refine tkH 13 hS1 ?_;refine tkH 14 hS1 ?_;refine tkH 15 hS1 ?_;refine tkH 16 hS1 ?_;refine rd1 17 (fun K hK=>?_);have d8:=G5 K9 _ (G5 aB1);have f8:=G5 F9 _ (G5 aB1);go_simp;have hS6:=G5 HKX w1 (G5 aB1) (FQ a3 ws'.length c3);refine nxH hK hS6 ?_;clear hK K;refine tkH 18 hS6 ?_;refine wpAnyH_done (by kernel_rfl) ?_ _;go_wp2_with fail
      go_meet
      exact⟨rfl,w1,a3,c3,rfl,G6 ⟨G5 aB1,G5 H1⟩⟩
     obtain⟨rfl,w9,a3,c3,rfl,H9⟩:=hcut;have T10:=G6 ((Touch.of_below (F:=(· =k)) (G5 H9).1).trans (JJ w9 k (1+i*10+9) (FQ a3 ws'.length c3)));have D10:=G6 (((G5 D9).dt k).touch hk0 (G5 T10));have Q10:=G6 (C9 ((G5 Q9).1.turn (G5 T10) hkq) ((((G5 X9).x.rowC (G5 Q9).2).touch (G5 T10)).1));have N10:=G6 ((G5 N9).turn (G5 T10) hkn);have X10:=G6 (fun(hu:(p.s i).up=true)=>((G5 X9).next (G5 H9).1).BZ4 hi3 hu (x:=zM (p.s i) ⟨cs,1,pp⟩) (y:=FQ a3 ws'.length c3) rfl (by show IU w9 _ (pK (p.s i).ws ⟨cs,1,pp⟩);rw[(G5 HWS).1];exact(G5 H9).2.seq) (fun g e=>by
      simp only[D8,Option.some.injEq]at e;subst e;exact YS (G5 H9).2 (G5 Q9).1.lt))
     rw[DC 10 i]at X10;clear K9 F9 CA HKS HKX D9 X9 Q9 N9 H9 T10 e12 hk9;generalize w9.setCell _ _=W10 at*;by_cases hA:AE≠0
     .have hA2:(AE==0)=false:=beq_eq_false_iff_ne.2 hA;have CR:=G6 (fun V=>KP (AE) V);unfold UQ at CR;go_wp2_with fail;refine(G5 CR _).mono ?_;rintro e wr1 ⟨rfl,hbr⟩;have DR:=(G5 D10).next hk0 hbr;have b0:=DR.r.cells;have g0:=DR.r.GN;have X1:Hid (Did W k 2 (TQ (AE),p) (.returned (UQ (AE))) (gY wr1 (W.heap.size+1) (I0 (AE)) (I0 0) (.string ⟨#[]⟩) (.string ⟨#[]⟩) (I0 0) (I0 0) (I0 0) (I0 0) (I0 0) (I0 0) (I0 0) (N0))):=G6 (VT rfl (JZ DR.t (by omega) _ _ _ _ _ _ _ _ _ _ _ _) (BU8 hA (G5 HAE)));clear hbr DR D10 CR;unfold UQ at X1;go_wp2_with fail;exact bodyPost_ret (v:=.agg #[I0 (AE),I0 0,.string ⟨#[]⟩,.string ⟨#[]⟩,I0 0,I0 0,I0 0,I0 0,I0 0,I0 0,I0 0,N0]) (by simp[results,results48,go_sem,b0]) rfl (by rw[<-G5 HR,if_neg (show ¬t.z<cz by omega),if_neg (by simp),if_pos hA];exact G5 X1)
     obtain rfl:AE=0:=by omega
     have C12:=G6 (fun V (hV:B0 W10 V)=>(BB6 cs t.z (FQ a1 es.length c1) es ⟨pp,n.d,E==0⟩ V ((G5 Q10).2.next hV) (G5 HSC) (by have:=(G5 HCL).len;rw[(G5 HCE).2]at this;omega) (by have:=(G5 HCL).asc;rw[(G5 HCE).2]at this;exact this) ⟨hPl,by show n.d.length<=_;omega⟩).mono fun e w' h=>(show ∃a4 c4,e=.returned (.agg #[I0 cs,I0 t.z,FQ a4 (WJ es ⟨pp,n.d,E==0⟩).length c4])/\Hid (GZ w' V.heap.size (FQ a4 (WJ es ⟨pp,n.d,E==0⟩).length c4) (WJ es ⟨pp,n.d,E==0⟩))/\B0 V w' from by
      obtain⟨v',he,ho,hb⟩:=h;obtain⟨a4,c4,rfl⟩:=IY ho;exact⟨a4,c4,he,G6 ho,hb⟩))
     unfold clV enV at C12;simp only at C12;generalize hkE:WJ es ⟨pp,n.d,E==0⟩=es' at*;have HKE:=G6 hkE;clear hkE;have x0:=(G5 Q10).1.c0;have x1:=(G5 Q10).1.c1;have x2:=(G5 Q10).1.c2;have n1:=(G5 N10).JI 1 _ rfl;obtain⟨⟨_,_,_,_,_,e5,_⟩,_,_,_,_,_,_⟩:=(G5 D10).cells;simp only at e5;go_wp2_with fail;refine(G5 C12 _ (AA _ _)).mono ?_;rintro e w12 ⟨a4,c4,rfl,H12,CQ6⟩;clear x0 x1 x2 n1 e5 C12;have hq10:=(G5 Q10).1.lt;have Q12:=(G5 Q10).1.next CQ6;have x0:=Q12.c0;have x1:=Q12.c1;have x2:=Q12.c2;have y0:=Q12.fr 0;have y1:=Q12.fr 1;have y2:=Q12.fr 2;have D13:=G6 (((G5 D10).next hk0 CQ6).other (show W.heap.size+1<q by omega) (I0 cs) (I0 t.z) (FQ a4 es'.length c4));have N13:=G6 ((((((G5 N10).Y0 CQ6 (G5 N10).ltz).OV (a:=⟨q,0,FX⟩) (fun e=>hqn e.symm) (I0 cs)).OV (a:=⟨q,1,FX⟩) (fun e=>hqn e.symm) (I0 t.z)).OV (a:=⟨q,2,FX⟩) (fun e=>hqn e.symm) (FQ a4 es'.length c4)));have Q13:=G6 (C9 (((Q12.set0 (s':=cs)).set1 (z':=t.z)).set2 (v':=FQ a4 es'.length c4)) (((((G5 H12).OV (k:=q) (j:=0) hq10 (I0 cs)).OV (k:=q) (j:=1) hq10 (I0 t.z)).OV (k:=q) (j:=2) hq10 (FQ a4 es'.length c4)).seq));have X13:=G6 (fun hu=>((((G5 X10) hu).next CQ6).far rfl hkq (TB w12 q 0 (I0 cs) (I0 t.z) (FQ a4 es'.length c4))).x);unfold sJ at X13;obtain⟨P13,BB9⟩:∃P:Pw,P=⟨p.n,LU p.s i (zM (p.s i) ⟨cs,1,pp⟩),p.r,p.c,p.D,p.H,p.h⟩:=⟨_,rfl⟩;have HF:Hid (R=(⟨E,t.z,n.p,n.d,n,[]⟩,⟨P13.n,P13.s,P13.r,LU P13.c c ⟨cs,t.z,es'⟩,P13.D,P13.H,P13.h⟩)):=G6 (by rw[BB9,<-G5 HR,if_neg (show ¬t.z<cz by omega),if_neg (by simp),if_neg (by simp)]);have HO:Hid (∀j,j<3->ML 300 (P13.s j)):=G6 fun j hj=>by
      rw[BB9];show ML 300 (LU p.s i (zM (p.s i) ⟨cs,1,pp⟩) j);by_cases e:j=i
      .subst e;rw[IG];exact BZ6 (G5 HOK j hj) hu (by rw[(G5 HWS).2]) rfl (by have:=(G5 HCL).s;rw[(G5 HCE).1]at this;show 1<=cs/\cs<=16;omega)
      .rw[GH _ _ e];exact(G5 HOK j hj).more (by omega)
     replace X13:=G6 (G5 X13 hu);rw[<-BB9]at X13;have HZ:Hid ((svP i (P13.s i)).tr.z=t.z):=G6 (by
      rw[BB9];show (svP i (LU p.s i (zM (p.s i) ⟨cs,1,pp⟩) i)).tr.z=t.z;rw[IG,<-G5 HTS,J5 hu,J5 (p:=zM (p.s i) ⟨cs,1,pp⟩) hu];rfl)
     clear BB9 Q12 D10 Q10 N10 X10 H12 CQ6 HWS HAE HKE;go_upto_region 13 with fail;generalize ((w12.setCell _ _).setCell _ _).setCell _ _=W13 at*;clear x0 x1 x2 y0 y1 y2
    case' a0=>
     intro hwt;subst hwt;obtain⟨P13,BB9⟩:∃P:Pw,P=p:=⟨_,rfl⟩;have HF:Hid (R=(⟨E,t.z,n.p,n.d,n,[]⟩,⟨P13.n,P13.s,P13.r,LU P13.c c ⟨cs,t.z,es⟩,P13.D,P13.H,P13.h⟩)):=G6 (by rw[BB9,<-G5 HR,if_neg (show ¬t.z<cz by omega),if_pos rfl]);have HO:Hid (∀j,j<3->ML 300 (P13.s j)):=G6 fun j hj=>by rw[BB9];exact(G5 HOK j hj).more (by omega)
     have X13:=G6 (G5 X9).x;rw[<-BB9]at X13;have D13:=G6 ((G5 D9).dt k);have Q13:=Q9;have N13:=N9;have HZ:Hid ((svP i (P13.s i)).tr.z=t.z):=G6 (by rw[BB9,G5 HTS]);clear BB9 X9 D9 Q9 N9;go_upto_region 13 with fail
    all_goals
     have x0:=(G5 Q13).1.c0;have x1:=(G5 Q13).1.c1;have x2:=(G5 Q13).1.c2;obtain⟨⟨_,e1,_,_,_,_,_⟩,_,_,_,_,_,_⟩:=(G5 D13).cells;simp only at e1;obtain⟨_,_,k0,k1,k2,_⟩:=(G5 X13).cl hc16;rw[DC 3 c]at k0 k1 k2;have f0:=(G5 X13).GN (34+c*3);have f1:=(G5 X13).GN (34+c*3+1);have f2:=(G5 X13).GN (34+c*3+2);have hkl:=(G5 X13).lt;go_region;have X14:=G6 (CQ5 hc16 hk0 hkn (G5 X13) (G5 Q13).2 (G5 D13) (G5 N13) cs t.z);unfold sJ at X14;clear x0 x1 x2 e1 k0 k1 k2 f0 f1 f2 hkl X13 D13 N13 Q13;generalize World.drew _=W14 at*;obtain⟨_,_,_,_,_,_,_,_,_,_,_,SS,_,_⟩:=(G5 X14).1.srv hi3 rfl;have D14:=G6 (G5 X14).2;have k6:=SS.c6;simp only[DC 10 i,G5 HZ]at k6;have n0:=(G5 D14).2.JI 0 _ rfl;have n1:=(G5 D14).2.JI 1 _ rfl;have n2:=(G5 D14).2.JI 2 _ rfl;have n3:=(G5 D14).2.JI 3 _ rfl;have n4:=(G5 D14).2.JI 4 _ rfl;have n5:=(G5 D14).2.JI 5 _ rfl;have n6:=(G5 D14).2.JI 6 _ rfl;have n7:=(G5 D14).2.JI 7 _ rfl;have n8:=(G5 D14).2.JI 8 _ rfl;have X1:=G6 (BU9 (iW (kd:=2) (B:=W.heap.size+2) (r:=⟨E,t.z,n.p,n.d,n,[]⟩) (vn:=N0) (G5 D14).1.t (G5 D14).1.r (by omega) (by omega) (G5 X14).1 (G5 HO) (.inl ⟨rfl,rfl⟩) (by omega)));have b0:=(G5 D14).1.r.cells;have g0:=(G5 D14).1.r.GN;simp only[rpV,gY]at X1;clear SS X14 D14 HO HZ;go_upto_region 14 with fail;go_region;go_wp2_with fail;exact bodyPost_ret (v:=.agg #[I0 E,I0 t.z,S0 n.p,S0 n.d,I0 n.c,I0 n.m,I0 n.q,I0 n.v,I0 n.k,I0 n.o,I0 n.n,N0]) (by simp[results,results48,go_sem,b0]) rfl (by rw[G5 HF];exact G5 X1)
