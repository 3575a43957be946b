/-
  Part.
-/
import Derived.Test.YtenkgjfahcgppaaGreatDoorLOAG
import Derived.Test.YtenkgjfahcgppaaGreatDoorLOAE
set_option maxRecDepth 20000
set_option maxHeartbeats 8000000
namespace Go.Proofs.YtenkgjfahcgppaaGreatDoor
open Go.RowKit Go.Proofs.Tryz
variable{W V:World}{k q:Nat}{p:Pw}{v:Value}
theorem WX.offq(h:WX W k p)(hq:W.heap.size<=q):WXO W k p (.slice (some ⟨q,0,none⟩) 1 1):=by
 obtain⟨f,hb,hr⟩:=h;refine⟨f,hb,hr,fun g hg=>?_⟩;simp only[Value.ownBlock,Option.some.injEq]at hg;subst hg;exact zI hr hq
theorem WXO.BR2(h:WXO W k p v){i:Nat}(hi:i<3)(hu:(p.s i).up=true){x:Ps}{y:Value}(hx:x=⟨(p.s i).up,(p.s i).e,(p.s i).m,(p.s i).a,(p.s i).q,(p.s i).dn,x.ws⟩)(hv:BQ W y x.ws)(ha:∀g,v.ownBlock=some g->QT y g):WXO (W.setCell ⟨k,1+10*i+9,none⟩ y) k ⟨p.n,GX p.s i x,p.r,p.c,p.D,p.H,p.h⟩ v:=by
 obtain⟨f,hb,hr,ho⟩:=h;have e1:svP i x=⟨(svP i (p.s i)).up,(svP i (p.s i)).fs,(svP i (p.s i)).id,(svP i (p.s i)).ep,(svP i (p.s i)).ts,(svP i (p.s i)).dn,(svP i (p.s i)).tr,x.ws⟩:=by
  rw[D8 hu,D8 (by rw[hx];exact hu),hx]
 refine⟨_,hb.set (j:=1+10*i+9) (by omega) _,WdR.touch (W:=W) ?_ (ER _ _ _ _),fun g e=>?_⟩
 .refine⟨by rw[AP _ _ (by omega)];exact hr.n,fun j hj=>?_,fun j hj=>by rw[AP _ _ (by omega)];exact hr.r j hj,fun j hj=>(hr.c j hj).congr fun q hq=>by rw[AP _ _ (by omega)],by rw[AP _ _ (by omega)];exact hr.d,fun j hj h0=>by
   rw[AP _ _ (by omega)];refine hr.h j hj ?_;by_cases e:j=i
   .subst e;simp only[BP]at h0;rw[D8 (by rw[hx];exact hu)]at h0;rw[D8 hu];rw[hx]at h0;exact h0
   .simp only[AP _ _ e]at h0;exact h0,hr.hk⟩
  by_cases e:j=i
  .subst e;simp only[BP];have hs:=hr.s j hj;rw[e1];have g:∀q,q<9->GX f (1+10*j+9) y (1+10*j+q)=f (1+10*j+q):=fun q hq=>AP _ _ (by omega);exact⟨by rw[g 0 (by omega)];exact hs.up,by rw[g 1 (by omega)];exact hs.d,by rw[g 2 (by omega)];exact hs.id,by rw[g 3 (by omega)];exact hs.ep,by rw[g 4 (by omega)];exact hs.l,by rw[g 5 (by omega)];exact hs.dn,by rw[g 6 (by omega)];exact hs.z,by rw[g 7 (by omega)];exact hs.n,by rw[g 8 (by omega)];exact hs.i,by rw[BP];exact RQ hv (hr.aP hb)⟩
  .simp only[AP _ _ e];exact(hr.s j hj).congr fun q hq=>by rw[AP _ _ (by omega)]
 .have o:=ho g e;have es:∀j,j<3->(svP j (GX p.s i x j)).fs=(svP j (p.s j)).fs/\(svP j (GX p.s i x j)).ts=(svP j (p.s j)).ts/\(svP j (GX p.s i x j)).tr=(svP j (p.s j)).tr:=fun j hj=>by
   by_cases e:j=i
   .subst e;rw[BP,e1];exact⟨rfl,rfl,rfl⟩
   .rw[AP _ _ e];exact⟨rfl,rfl,rfl⟩
  refine⟨fun j hj h0=>by rw[AP _ _ (by omega)];exact o.d j hj (by rw[<-(es j hj).1];exact h0),fun j hj h0=>by rw[AP _ _ (by omega)];exact o.l j hj (by rw[<-(es j hj).2.1];exact h0),fun j hj h0=>by rw[AP _ _ (by omega)];exact o.n j hj (by rw[<-(es j hj).2.2];exact h0),fun j hj h0=>by rw[AP _ _ (by omega)];exact o.i j hj (by rw[<-(es j hj).2.2];exact h0),fun j hj h0=>?_,fun j hj h0=>by rw[AP _ _ (by omega)];exact o.c j hj h0,fun h0=>by rw[AP _ _ (by omega)];exact o.a h0⟩;by_cases e':j=i
  .subst e';rw[BP];exact ha g e
  .rw[AP _ _ (by omega)];simp only[AP _ _ e']at h0;exact o.w j hj h0
theorem WX.rowC{es:List En}(h:WX W k p)(hv:BQ W v es):Row W k v es:=by
 obtain⟨f,hb,hr⟩:=h;exact YD hv (hr.aP hb)
theorem DT.other{w:World}{d:Dd}(h:DT k w W d)(hq:w.heap.size+1<q)(x0 x1 x2:Value):DT k w (((W.setCell ⟨q,0,none⟩ x0).setCell ⟨q,1,none⟩ x1).setCell ⟨q,2,none⟩ x2) d:=
 ⟨((h.t.new (by omega) x0).new (by omega) x1).new (by omega) x2,h.r.touch ((OV W q 0 x0 x1 x2)) (by omega),((OV W q 0 x0 x1 x2).block _ h.d.ltz (by omega)).trans h.d⟩
theorem A86(ws:List Wa)(x:Wa):YA ws x≠16/\YA ws x≠7:=by
 unfold YA oU
 repeat' split
 all_goals decide
theorem BM7{E:Int}(h:E≠0)(h2:E≠16/\E≠7):PV 2 E=false:=by simp[PV,h,h2]
theorem EW.turn{α:Type}[Lay α]{g:Nat}{x:α}(h:EW W g x)(ht:Touch (· =k) W V)(hk:k≠g):EW V g x:=(ht.block g h.ltz (fun e=>hk e.symm)).trans h
theorem JD.turn{g:Nat}{s z:Int}(h:JD W g s z v)(ht:Touch (· =k) W V)(hk:k≠g):JD V g s z v:=(ht.block g h.lt (fun e=>hk e.symm)).trans h
theorem BM8{kd:Int}{x:Rp×Pw}{e:Ending}(h:Did W k kd x e V):Did W k kd x e V.drew:=by
 obtain⟨v,he,ho,ht,hx⟩:=h;exact⟨v,he,ho.next (Below.refl _ _).drew,ht.drew,fun hl=>(hx hl).next (Below.refl _ _).drew⟩
theorem CI7{c:Nat}{d:Dd}{n:Nd}{es:List En}(hc:c<16)(hk0:k<W.heap.size)(hkq:k≠q)(X:WX V k p)(hv:BQ V v es)(D:DT k W V d)(N:EW V q n)(s z:Int):
  WX (nK V k (34+c*3) (I0 s) (I0 z) v).drew k ⟨p.n,p.s,p.r,GX p.c c ⟨s,z,es⟩,p.D,p.H,p.h⟩/\DT k W (nK V k (34+c*3) (I0 s) (I0 z) v).drew d/\EW (nK V k (34+c*3) (I0 s) (I0 z) v).drew q n:=by
 have hT:=OV V k (34+c*3) (I0 s) (I0 z) v;have hN:=N.turn hT hkq;refine⟨?_,(D.touch hk0 hT).next hk0 (Below.refl _ _).drew,hN.QK (Below.refl _ _).drew hN.ltz⟩;rw[Nat.mul_comm c 3];exact(X.BI6 hc (c:=⟨s,z,es⟩) hv).next (Below.refl _ _).drew
theorem B41(p:Pw)(d:Dd)(k:Nat)(W:World)(hx:WX W k p)(hs:0<=d.s/\d.s<3)(hu:(p.s d.s.toNat).up=false):Calls prog 77 #[wP k,ddV d] W (Did W k 2 (LM 14,p)):=by
 have D0:=AA (DB.start W d);have hk0:=hx.lt;obtain⟨i,hi3,hdi⟩:∃i:Nat,i<3/\d.s=i:=⟨d.s.toNat,by omega,by omega⟩;rw[hdi,Int.toNat_natCast]at hu;obtain⟨ad,nd,cd,al,cl,an,cn,ai,ci,aw,cw,SS,_,_⟩:=hx.srv hi3 rfl;have HS:=AA (fun V (hV:B0 W V)=>(SS.next hk0 hV).c0);rw[MO hu,Nat.mul_comm 10 i]at HS;obtain⟨dk,dc,ds,⟨o,s,pp,dd,v,f⟩,lo,sl,ke,wt⟩:=d;simp only at hdi;subst hdi;have hi4:(i:Int)<3:=by omega
 unfold wP ddV;clear SS hu hs hx;go_enter func77,ntmps77;go_upto_region 1 with fail;generalize ((W.alloc _).alloc _)=W0 at*;obtain⟨⟨_,_,e2,_,_,_,_⟩,_,_,_,_,_,_⟩:=(A8 D0).cells;simp only at e2
 go_quiet (fail)
 have D1:=AA (((A8 D0).next (OW W0 nq)).dt k);have c0:=A8 HS _ ((A8 D0).next (OW W0 nq)).b;generalize W0.drewN nq=W1 at*;clear e2 D0 HS;simp only at c0;have CR:=AA (fun V=>FW (14) V);unfold QL at CR;go_wp2_with fail;refine(A8 CR _).mono ?_;rintro e wr1 ⟨rfl,hbr⟩;have DR:=(A8 D1).next hk0 hbr;have b0:=DR.r.cells;have g0:=DR.r.AX;have X1:Hid (Did W k 2 (LM (14),p) (.returned (QL (14))) (aS wr1 (W.heap.size+1) (I0 (14)) (I0 0) (.string ⟨#[]⟩) (.string ⟨#[]⟩) (I0 0) (I0 0) (I0 0) (I0 0) (I0 0) (I0 0) (I0 0) (N0))):=AA (RU rfl (FM DR.t (by omega) _ _ _ _ _ _ _ _ _ _ _ _) (by decide));clear hbr DR D1 CR;unfold QL at X1;go_wp2_with fail;exact bodyPost_ret (v:=.agg #[I0 (14),I0 0,.string ⟨#[]⟩,.string ⟨#[]⟩,I0 0,I0 0,I0 0,I0 0,I0 0,I0 0,I0 0,N0]) (by simp[results,results77,go_sem,b0]) rfl (A8 X1)
theorem C58(p:Pw)(d:Dd)(k:Nat)(W:World)(hx:WX W k p)(hc:0<=d.c/\d.c<16)(hs:0<=d.s/\d.s<3)(hok:∀j,j<3->IK 299 (p.s j))(hcl:oV 299 p.H d.c.toNat (p.c d.c.toNat))(hp:d.q.p.length<=140737488355328)(hu:(p.s d.s.toNat).up=true):Calls prog 77 #[wP k,ddV d] W (Did W k 2 (YB p d)):=by
 have D0:=AA (DB.start W d);have hk0:=hx.lt;obtain⟨i,hi3,hdi⟩:∃i:Nat,i<3/\d.s=i:=⟨d.s.toNat,by omega,by omega⟩;obtain⟨c,hc16,hdc⟩:∃c:Nat,c<16/\d.c=c:=⟨d.c.toNat,by omega,by omega⟩;rw[hdi,Int.toNat_natCast]at hu;rw[hdc,Int.toNat_natCast]at hcl;obtain⟨ad,nd,cd,al,cl,an,cn,ai,ci,aw,cw,SS,hsv,_⟩:=hx.srv hi3 rfl;obtain⟨ca,cc,k0,k1,k2,hcv⟩:=hx.cl hc16;have hup:=D8 (i:=i) hu;have ok:=hok i hi3;have hgt:NI (svP i (p.s i)).tr:=by rw[hup];exact ok.play.good ok.dn
 have ht:(svP i (p.s i)).tr=JX (p.s i).m (p.s i).dn:=by rw[hup]
 have hw:(svP i (p.s i)).ws=(p.s i).ws:=by rw[hup]
 have hv0:(svP i (p.s i)).up=true:=by rw[hup]
 have HS:=fun V (hV:B0 W V)=>SS.next hk0 hV;simp only[Nat.mul_comm 10 i,hv0,hw]at HS;replace HS:=AA HS;have HK:Hid (∀V,B0 W V->V.cell? ⟨k,34+c*3,none⟩=some (I0 (p.c c).s)/\V.cell? ⟨k,34+c*3+1,none⟩=some (I0 (p.c c).z)/\V.cell? ⟨k,34+c*3+2,none⟩=some (.slice ca (p.c c).es.length cc)):=AA fun V hV=>by
  have e:∀j,V.cell? ⟨k,j,none⟩=W.cell? ⟨k,j,none⟩:=fun j=>by rw[World.cell?,World.cell?,hV.block k hk0]
  rw[e,e,e,Nat.mul_comm c 3];exact⟨k0,k1,k2⟩
 have hsc:kK (p.c c).es:=fun y hy=>by have:=hcl.sh y hy;omega
 have CG0:=AA (fun V (hV:B0 W V)=>bU (svP i (p.s i)).tr (.slice an (svP i (p.s i)).tr.ns.length cn) (.slice ai (svP i (p.s i)).tr.ss.length ci) d.q.p V hgt (by
  obtain⟨_,_,_,_,_,e,_,_,r3,_,_⟩:=hsv.next hV;simp only[Value.agg.injEq,Array.mk.injEq,List.cons.injEq,true_and,and_true]at e;rw[<-e.2.2.1]at r3;exact r3))
 have HWV:=AA (fun V (hV:B0 W V)=>(show BQ V (.slice aw (p.s i).ws.length cw) (p.s i).ws from by
  obtain⟨_,_,_,_,_,e,_,_,_,_,r5⟩:=hsv.next hV;simp only[Value.agg.injEq,Array.mk.injEq,List.cons.injEq,true_and,and_true]at e;rw[<-e.2.2.2.2,hw]at r5;exact r5))
 have hdat:(kT (svP i (p.s i)).tr d.q.p).d.length<=256:=by
  unfold kT
  cases hr:H7 (svP i (p.s i)).tr.ns d.q.p with
  |none=>simp[SC]
  |some m=>simpa using (hgt.nod.ok m (UK hr).1).data
 have HEE:Hid (YB p d=if(svP i (p.s i)).tr.z<(p.c c).z then(LM 15,p)else if d.wt=false then(⟨A77 (svP i (p.s i)).tr d.q.p,(svP i (p.s i)).tr.z,(kT (svP i (p.s i)).tr d.q.p).p,(kT (svP i (p.s i)).tr d.q.p).d,kT (svP i (p.s i)).tr d.q.p,[]⟩,⟨p.n,p.s,p.r,GX p.c c ⟨(p.c c).s,(svP i (p.s i)).tr.z,(p.c c).es⟩,p.D,p.H,p.h⟩)
   else if YA (p.s i).ws ⟨(p.c c).s,1,d.q.p⟩≠0 then(LM (YA (p.s i).ws ⟨(p.c c).s,1,d.q.p⟩),p)
   else(⟨A77 (svP i (p.s i)).tr d.q.p,(svP i (p.s i)).tr.z,(kT (svP i (p.s i)).tr d.q.p).p,(kT (svP i (p.s i)).tr d.q.p).d,kT (svP i (p.s i)).tr d.q.p,[]⟩,⟨p.n,GX p.s i (uY (p.s i) ⟨(p.c c).s,1,d.q.p⟩),p.r,GX p.c c ⟨(p.c c).s,(svP i (p.s i)).tr.z,SE (p.c c).es ⟨d.q.p,(kT (svP i (p.s i)).tr d.q.p).d,A77 (svP i (p.s i)).tr d.q.p==0⟩⟩,p.D,p.H,p.h⟩)):=AA (by
  have hso:(A77 (svP i (p.s i)).tr d.q.p==0)=(H7 (svP i (p.s i)).tr.ns d.q.p).isSome:=by
   unfold A77
   cases H7 (svP i (p.s i)).tr.ns d.q.p<;>rfl
  rw[hso];unfold YB AZ2 rN rTr rWa iU kT A77;rw[hdi,hdc,Int.toNat_natCast,Int.toNat_natCast,ht,if_neg (by rw[hu];decide)];rfl)
 have HX:=AA hx;have HCv:=AA hcv;have HOK:=AA hok;have HCL:=AA hcl;have HSC:=AA hsc;have hPl:=hp;obtain⟨dk,dc,ds,⟨o,s,pp,dd,v,f⟩,lo,sl,ke,wt⟩:=d;simp only at hdi hdc;subst hdi hdc;simp only at CG0 HEE hPl hdat;have hi4:(i:Int)<3:=by omega
 have hc4:(c:Int)<16:=by omega
 unfold wP ddV;unfold PS at CG0;clear SS hs hx hsv hup hgt ht hw hv0 hok ok hcl hcv hsc hp k0 k1 k2 hc;generalize hts:(svP i (p.s i)).tr=t at*;have HTS:=AA hts;clear hts;generalize hcs:(p.c c).s=cs at*;generalize hcz:(p.c c).z=cz at*;generalize hes:(p.c c).es=es at*;generalize kT t pp=n at*;generalize A77 t pp=E at*;have HCE:=AA (And.intro hcs hes);clear hcs hcz hes;rw[A8 HEE];clear HEE;generalize hR:(if t.z<cz then(LM 15,p)else _)=R;have HR:=AA hR;clear hR;go_enter func77,ntmps77;go_upto_region 1 with fail;generalize ((W.alloc _).alloc _)=W0 at*;obtain⟨⟨_,_,e2,_,_,_,_⟩,_,_,_,_,_,_⟩:=(A8 D0).cells;simp only at e2
 go_quiet (fail)
 have D1:=AA ((A8 D0).next (OW W0 nq));have c0:=(A8 HS _ (A8 D1).b).c0;generalize W0.drewN nq=W1 at*;clear e2 D0;have hkW:k<W1.heap.size:=Nat.lt_of_lt_of_le hk0 (A8 D1).b.size;have HKS:Hid (∀V,B0 W1 V->V.cell? ⟨W.heap.size,1,none⟩=some (I0 c)/\V.cell? ⟨k,34+c*3,none⟩=some (I0 cs)/\V.cell? ⟨k,34+c*3+1,none⟩=some (I0 cz)/\V.cell? ⟨k,34+c*3+2,none⟩=some (.slice ca es.length cc)/\V.cell? ⟨k,1+i*10+6,none⟩=some (I0 t.z)):=AA fun V hV=>by
  have hb:=AL (A8 D1).b hV;obtain⟨⟨_,e1,_,_,_,_,_⟩,_,_,_,_,_,_⟩:=((A8 D1).next hV).cells;obtain⟨h0,h1,h2⟩:=A8 HK V hb;exact⟨e1,h0,h1,h2,(A8 HS V hb).c6⟩
 go_upto_region 4 with fail;clear c0;by_cases hst:t.z<cz
 .have C1:=AA (fun V (_:B0 W1 V)=>C08 cs cz t.z ca es.length cc V hst);unfold clV at C1
  go_cut [6,7]from 22 (fun t6 t7 wx=>∃q,t6=P0 q/\t7=I0 15/\Hid (B0 W1 wx))
  case first=>
   have hS0:=A8 HKS _ (Below.refl W1.heap.size W1).drew;refine wp_region_held (S:=fun V:World=>V.cell? ⟨W.heap.size,1,none⟩=some (I0 c)/\V.cell? ⟨k,34+c*3,none⟩=some (I0 cs)/\V.cell? ⟨k,34+c*3+1,none⟩=some (I0 cz)/\V.cell? ⟨k,34+c*3+2,none⟩=some (.slice ca es.length cc)/\V.cell? ⟨k,1+i*10+6,none⟩=some (I0 t.z)) (by kernel_rfl) ?_;change wpAnyH _ _ _ _ _ _ _ _ W1.drew;refine tkH 0 hS0 ?_;refine tkH 1 hS0 ?_;refine tkH 2 hS0 ?_;refine tkH 3 hS0 ?_;refine tkH 4 hS0 ?_;refine tkH 5 hS0 ?_;refine tkH 6 hS0 ?_;refine tkH 7 hS0 ?_;refine tkH 8 hS0 ?_;refine tkH 9 hS0 ?_;refine tkH 10 hS0 ?_;refine tkH 11 hS0 ?_;refine rd2 12 16 (fun K hK=>?_) (fun K hK=>?_)
   .go_simp;refine(A8 C1 _ (Below.refl _ _).drew).mono ?_;rintro e w1 ⟨rfl,hb1⟩;have aB1:Hid (B0 W1 w1):=AA (AL (Below.refl _ _).drew hb1);clear hb1;have hS1:=A8 HKS _ (A8 aB1);refine nxH hK hS1 ?_;clear hK K;refine tkH 13 hS1 ?_;refine tkH 14 hS1 ?_;refine tkH 15 hS1 ?_;refine rd1 16 (fun K hK=>?_);go_simp;have hS2:=A8 HKS _ (AL (A8 aB1) (AB w1 (.cells #[I0 0,I0 0,N0] 77)));refine nxH hK hS2 ?_;clear hK K;refine rd1 17 (fun K hK=>?_);go_simp;have hX2:Hid (B0 W1 _):=AA (AL (A8 aB1) (AB w1 (.cells #[I0 0,I0 0,N0] 77)));have hS3:=A8 HKS _ (A8 hX2);refine nxH hK hS3 ?_;clear hK K;refine tkH 18 hS3 ?_;refine wpAnyH_done (by kernel_rfl) ?_ _;go_wp2_with fail
    go_meet
    exact⟨_,rfl,rfl,hX2⟩
   .go_simp;have hS2:=A8 HKS _ (AL (Below.refl W1.heap.size W1).drew (AB W1.drew (.cells #[I0 0,I0 0,N0] 77)));refine nxH hK hS2 ?_;clear hK K;refine rd1 12 (fun K hK=>?_);go_simp;refine(A8 C1 _ (AL (Below.refl _ _).drew (AB _ _))).mono ?_;rintro e w1 ⟨rfl,hb1⟩;have aB1:Hid (B0 W1 w1):=AA (AL (AL (Below.refl _ _).drew (AB _ _)) hb1);have aZ1:Hid (JD w1 W1.heap.size 0 0 (N0)):=AA ((hb1.block _ (by simp)).trans (heap_alloc_new W1.drew _));clear hb1;have hS1:=A8 HKS _ (A8 aB1);refine nxH hK hS1 ?_;clear hK K;refine tkH 13 hS1 ?_;refine tkH 14 hS1 ?_;refine tkH 15 hS1 ?_;refine rd1 17 (fun K hK=>?_);have z0:=(A8 aZ1).fr 0;have z1:=(A8 aZ1).fr 1;have z2:=(A8 aZ1).fr 2;have x0:=(A8 aZ1).c0;have x1:=(A8 aZ1).c1;have x2:=(A8 aZ1).c2;go_simp;have hX2:Hid (B0 W1 _):=AA ((((A8 aB1).setCell (p:=⟨W1.heap.size,0,none⟩) (Nat.le_refl _) (I0 0)).setCell (p:=⟨W1.heap.size,1,none⟩) (Nat.le_refl _) (I0 0)).setCell (p:=⟨W1.heap.size,2,none⟩) (Nat.le_refl _) (N0));have hS3:=A8 HKS _ (A8 hX2);refine nxH hK hS3 ?_;clear hK K;refine tkH 18 hS3 ?_;refine wpAnyH_done (by kernel_rfl) ?_ _;go_wp2_with fail
    go_meet
    exact⟨_,rfl,rfl,hX2⟩
  case rest=>
   obtain⟨q,rfl,rfl,HQ⟩:=hcut;have D2:=AA (((A8 D1).next (A8 HQ)).dt k);clear HKS C1 D1 HQ;have CR:=AA (fun V=>FW (15) V);unfold QL at CR;go_wp2_with fail;refine(A8 CR _).mono ?_;rintro e wr1 ⟨rfl,hbr⟩;have DR:=(A8 D2).next hk0 hbr;have b0:=DR.r.cells;have g0:=DR.r.AX;have X1:Hid (Did W k 2 (LM (15),p) (.returned (QL (15))) (aS wr1 (W.heap.size+1) (I0 (15)) (I0 0) (.string ⟨#[]⟩) (.string ⟨#[]⟩) (I0 0) (I0 0) (I0 0) (I0 0) (I0 0) (I0 0) (I0 0) (N0))):=AA (RU rfl (FM DR.t (by omega) _ _ _ _ _ _ _ _ _ _ _ _) (by decide));clear hbr DR D2 CR;unfold QL at X1;go_wp2_with fail;exact bodyPost_ret (v:=.agg #[I0 (15),I0 0,.string ⟨#[]⟩,.string ⟨#[]⟩,I0 0,I0 0,I0 0,I0 0,I0 0,I0 0,I0 0,N0]) (by simp[results,results77,go_sem,b0]) rfl (by rw[<-A8 HR,if_pos hst];exact A8 X1)
 .have hle:cz<=t.z:=by omega
  have C1:=AA (fun V (hV:B0 W1 V)=>(A65 cs cz t.z (.slice ca es.length cc) es V ((A8 HCv).next (AL (A8 D1).b hV)) (A8 HSC) (by have:=(A8 HCL).len;rw[(A8 HCE).2]at this;omega) hle).mono fun e w' h=>(show ∃a1 c1,e=.returned (.tuple #[.agg #[I0 cs,I0 t.z,.slice a1 es.length c1],I0 0])/\Hid (BD w' V.heap.size (.slice a1 es.length c1) es)/\B0 V w' from by
   obtain⟨v',he,ho,hb⟩:=h;obtain⟨a1,c1,rfl⟩:=BN ho;exact⟨a1,c1,he,AA ho,hb⟩))
  go_cut [6,7]from 22 (fun t6 t7 wx=>∃q a1 c1,t6=P0 q/\t7=I0 0/\Hid (BS0 W1 wx q cs t.z (.slice a1 es.length c1) es))
  case first=>
   have hS0:=A8 HKS _ (Below.refl W1.heap.size W1).drew;refine wp_region_held (S:=fun V:World=>V.cell? ⟨W.heap.size,1,none⟩=some (I0 c)/\V.cell? ⟨k,34+c*3,none⟩=some (I0 cs)/\V.cell? ⟨k,34+c*3+1,none⟩=some (I0 cz)/\V.cell? ⟨k,34+c*3+2,none⟩=some (.slice ca es.length cc)/\V.cell? ⟨k,1+i*10+6,none⟩=some (I0 t.z)) (by kernel_rfl) ?_;change wpAnyH _ _ _ _ _ _ _ _ W1.drew;refine tkH 0 hS0 ?_;refine tkH 1 hS0 ?_;refine tkH 2 hS0 ?_;refine tkH 3 hS0 ?_;refine tkH 4 hS0 ?_;refine tkH 5 hS0 ?_;refine tkH 6 hS0 ?_;refine tkH 7 hS0 ?_;refine tkH 8 hS0 ?_;refine tkH 9 hS0 ?_;refine tkH 10 hS0 ?_;refine tkH 11 hS0 ?_;refine rd2 12 16 (fun K hK=>?_) (fun K hK=>?_)
   .go_simp;refine(A8 C1 _ (Below.refl _ _).drew).mono ?_;rintro e w1 ⟨a1,c1,rfl,H1,hb1⟩;have aB1:Hid (B0 W1 w1):=AA (AL (Below.refl _ _).drew hb1);clear hb1;have hS1:=A8 HKS _ (A8 aB1);refine nxH hK hS1 ?_;clear hK K;refine tkH 13 hS1 ?_;refine tkH 14 hS1 ?_;refine tkH 15 hS1 ?_;refine rd1 16 (fun K hK=>?_);go_simp;have hS2:=A8 HKS _ (AL (A8 aB1) (AB w1 (.cells #[I0 0,I0 0,N0] 77)));refine nxH hK hS2 ?_;clear hK K;refine rd1 17 (fun K hK=>?_);go_simp;have hX2:Hid (BS0 W1 _ _ cs t.z (.slice a1 es.length c1) es):=AA (A82 (A8 aB1) (A8 H1));have hS3:=A8 HKS _ (A8 hX2).b;refine nxH hK hS3 ?_;clear hK K;refine tkH 18 hS3 ?_;refine wpAnyH_done (by kernel_rfl) ?_ _;go_wp2_with fail
    go_meet
    exact⟨_,a1,c1,rfl,rfl,hX2⟩
   .go_simp;have hS2:=A8 HKS _ (AL (Below.refl W1.heap.size W1).drew (AB W1.drew (.cells #[I0 0,I0 0,N0] 77)));refine nxH hK hS2 ?_;clear hK K;refine rd1 12 (fun K hK=>?_);go_simp;refine(A8 C1 _ (AL (Below.refl _ _).drew (AB _ _))).mono ?_;rintro e w1 ⟨a1,c1,rfl,H1,hb1⟩;have aB1:Hid (B0 W1 w1):=AA (AL (AL (Below.refl _ _).drew (AB _ _)) hb1);have aZ1:Hid (JD w1 W1.heap.size 0 0 (N0)):=AA ((hb1.block _ (by simp)).trans (heap_alloc_new W1.drew _));clear hb1;have hS1:=A8 HKS _ (A8 aB1);refine nxH hK hS1 ?_;clear hK K;refine tkH 13 hS1 ?_;refine tkH 14 hS1 ?_;refine tkH 15 hS1 ?_;refine rd1 17 (fun K hK=>?_);have z0:=(A8 aZ1).fr 0;have z1:=(A8 aZ1).fr 1;have z2:=(A8 aZ1).fr 2;have x0:=(A8 aZ1).c0;have x1:=(A8 aZ1).c1;have x2:=(A8 aZ1).c2;go_simp;have hX2:Hid (BS0 W1 _ _ cs t.z (.slice a1 es.length c1) es):=AA (A83 (A8 aB1) (Nat.le_refl _) (A8 aZ1) (A8 H1) (by simp));have hS3:=A8 HKS _ (A8 hX2).b;refine nxH hK hS3 ?_;clear hK K;refine tkH 18 hS3 ?_;refine wpAnyH_done (by kernel_rfl) ?_ _;go_wp2_with fail
    go_meet
    exact⟨_,a1,c1,rfl,rfl,hX2⟩
  case rest=>
   obtain⟨q,a1,c1,rfl,rfl,HQ⟩:=hcut;generalize wc=W7 at*;have D7:=AA ((A8 D1).next (A8 HQ).b);have X7:=AA (((A8 HX).next (A8 D1).b).offq (A8 HQ).le|>.next (A8 HQ).b);have hkq:k≠q:=by have:=(A8 HQ).le;omega
   have hWq:W.heap.size+1<q:=by have:=(A8 HQ).le;have:=(A8 D1).r.lt;omega
   have Q7:=AA (And.intro (A8 HQ).box (A8 HQ).v);have hk7:=(A8 X7).x.lt;clear HKS C1 D1 HQ hle hkW;have HKS:Hid (∀V,B0 W7 V->V.cell? ⟨k,1+i*10+6,none⟩=some (I0 t.z)/\V.cell? ⟨k,1+i*10+7,none⟩=some (.slice an t.ns.length cn)/\V.cell? ⟨k,1+i*10+8,none⟩=some (.slice ai t.ss.length ci)/\V.cell? ⟨W.heap.size,5,none⟩=some (S0 pp)):=AA fun V hV=>by
    have hb:=AL (A8 D7).b hV;obtain⟨⟨_,_,_,_,_,e5,_⟩,_,_,_,_,_,_⟩:=((A8 D7).next hV).cells;have h:=A8 HS V hb;exact⟨h.c6,h.c7,h.c8,e5⟩
   have CG:=AA (fun V (hV:B0 W7 V)=>A8 CG0 V (AL (A8 D7).b hV));go_upto_region 7 with fail
   go_cut [8,9]from 42 (fun t8 t9 wx=>∃q7,t8=P0 q7/\t9=I0 E/\Hid (BL3 W7 wx q7 n))
   case first=>
    have hS0:=A8 HKS _ (Below.refl W7.heap.size W7).drew;refine wp_region_held (S:=fun V:World=>V.cell? ⟨k,1+i*10+6,none⟩=some (I0 t.z)/\V.cell? ⟨k,1+i*10+7,none⟩=some (.slice an t.ns.length cn)/\V.cell? ⟨k,1+i*10+8,none⟩=some (.slice ai t.ss.length ci)/\V.cell? ⟨W.heap.size,5,none⟩=some (S0 pp)) (by kernel_rfl) ?_;change wpAnyH _ _ _ _ _ _ _ _ W7.drew;refine tkH 0 hS0 ?_;refine tkH 1 hS0 ?_;refine tkH 2 hS0 ?_;refine tkH 3 hS0 ?_;refine tkH 4 hS0 ?_;refine tkH 5 hS0 ?_;refine tkH 6 hS0 ?_;refine rd2 7 11 (fun K hK=>?_) (fun K hK=>?_)
    .go_simp;refine(A8 CG _ (Below.refl _ _).drew).mono ?_;rintro e w2 ⟨rfl,hb2⟩;have aB2:Hid (B0 W7 w2):=AA (AL (Below.refl _ _).drew hb2);clear hb2;have hS2:=A8 HKS _ (A8 aB2);refine nxH hK hS2 ?_;clear hK K;refine tkH 8 hS2 ?_;refine tkH 9 hS2 ?_;refine tkH 10 hS2 ?_;refine rd1 11 (fun K hK=>?_);go_simp;have hS3:=A8 HKS _ (AL (A8 aB2) (AB w2 (.cells #[.string ⟨#[]⟩,.string ⟨#[]⟩,I0 0,I0 0,I0 0,I0 0,I0 0,I0 0,I0 0] 96)));refine nxH hK hS3 ?_;clear hK K;refine rd1 12 (fun K hK=>?_);go_simp;have hX2:Hid (BL3 W7 _ _ n):=AA (A81 n.p n.d n.c n.m n.q n.v n.k n.o n.n (A8 aB2));have hS4:=A8 HKS _ (A8 hX2).b;refine nxH hK hS4 ?_;clear hK K;refine tkH 13 hS4 ?_;refine wpAnyH_done (by kernel_rfl) ?_ _;go_wp2_with fail
     go_meet
     exact⟨_,rfl,rfl,hX2⟩
    .go_simp;have hS3:=A8 HKS _ (AL (Below.refl W7.heap.size W7).drew (AB W7.drew (.cells #[.string ⟨#[]⟩,.string ⟨#[]⟩,I0 0,I0 0,I0 0,I0 0,I0 0,I0 0,I0 0] 96)));refine nxH hK hS3 ?_;clear hK K;refine rd1 7 (fun K hK=>?_);go_simp;refine(A8 CG _ (AL (Below.refl _ _).drew (AB _ _))).mono ?_;rintro e w2 ⟨rfl,hb2⟩;have aB2:Hid (B0 W7 w2):=AA (AL (AL (Below.refl _ _).drew (AB _ _)) hb2);have aZ2:Hid (EW w2 W7.heap.size SC):=AA ((hb2.block _ (by simp)).trans (heap_alloc_new W7.drew _));clear hb2;have hS2:=A8 HKS _ (A8 aB2);refine nxH hK hS2 ?_;clear hK K;refine tkH 8 hS2 ?_;refine tkH 9 hS2 ?_;refine tkH 10 hS2 ?_;refine rd1 12 (fun K hK=>?_);obtain⟨⟨x0,x1,x2,x3,x4,x5,x6,x7,x8⟩,y0,y1,y2,y3,y4,y5,y6,y7,y8⟩:=o9 (A8 aZ2);go_simp;have hX2:Hid (BL3 W7 _ _ n):=AA (o8 n.p n.d n.c n.m n.q n.v n.k n.o n.n (A8 aB2) (Nat.le_refl _) (A8 aZ2));have hS4:=A8 HKS _ (A8 hX2).b;refine nxH hK hS4 ?_;clear hK K;refine tkH 13 hS4 ?_;refine wpAnyH_done (by kernel_rfl) ?_ _;go_wp2_with fail
     go_meet
     exact⟨_,rfl,rfl,hX2⟩
   case rest=>
    obtain⟨q7,rfl,rfl,HN⟩:=hcut;generalize wc=W9 at*;have D9:=AA ((A8 D7).next (A8 HN).b);have X9:=AA ((A8 X7).next (A8 HN).b);have Q9:=AA (And.intro ((A8 Q7).1.next (A8 HN).b) ((A8 Q7).2.next (A8 HN).b));have N9:=AA (A8 HN).one;have hk9:=(A8 X9).x.lt;have hkn:k≠q7:=by have:=(A8 HN).le;omega
    have hqn:q≠q7:=by have:=(A8 HN).le;have:=(A8 Q7).1.lt;omega
    have hWn:W.heap.size+1<q7:=by have:=(A8 HN).le;have:=(A8 Q7).1.lt;omega
    obtain⟨⟨_,_,_,_,_,_,_⟩,_,_,_,_,_,e12⟩:=(A8 D9).cells;simp only at e12;clear HKS CG CG0 D7 X7 Q7 HN;refine Or.elim (show wt=false\/wt=true by cases wt<;>simp) ?a0 ?a1
    case' a1=>
     intro hwt;subst hwt;have K9:Hid (∀V,B0 W9 V->V.cell? ⟨k,1+i*10+9,none⟩=some (.slice aw (p.s i).ws.length cw)):=AA fun V hV=>(A8 HS V (AL (A8 D9).b hV)).c9;have F9:Hid (∀V,B0 W9 V->V.frozen? ⟨k,1+i*10+9,none⟩=false):=AA fun V hV=>((A8 X9).x.next hV).AX _;have CA:=AA (fun V (hV:B0 W9 V)=>(C57 (.slice aw (p.s i).ws.length cw) (p.s i).ws ⟨cs,1,pp⟩ V (A8 HWV V (AL (A8 D9).b hV)) (fun y hy=>by have:=IU ((A8 HOK i hi3).wk y hy).2.2.2;omega) hPl (by have:=(A8 HOK i hi3).wl;omega)).mono fun e w' h=>(show ∃a3 c3,e=.returned (.tuple #[.slice a3 (kH (p.s i).ws ⟨cs,1,pp⟩).length c3,I0 (YA (p.s i).ws ⟨cs,1,pp⟩)])/\Hid (BD w' V.heap.size (.slice a3 (kH (p.s i).ws ⟨cs,1,pp⟩).length c3) (kH (p.s i).ws ⟨cs,1,pp⟩))/\B0 V w' from by
      obtain⟨v',he,ho,hb⟩:=h;obtain⟨a3,c3,rfl⟩:=BN ho;exact⟨a3,c3,he,AA ho,hb⟩))
     unfold waV at CA;simp only at CA;have HAE:=AA (A86 (p.s i).ws ⟨cs,1,pp⟩);generalize hws:kH (p.s i).ws ⟨cs,1,pp⟩=ws' at*;generalize hae:YA (p.s i).ws ⟨cs,1,pp⟩=AE at*;have HWS:=AA (And.intro hws hae);clear hws hae;have HKS:Hid (∀V,B0 W9 V->V.cell? ⟨q,0,none⟩=some (I0 cs)/\V.cell? ⟨W.heap.size,5,none⟩=some (S0 pp)):=AA fun V hV=>by
      obtain⟨⟨_,_,_,_,_,e5,_⟩,_,_,_,_,_,_⟩:=((A8 D9).next hV).cells;exact⟨((A8 Q9).1.next hV).c0,e5⟩
     have HKX:Hid (∀w5,B0 W9 w5->∀y,(fun V:World=>V.cell? ⟨q,0,none⟩=some (I0 cs)/\V.cell? ⟨W.heap.size,5,none⟩=some (S0 pp)) (w5.setCell ⟨k,1+i*10+9,none⟩ y)):=AA fun w5 h5 y=>by
      have t5:=ER w5 k (1+i*10+9) y;have b5:=((A8 Q9).1.next h5).turn t5 hkq;obtain⟨⟨_,_,_,_,_,e5,_⟩,_,_,_,_,_,_⟩:=((((A8 D9).next h5).dt k).touch hk0 t5).cells;exact⟨b5.c0,e5⟩
     go_upto_region 9 with fail
     go_cut [7]from 55 (fun t7 wx=>t7=I0 AE/\∃w9 a3 c3,wx=w9.setCell ⟨k,1+i*10+9,none⟩ (.slice a3 ws'.length c3)/\Hid (B0 W9 w9/\BD w9 W9.heap.size (.slice a3 ws'.length c3) ws'))
     case first=>
      have hS0:=A8 HKS _ (Below.refl W9.heap.size W9).drew;refine wp_region_held (S:=fun V:World=>V.cell? ⟨q,0,none⟩=some (I0 cs)/\V.cell? ⟨W.heap.size,5,none⟩=some (S0 pp)) (by kernel_rfl) ?_;change wpAnyH _ _ _ _ _ _ _ _ W9.drew;refine tkH 0 hS0 ?_;refine tkH 1 hS0 ?_;refine tkH 2 hS0 ?_;refine tkH 3 hS0 ?_;refine tkH 5 hS0 ?_;refine tkH 6 hS0 ?_;refine tkH 7 hS0 ?_;refine tkH 8 hS0 ?_;refine tkH 9 hS0 ?_;refine tkH 10 hS0 ?_;refine rd1 4 (fun K hK=>?_);have d8:=A8 K9 _ (Below.refl W9.heap.size W9).drew;have d9:=A8 K9 W9 (Below.refl _ _);go_simp;clear d8 d9;refine nxH hK hS0 ?_;clear hK K;refine rd1 11 (fun K hK=>?_);go_simp;refine(A8 CA _ (Below.refl _ _).drew).mono ?_;rintro e w1 ⟨a3,c3,rfl,H1,hb1⟩;have aB1:Hid (B0 W9 w1):=AA (AL (Below.refl _ _).drew hb1);clear hb1;have hS1:=A8 HKS _ (A8 aB1);refine nxH hK hS1 ?_;clear hK K;refine tkH 12 hS1 ?_;refine tkH 13 hS1 ?_;refine tkH 14 hS1 ?_;refine tkH 15 hS1 ?_;refine tkH 16 hS1 ?_;refine rd1 17 (fun K hK=>?_);have d8:=A8 K9 _ (A8 aB1);have f8:=A8 F9 _ (A8 aB1);go_simp;have hS6:=A8 HKX w1 (A8 aB1) (.slice a3 ws'.length c3);refine nxH hK hS6 ?_;clear hK K;refine tkH 18 hS6 ?_;refine wpAnyH_done (by kernel_rfl) ?_ _;go_wp2_with fail
      go_meet
      exact⟨rfl,w1,a3,c3,rfl,AA ⟨A8 aB1,A8 H1⟩⟩
     obtain⟨rfl,w9,a3,c3,rfl,H9⟩:=hcut;have T10:=AA ((Touch.of_below (F:=(· =k)) (A8 H9).1).trans (ER w9 k (1+i*10+9) (.slice a3 ws'.length c3)));have D10:=AA (((A8 D9).dt k).touch hk0 (A8 T10));have Q10:=AA (And.intro ((A8 Q9).1.turn (A8 T10) hkq) ((((A8 X9).x.rowC (A8 Q9).2).touch (A8 T10)).1));have N10:=AA ((A8 N9).turn (A8 T10) hkn);have X10:=AA (fun(hu:(p.s i).up=true)=>((A8 X9).next (A8 H9).1).BR2 hi3 hu (x:=uY (p.s i) ⟨cs,1,pp⟩) (y:=.slice a3 ws'.length c3) rfl (by show BQ w9 _ (kH (p.s i).ws ⟨cs,1,pp⟩);rw[(A8 HWS).1];exact(A8 H9).2.seq) (fun g e=>by
      simp only[Value.ownBlock,Option.some.injEq]at e;subst e;exact UW (A8 H9).2 (A8 Q9).1.lt))
     rw[Nat.mul_comm 10 i]at X10;clear K9 F9 CA HKS HKX D9 X9 Q9 N9 H9 T10 e12 hk9;generalize w9.setCell _ _=W10 at*;by_cases hA:AE≠0
     .have hA2:(AE==0)=false:=beq_eq_false_iff_ne.2 hA;have CR:=AA (fun V=>FW (AE) V);unfold QL at CR;go_wp2_with fail;refine(A8 CR _).mono ?_;rintro e wr1 ⟨rfl,hbr⟩;have DR:=(A8 D10).next hk0 hbr;have b0:=DR.r.cells;have g0:=DR.r.AX;have X1:Hid (Did W k 2 (LM (AE),p) (.returned (QL (AE))) (aS wr1 (W.heap.size+1) (I0 (AE)) (I0 0) (.string ⟨#[]⟩) (.string ⟨#[]⟩) (I0 0) (I0 0) (I0 0) (I0 0) (I0 0) (I0 0) (I0 0) (N0))):=AA (RU rfl (FM DR.t (by omega) _ _ _ _ _ _ _ _ _ _ _ _) (BM7 hA (A8 HAE)));clear hbr DR D10 CR;unfold QL at X1;go_wp2_with fail;exact bodyPost_ret (v:=.agg #[I0 (AE),I0 0,.string ⟨#[]⟩,.string ⟨#[]⟩,I0 0,I0 0,I0 0,I0 0,I0 0,I0 0,I0 0,N0]) (by simp[results,results77,go_sem,b0]) rfl (by rw[<-A8 HR,if_neg (show ¬t.z<cz by omega),if_neg (by simp),if_pos hA];exact A8 X1)
     obtain rfl:AE=0:=by omega
     have C12:=AA (fun V (hV:B0 W10 V)=>(B39 cs t.z (.slice a1 es.length c1) es ⟨pp,n.d,E==0⟩ V ((A8 Q10).2.next hV) (A8 HSC) (by have:=(A8 HCL).len;rw[(A8 HCE).2]at this;omega) (by have:=(A8 HCL).asc;rw[(A8 HCE).2]at this;exact this) ⟨hPl,by show n.d.length<=_;omega⟩).mono fun e w' h=>(show ∃a4 c4,e=.returned (.agg #[I0 cs,I0 t.z,.slice a4 (SE es ⟨pp,n.d,E==0⟩).length c4])/\Hid (BD w' V.heap.size (.slice a4 (SE es ⟨pp,n.d,E==0⟩).length c4) (SE es ⟨pp,n.d,E==0⟩))/\B0 V w' from by
      obtain⟨v',he,ho,hb⟩:=h;obtain⟨a4,c4,rfl⟩:=BN ho;exact⟨a4,c4,he,AA ho,hb⟩))
     unfold clV enV at C12;simp only at C12;generalize hkE:SE es ⟨pp,n.d,E==0⟩=es' at*;have HKE:=AA hkE;clear hkE;have x0:=(A8 Q10).1.c0;have x1:=(A8 Q10).1.c1;have x2:=(A8 Q10).1.c2;have n1:=(A8 N10).EO 1 _ rfl;obtain⟨⟨_,_,_,_,_,e5,_⟩,_,_,_,_,_,_⟩:=(A8 D10).cells;simp only at e5;go_wp2_with fail;refine(A8 C12 _ (Below.refl _ _)).mono ?_;rintro e w12 ⟨a4,c4,rfl,H12,CI8⟩;clear x0 x1 x2 n1 e5 C12;have hq10:=(A8 Q10).1.lt;have Q12:=(A8 Q10).1.next CI8;have x0:=Q12.c0;have x1:=Q12.c1;have x2:=Q12.c2;have y0:=Q12.fr 0;have y1:=Q12.fr 1;have y2:=Q12.fr 2;have D13:=AA (((A8 D10).next hk0 CI8).other (show W.heap.size+1<q by omega) (I0 cs) (I0 t.z) (.slice a4 es'.length c4));have N13:=AA ((((((A8 N10).QK CI8 (A8 N10).ltz).KJ (a:=⟨q,0,none⟩) (fun e=>hqn e.symm) (I0 cs)).KJ (a:=⟨q,1,none⟩) (fun e=>hqn e.symm) (I0 t.z)).KJ (a:=⟨q,2,none⟩) (fun e=>hqn e.symm) (.slice a4 es'.length c4)));have Q13:=AA (And.intro (((Q12.set0 (s':=cs)).set1 (z':=t.z)).set2 (v':=.slice a4 es'.length c4)) (((((A8 H12).KJ (k:=q) (j:=0) hq10 (I0 cs)).KJ (k:=q) (j:=1) hq10 (I0 t.z)).KJ (k:=q) (j:=2) hq10 (.slice a4 es'.length c4)).seq));have X13:=AA (fun hu=>((((A8 X10) hu).next CI8).far rfl hkq (OV w12 q 0 (I0 cs) (I0 t.z) (.slice a4 es'.length c4))).x);unfold nK at X13;obtain⟨P13,B42⟩:∃P:Pw,P=⟨p.n,GX p.s i (uY (p.s i) ⟨cs,1,pp⟩),p.r,p.c,p.D,p.H,p.h⟩:=⟨_,rfl⟩;have HF:Hid (R=(⟨E,t.z,n.p,n.d,n,[]⟩,⟨P13.n,P13.s,P13.r,GX P13.c c ⟨cs,t.z,es'⟩,P13.D,P13.H,P13.h⟩)):=AA (by rw[B42,<-A8 HR,if_neg (show ¬t.z<cz by omega),if_neg (by simp),if_neg (by simp)]);have HO:Hid (∀j,j<3->IK 300 (P13.s j)):=AA fun j hj=>by
      rw[B42];show IK 300 (GX p.s i (uY (p.s i) ⟨cs,1,pp⟩) j);by_cases e:j=i
      .subst e;rw[BP];exact BR4 (A8 HOK j hj) hu (by rw[(A8 HWS).2]) rfl (by have:=(A8 HCL).s;rw[(A8 HCE).1]at this;show 1<=cs/\cs<=16;omega)
      .rw[AP _ _ e];exact(A8 HOK j hj).more (by omega)
     replace X13:=AA (A8 X13 hu);rw[<-B42]at X13;have HZ:Hid ((svP i (P13.s i)).tr.z=t.z):=AA (by
      rw[B42];show (svP i (GX p.s i (uY (p.s i) ⟨cs,1,pp⟩) i)).tr.z=t.z;rw[BP,<-A8 HTS,D8 hu,D8 (p:=uY (p.s i) ⟨cs,1,pp⟩) hu];rfl)
     clear B42 Q12 D10 Q10 N10 X10 H12 CI8 HWS HAE HKE;go_upto_region 13 with fail;generalize ((w12.setCell _ _).setCell _ _).setCell _ _=W13 at*;clear x0 x1 x2 y0 y1 y2
    case' a0=>
     intro hwt;subst hwt;obtain⟨P13,B42⟩:∃P:Pw,P=p:=⟨_,rfl⟩;have HF:Hid (R=(⟨E,t.z,n.p,n.d,n,[]⟩,⟨P13.n,P13.s,P13.r,GX P13.c c ⟨cs,t.z,es⟩,P13.D,P13.H,P13.h⟩)):=AA (by rw[B42,<-A8 HR,if_neg (show ¬t.z<cz by omega),if_pos rfl]);have HO:Hid (∀j,j<3->IK 300 (P13.s j)):=AA fun j hj=>by rw[B42];exact(A8 HOK j hj).more (by omega)
     have X13:=AA (A8 X9).x;rw[<-B42]at X13;have D13:=AA ((A8 D9).dt k);have Q13:=Q9;have N13:=N9;have HZ:Hid ((svP i (P13.s i)).tr.z=t.z):=AA (by rw[B42,A8 HTS]);clear B42 X9 D9 Q9 N9;go_upto_region 13 with fail
    all_goals
     have x0:=(A8 Q13).1.c0;have x1:=(A8 Q13).1.c1;have x2:=(A8 Q13).1.c2;obtain⟨⟨_,e1,_,_,_,_,_⟩,_,_,_,_,_,_⟩:=(A8 D13).cells;simp only at e1;obtain⟨_,_,k0,k1,k2,_⟩:=(A8 X13).cl hc16;rw[Nat.mul_comm 3 c]at k0 k1 k2;have f0:=(A8 X13).AX (34+c*3);have f1:=(A8 X13).AX (34+c*3+1);have f2:=(A8 X13).AX (34+c*3+2);have hkl:=(A8 X13).lt;go_region;have X14:=AA (CI7 hc16 hk0 hkn (A8 X13) (A8 Q13).2 (A8 D13) (A8 N13) cs t.z);unfold nK at X14;clear x0 x1 x2 e1 k0 k1 k2 f0 f1 f2 hkl X13 D13 N13 Q13;generalize World.drew _=W14 at*;obtain⟨_,_,_,_,_,_,_,_,_,_,_,SS,_,_⟩:=(A8 X14).1.srv hi3 rfl;have D14:=AA (A8 X14).2;have k6:=SS.c6;simp only[Nat.mul_comm 10 i,A8 HZ]at k6;have n0:=(A8 D14).2.EO 0 _ rfl;have n1:=(A8 D14).2.EO 1 _ rfl;have n2:=(A8 D14).2.EO 2 _ rfl;have n3:=(A8 D14).2.EO 3 _ rfl;have n4:=(A8 D14).2.EO 4 _ rfl;have n5:=(A8 D14).2.EO 5 _ rfl;have n6:=(A8 D14).2.EO 6 _ rfl;have n7:=(A8 D14).2.EO 7 _ rfl;have n8:=(A8 D14).2.EO 8 _ rfl;have X1:=AA (BM8 (bW (kd:=2) (B:=W.heap.size+2) (r:=⟨E,t.z,n.p,n.d,n,[]⟩) (vn:=N0) (A8 D14).1.t (A8 D14).1.r (by omega) (by omega) (A8 X14).1 (A8 HO) (.inl ⟨rfl,rfl⟩) (by omega)));have b0:=(A8 D14).1.r.cells;have g0:=(A8 D14).1.r.AX;simp only[rpV,aS]at X1;clear SS X14 D14 HO HZ;go_upto_region 14 with fail;go_region;go_wp2_with fail;exact bodyPost_ret (v:=.agg #[I0 E,I0 t.z,S0 n.p,S0 n.d,I0 n.c,I0 n.m,I0 n.q,I0 n.v,I0 n.k,I0 n.o,I0 n.n,N0]) (by simp[results,results77,go_sem,b0]) rfl (by rw[A8 HF];exact A8 X1)
