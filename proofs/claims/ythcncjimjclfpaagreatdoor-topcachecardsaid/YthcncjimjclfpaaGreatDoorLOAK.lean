/-
  Part.
-/
import Derived.Test.YthcncjimjclfpaaGreatDoorLOAJ
set_option maxRecDepth 20000
set_option maxHeartbeats 8000000
namespace Go.Proofs.YthcncjimjclfpaaGreatDoor
open Go.RowKit Go.Proofs.Tryz
open _root_.Nat renaming le_refl->A8,lt_of_lt_of_le->AX,zero_add->BI,le_trans->BM
open Go.RowKit.Below renaming refl->AA
open _root_.Array renaming getElem?_eq_some_iff->AB
open Go.World renaming cell?->AV,frozen?->F7
open _root_.List renaming mem_of_getElem?->AZ,take_of_length_le->BL
open Go.Value renaming slice->FQ
open Go.Obj renaming cells->FT
open _root_.Option renaming none->FX,some->FZ
open Go.WideMaps Go.ChangeMaps Go.MapKept Go.Maps
theorem AS3{W:World}{F:Nat->Prop}{I:Nat->Nat->World->Prop}(K:CG7 W F I)(c1 c2:Nat)(ds:List Dd)(v:Value)(hv:∀V,Touch F W V->IQ V v ds)(hm:∀d∈ds,d.q.p.length<=140737488355328/\d.q.d.length<=140737488355328)(hT:ZG W)(h0:∀k,I k 0 W)
  (L:∀k V i d u,ds[i]?=FZ d->WX V k (doP (TV (pw0 k) (ds.take i)) d).2->GZ V (k+1) u (doP (TV (pw0 k) (ds.take i)) d).1.ns->W.heap.size<=k->I k i V->Calls prog 6 #[wP k,ddV d,rpV (doP (TV (pw0 k) (ds.take i)) d).1 u,P0 c1,P0 c2] V fun e w'=>e=.returned (.bool true)/\Touch F V w'/\WX w' k (doP (TV (pw0 k) (ds.take i)) d).2/\I k (i+1) w'):
  Calls prog 5 #[v,.func (.func 6) #[] #[P0 c1,P0 c2]] W fun e w'=>∃k,e=.returned (.tuple #[wP k,.bool true])/\A69 W k F (TV (pw0 k) (ds.take 100)) (I k (min ds.length 100)) w':=by
 have HK0:=G6 K;have HV:=G6 hv;have HM:=G6 hm;have HT:=G6 hT;have HL:=G6 L;have CA:=G6 (fun V hV=>BE1 V hV);have CN:=G6 (fun V=>BD8 V);obtain⟨va,vc,rfl⟩:=GK (hv W (Touch.refl _ _));have HQ0:=G6 h0;clear hv hm hT L h0 K;go_enter func5,ntmps5;go_wp2_with fail;refine(G5 CA _ (G5 HT)).mono ?_;rintro e w1 ⟨rfl,hb1⟩;have B1:=G6 hb1;clear hb1 CA;go_wp2_with fail;refine(G5 CN _).mono ?_;rintro e w2 ⟨rfl,hx2,hb2⟩;have H0:=G6 (A69.start (G5 HK0) (G5 HT) (G5 B1) hb2 hx2 (G5 HQ0 w1.heap.size));clear hb2 hx2 B1 HT CN HQ0;generalize w1.heap.size=k at*;unfold wP;go_wp2_with fail
 go_loopg [7] (min ds.length 100) (fun kx s7 wr=>∃i:Nat,s7=I0 i/\i<=min ds.length 100/\min ds.length 100-i<=kx/\Hid (A69 W k F (TV (pw0 k) (ds.take i)) (I k i) wr))
 case atStart=>exact⟨0,rfl,by omega,by omega,H0⟩
 case round=>
  obtain⟨i,rfl,hi,hg,HI⟩:=hrel;by_cases hlt:i<ds.length
  .by_cases hlh:i<100
   .have hl1:(i:Int)<(ds.length:Int):=by omega
    have hl2:(i:Int)<100:=by omega
    obtain⟨d,hd⟩:∃d,ds[i]?=FZ d:=⟨_,List.getElem?_eq_getElem hlt⟩;obtain⟨b,off,cap,he,hb,_,_,_,_⟩:=oZ (G5 HV W (Touch.refl _ _)) hd;simp only[Value.slice.injEq,true_and]at he;obtain⟨rfl,rfl⟩:=he;have HC:=G6 (fun V (hV:Touch F W V)=>CR7 (G5 HV V hV) hd);have hmd:=G5 HM d (AZ hd);have CD:=G6 (BD6 (TV (pw0 k) (ds.take i)) d k wr (G5 HI).x (C05 _ _) (G5 HI).t (lK _ _ (YG k)) hmd.1 hmd.2);have CK0:=G6 (fun V u=>G5 HL k V i d u hd);have HS:=G6 (yS (pw0 k) hd);obtain⟨⟨e0,e1,e2,e3,e4,e5,e6⟩,e7,e8,e9,e10,e11,e12⟩:=G5 HC wr (G5 HI).b;have hmin:i+1<=min ds.length 100:=by omega
    clear hmd hd;unfold wP ddV at CD;generalize hx0:doP (TV (pw0 k) (ds.take i)) d=x0 at*;obtain⟨r,y⟩:=x0;clear hx0;simp only at CK0 HS;go_wp2_with fail;refine(G5 CD).mono ?_;rintro e w3 ⟨u,rfl,ho,ht,hx⟩;have hsz:=ht.size;obtain⟨na,nc,rfl⟩:=IK ho;have R2:Hid (RpX (w3.alloc (FT #[I0 r.E,I0 r.z,S0 r.p,S0 r.d,I0 r.t.c,I0 r.t.m,I0 r.t.q,I0 r.t.v,I0 r.t.k,I0 r.t.o,I0 r.t.n,FQ na r.ns.length nc] 37)) w3.heap.size r (FQ na r.ns.length nc)):=G6 (heap_alloc_last _ _);have HN:=G6 (((G5 HI).turn (G5 HK0) ht hx).next (G5 HK0) (G7 w3 (FT #[I0 r.E,I0 r.z,S0 r.p,S0 r.d,I0 r.t.c,I0 r.t.m,I0 r.t.q,I0 r.t.v,I0 r.t.k,I0 r.t.o,I0 r.t.n,FQ na r.ns.length nc] 37)));have HO:=G6 ((ho.lower (C:=k+1) (G5 HI).x.lt).next (G7 w3 (FT #[I0 r.E,I0 r.z,S0 r.p,S0 r.d,I0 r.t.c,I0 r.t.m,I0 r.t.q,I0 r.t.v,I0 r.t.k,I0 r.t.o,I0 r.t.n,FQ na r.ns.length nc] 37)));rw[<-G5 HS]at HN;clear e0 e1 e2 e3 e4 e5 e6 e7 e8 e9 e10 e11 e12 ho ht CD;unfold rpV;go_upto_region 8 with fail;generalize w3.alloc _=W2 at*;have hcq:W.heap.size<=w3.heap.size:=BM (G5 HI).b.size hsz;generalize w3.heap.size=q at*;have HKS:Hid (∀V,Touch F W2 V->V.cell? ⟨b,off+i*13,FX⟩=FZ (I0 d.k)/\V.cell? ⟨b,off+i*13+1,FX⟩=FZ (I0 d.c)/\V.cell? ⟨b,off+i*13+2,FX⟩=FZ (I0 d.s)/\V.cell? ⟨b,off+i*13+3,FX⟩=FZ (I0 d.q.o)/\V.cell? ⟨b,off+i*13+4,FX⟩=FZ (I0 d.q.s)/\V.cell? ⟨b,off+i*13+5,FX⟩=FZ (S0 d.q.p)/\V.cell? ⟨b,off+i*13+6,FX⟩=FZ (S0 d.q.d)/\V.cell? ⟨b,off+i*13+7,FX⟩=FZ (I0 d.q.v)/\V.cell? ⟨b,off+i*13+8,FX⟩=FZ (I0 d.q.f)/\V.cell? ⟨b,off+i*13+9,FX⟩=FZ (I0 d.lo)/\V.cell? ⟨b,off+i*13+10,FX⟩=FZ (I0 d.sl)/\V.cell? ⟨b,off+i*13+11,FX⟩=FZ (I0 d.ke)/\V.cell? ⟨b,off+i*13+12,FX⟩=FZ (.bool d.wt)/\V.cell? ⟨q,0,FX⟩=FZ (I0 r.E)/\V.cell? ⟨q,1,FX⟩=FZ (I0 r.z)/\V.cell? ⟨q,2,FX⟩=FZ (S0 r.p)/\V.cell? ⟨q,3,FX⟩=FZ (S0 r.d)/\V.cell? ⟨q,4,FX⟩=FZ (I0 r.t.c)/\V.cell? ⟨q,5,FX⟩=FZ (I0 r.t.m)/\V.cell? ⟨q,6,FX⟩=FZ (I0 r.t.q)/\V.cell? ⟨q,7,FX⟩=FZ (I0 r.t.v)/\V.cell? ⟨q,8,FX⟩=FZ (I0 r.t.k)/\V.cell? ⟨q,9,FX⟩=FZ (I0 r.t.o)/\V.cell? ⟨q,10,FX⟩=FZ (I0 r.t.n)/\V.cell? ⟨q,11,FX⟩=FZ (FQ na r.ns.length nc)):=G6 fun V hV=>by
     obtain⟨⟨e0,e1,e2,e3,e4,e5,e6⟩,e7,e8,e9,e10,e11,e12⟩:=G5 HC V ((G5 HN).b.trans hV);obtain⟨r0,r1,r2,r3,r4,r5,r6,r7,r8,r9,r10,r11⟩:=RpX.cells (W:=V) ((hV.block q (G5 R2).lt (fun hf=>absurd ((G5 HK0).lt q hf) (by omega))).trans (G5 R2));exact⟨e0,e1,e2,e3,e4,e5,e6,e7,e8,e9,e10,e11,e12,r0,r1,r2,r3,r4,r5,r6,r7,r8,r9,r10,r11⟩
    have CK:=G6 (fun V (hV:B0 W2 V)=>G5 CK0 V (FQ na r.ns.length nc) (by have:=((G5 HN).next (G5 HK0) hV).x;rw[G5 HS]at this;exact this) ((G5 HO).next hV) (G5 HN).kl ((G5 HN).next (G5 HK0) hV).i);unfold wP ddV rpV at CK;clear CK0 HO R2 HC hx HI;have hS0:=G5 HKS _ (Touch.of_below (AA W2.heap.size W2).drew);refine wp_region_held (S:=fun V:World=>V.cell? ⟨b,off+i*13,FX⟩=FZ (I0 d.k)/\V.cell? ⟨b,off+i*13+1,FX⟩=FZ (I0 d.c)/\V.cell? ⟨b,off+i*13+2,FX⟩=FZ (I0 d.s)/\V.cell? ⟨b,off+i*13+3,FX⟩=FZ (I0 d.q.o)/\V.cell? ⟨b,off+i*13+4,FX⟩=FZ (I0 d.q.s)/\V.cell? ⟨b,off+i*13+5,FX⟩=FZ (S0 d.q.p)/\V.cell? ⟨b,off+i*13+6,FX⟩=FZ (S0 d.q.d)/\V.cell? ⟨b,off+i*13+7,FX⟩=FZ (I0 d.q.v)/\V.cell? ⟨b,off+i*13+8,FX⟩=FZ (I0 d.q.f)/\V.cell? ⟨b,off+i*13+9,FX⟩=FZ (I0 d.lo)/\V.cell? ⟨b,off+i*13+10,FX⟩=FZ (I0 d.sl)/\V.cell? ⟨b,off+i*13+11,FX⟩=FZ (I0 d.ke)/\V.cell? ⟨b,off+i*13+12,FX⟩=FZ (.bool d.wt)/\V.cell? ⟨q,0,FX⟩=FZ (I0 r.E)/\V.cell? ⟨q,1,FX⟩=FZ (I0 r.z)/\V.cell? ⟨q,2,FX⟩=FZ (S0 r.p)/\V.cell? ⟨q,3,FX⟩=FZ (S0 r.d)/\V.cell? ⟨q,4,FX⟩=FZ (I0 r.t.c)/\V.cell? ⟨q,5,FX⟩=FZ (I0 r.t.m)/\V.cell? ⟨q,6,FX⟩=FZ (I0 r.t.q)/\V.cell? ⟨q,7,FX⟩=FZ (I0 r.t.v)/\V.cell? ⟨q,8,FX⟩=FZ (I0 r.t.k)/\V.cell? ⟨q,9,FX⟩=FZ (I0 r.t.o)/\V.cell? ⟨q,10,FX⟩=FZ (I0 r.t.n)/\V.cell? ⟨q,11,FX⟩=FZ (FQ na r.ns.length nc)) (by kernel_rfl) ?_;change wpAnyH _ _ _ _ _ _ _ _ W2.drew;refine tkH 0 hS0 ?_;refine tkH 1 hS0 ?_;refine tkH 2 hS0 ?_;refine tkH 3 hS0 ?_;refine tkH 4 hS0 ?_;refine tkH 5 hS0 ?_;refine tkH 6 hS0 ?_;refine rd1 7 (fun K hK=>?_);go_simp;refine(G5 CK _ (AA _ _).drew).mono ?_;rintro e w3 ⟨rfl,ht3,hx3,ho3⟩;have HB:=G6 (And.intro ((Touch.of_below (F:=F) (AA W2.heap.size W2).drew).trans ht3) (And.intro hx3 ho3));have hS1:=G5 HKS _ (G5 HB).1;clear ht3 hx3 ho3;refine nxH hK hS1 ?_;clear hK K;refine tkH 8 hS1 ?_;refine wpAnyH_done (by kernel_rfl) ?_ _;go_wp2_with fail
    go_roundg (min ds.length 100-(i+1))
    case measure=>omega
    case rel=>exact⟨i+1,by simp,by omega,A8 _,G6 (A69.look (G5 HK0) (G5 HN) (G5 HB).1 (by rw[G5 HS];exact(G5 HB).2.1) (G5 HB).2.2)⟩
   .obtain rfl:i=100:=by omega
    have hl1:((100:Nat):Int)<(ds.length:Int):=by omega
    have HF:=HI;clear HI;go_wp2_with fail;exact bodyPost_ret (v:=.tuple #[P0 k,.bool true]) (by simp[results,results5,go_sem]) rfl ⟨k,rfl,by rw[Nat.min_eq_right (by omega:100<=ds.length)];exact G5 HF⟩
  .obtain rfl:i=ds.length:=by omega
   have HF:=HI;have hle:ds.length<=100:=by omega
   rw[show ds.take ds.length=ds.take 100 by rw[BL (A8 _),BL hle]]at HF;clear HI;go_wp2_with fail;exact bodyPost_ret (v:=.tuple #[P0 k,.bool true]) (by simp[results,results5,go_sem]) rfl ⟨k,rfl,by rw[Nat.min_eq_left hle];exact G5 HF⟩
theorem C06{W:World}{b:Nat}(e:En)(h:W.heap[b]?=FZ (FT #[.string ⟨#[]⟩,.string ⟨#[]⟩,.bool false] 41 (0,0))):JG (((W.setCell ⟨b,0,FX⟩ (S0 e.p)).setCell ⟨b,1,FX⟩ (S0 e.d)).setCell ⟨b,2,FX⟩ (.bool e.t)) b e:=by
 unfold JG;rw[GL _ (GL _ (GL _ h))];simp;exact⟨rfl,rfl⟩
theorem BE8(w:World):(zeroValue 4).run prog w=.ok (.bool false) w:=by kernel_rfl
theorem AS4(p:Pw)(d:Dd)(k c1 c2 m1 m2:Nat)(u:Value)(V:World)(cls:Int->Prop)(h:QY p)(hdc: -9223372036854775808<=d.c/\d.c<=9223372036854775807)(hdl:d.q.p.length<=140737488355328)(hx:WX V k (doP p d).2)(hu:GZ V (k+1) u (doP p d).1.ns)(A:Apt c1 c2 m1 m2 k)(hI:BF4 c1 c2 m1 m2 p cls V):
  Calls prog 6 #[wP k,ddV d,rpV (doP p d).1 u,P0 c1,P0 c2] V fun e w'=>e=.returned (.bool true)/\Touch (CE6 c1 c2 m1 m2) V w'/\WX w' k (doP p d).2/\BF4 c1 c2 m1 m2 (doP p d).2 (uF cls d) w':=by
 have hw:=lJ d h;have HS:=G6 (fun(x:MapEntry) (hx:BV9 p cls x) h2 h3=>BE5 (d:=d) h hI.hh hx h2 h3);have HR:=G6 (fun hk hw hE (x:MapEntry) ek ev=>BW0 (cls:=cls) (x:=x) h hdl hk hw hE ek ev);have HH:=G6 (B92 (d:=d) h hI.hh);have HD:=G6 (And.intro hdc hdl);generalize doP p d=x at*;obtain⟨r,q⟩:=x;simp only at hx hw hu HS HR HH⊢;obtain⟨na,nc,rfl⟩:=IK hu;have B0:=G6 (LB.start V d r (FQ na r.ns.length nc));have HW0:=G6 hw;have HI:=G6 hI;have hX:=G6 hx;have hA:=G6 A;clear hI hx hw h hu A hdc hdl;unfold wP ddV rpV;go_enter func6,ntmps6;go_upto_region 1 with fail;generalize ((V.alloc _).alloc _)=W0 at*;have dr:=(G5 B0).d.row;simp only[BI]at dr;have d0:W0.cell? ⟨V.heap.size,0,FX⟩=FZ (I0 d.k):=dr 0 _ rfl;have d1:W0.cell? ⟨V.heap.size,1,FX⟩=FZ (I0 d.c):=dr 1 _ rfl;have d2:W0.cell? ⟨V.heap.size,2,FX⟩=FZ (I0 d.s):=dr 2 _ rfl;have d3:W0.cell? ⟨V.heap.size,3,FX⟩=FZ (I0 d.q.o):=dr 3 _ rfl;have d5:W0.cell? ⟨V.heap.size,5,FX⟩=FZ (S0 d.q.p):=dr 5 _ rfl;have d12:W0.cell? ⟨V.heap.size,12,FX⟩=FZ (.bool d.wt):=dr 12 _ rfl;obtain⟨r0,_,_,_,_,_,_,_,_,_,_,_⟩:=(G5 B0).r.cells;have HI0:=G6 ((G5 HI).next (G5 B0).b);have X0:=G6 ((G5 hX).next (G5 B0).b);have T0:=G6 (Touch.of_below (F:=CE6 c1 c2 m1 m2) (G5 B0).b);have hlt:=(G5 B0).d.ltz;have hlr:=(G5 B0).r.lt;have hV0:=(G5 X0).lt;have hVk:=(G5 hX).lt;have k1:W0.cell? ⟨c1,0,FX⟩=FZ (.map (FZ m1)):=by simp[AV,(G5 HI0).b1]
 have k2:W0.cell? ⟨c2,0,FX⟩=FZ (.map (FZ m2)):=by simp[AV,(G5 HI0).b2]
 clear dr HI hX B0
 go_upto_block 0 with fail
 go_cut [18]from 9 to 70 (fun t18 wx=>t18=I0 d.k/\Hid (BE6 c1 c2 m1 m2 k q (uF cls d) V wx))
 case first=>
  have stay:Hid ((¬ (d.k=2/\d.wt=true/\(r.E=0\/r.E=7)))->(¬ (d.k=3/\r.E=0))->(¬ (d.k=1/\d.q.o=2))->BE6 c1 c2 m1 m2 k q (uF cls d) V W0):=G6 fun a b c=>by
   obtain⟨es,cl,f1,f2⟩:=(G5 HI0).fr;obtain⟨fs,dl,g1,g2⟩:=(G5 HI0).co;exact⟨G5 T0,G5 X0,(G5 HI0).b1,(G5 HI0).b2,⟨es,cl,f1,fun x hx=>G5 HS x (f2 x hx) (.inl a) (.inl b)⟩,⟨fs,dl,g1,tK g2 c⟩,G5 HH⟩
  by_cases hk2:d.k=2
  .have hb2:(d.k==2)=true:=by simp[hk2]
   have HK2:=G6 hk2;clear hk2;by_cases hwt:d.wt=true
   case neg=>
    have hwf:d.wt=false:=by simpa using hwt
    rw[hwf]at d12;clear hwf;have hst:=G5 stay (by simp[hwt]) (by rw[G5 HK2];simp) (by rw[G5 HK2];simp);clear stay hwt;go_wp2_with fail
    go_meet
    exact⟨rfl,G6 hst⟩
   case pos=>
    rw[hwt]at d12;have HWT:=G6 hwt;clear hwt;have no:¬ (r.E=0\/r.E=7)->BE6 c1 c2 m1 m2 k q (uF cls d) V W0:=fun hne=>G5 stay (by rintro⟨_,_,e⟩;exact hne e) (by rw[G5 HK2];simp) (by rw[G5 HK2];simp);have yes:(r.E=0\/r.E=7)->∃es cl,(Instr.mapUpdate 23 (.map (FZ m1)) (.agg #[I0 d.c,S0 d.q.p]) (I0 d.s)).run prog W0=.ok () (Go.ChangeMaps.setBlock W0 m1 (.map es cl))/\BE6 c1 c2 m1 m2 k q (uF cls d) V (Go.ChangeMaps.setBlock W0 m1 (.map es cl)):=fun hE=>by
     obtain⟨es,cl,f1,f2⟩:=(G5 HI0).fr;obtain⟨fs,dl,g1,g2⟩:=(G5 HI0).co;obtain⟨kl,hkl⟩:=tH d.c d.q.p (G5 HD).1 (G5 HD).2;obtain⟨es',cl',e1,e2,e3⟩:=f1.put (vx:=I0 d.s) BE4 underlying23 (tJ f2) hkl;refine⟨es',cl',e1,BE7 (G5 hA) (G5 T0) (G5 X0) (G5 HI0).b1 (G5 HI0).b2 f1 ⟨fs,dl,g1,tK g2 (by rw[G5 HK2];simp)⟩ (G5 HH) (yT W0 m1 _) e2 fun x hx=>?_⟩;rcases e3.old x hx with⟨a1,a2⟩|⟨a1,a2⟩
     .exact G5 HS x (f2 x a1) (.inr a2) (.inl (by rw[G5 HK2];simp))
     .exact G5 HR (G5 HK2) (G5 HWT) hE x a1 a2
    clear stay;by_cases hE0:r.E=0
    .obtain⟨es,cl,hrun,hst⟩:=yes (.inl hE0);have hbe:(r.E==0)=true:=by simp[hE0]
     have HST:=G6 hst;clear hE0 yes no hst;go_wp2_with fail
     go_meet
     exact⟨rfl,HST⟩
    .have hbe:(r.E==0)=false:=by simpa using hE0
     by_cases hE7:r.E=7
     .obtain⟨es,cl,hrun,hst⟩:=yes (.inr hE7);have hbe7:(r.E==7)=true:=by simp[hE7]
      have HST:=G6 hst;clear hE0 hE7 yes no hst;go_wp2_with fail
      go_meet
      exact⟨rfl,HST⟩
     .have hbe7:(r.E==7)=false:=by simpa using hE7
      have HST:=G6 (no (by omega));clear hE0 hE7 yes no;go_wp2_with fail
      go_meet
      exact⟨rfl,HST⟩
  .have hb2:(d.k==2)=false:=by simpa using hk2
   by_cases hk3:d.k=3
   .have hb3:(d.k==3)=true:=by simp[hk3]
    have HK3:=G6 hk3;clear hk2 hk3;obtain⟨es0,cl0,f1,f2⟩:=(G5 HI0).fr;have HF2:=G6 f2;have HF1:=G6 f1;clear f2;go_wp2_with (first
     |(at_range;refine bM _ rfl _ _ rfl _ _ underlying23 m1 rfl f1 ?_;intro w0 hr0)
     |fail)
    go_frame
    clear f1;by_cases hE0:r.E=0
    .have hbe:(r.E==0)=true:=by simp[hE0]
     have HE0:=G6 hE0;clear hE0
     go_loopw [10] (fun _ wr=>∃es seen,Hid (SkI (BV9 p cls) d.s m1 W0.heap.size W0 wr es seen)) (fun _ wr=>wr.rangeLeft m1 W0.heap.size)
     case atStart=>exact⟨es0,#[],G6 ⟨hr0.g,Touch.of_below hr0.b,G5 HF2,fun x _ hs=>by simp at hs⟩⟩
     case round=>
      obtain⟨es,seen,HST⟩:=hrel;clear hr0;have hrg:=(G5 HST).g;go_wp2_with (first
       |(at_next;refine XL _ rfl _ rfl m1 W0.heap.size rfl hrg ?_ ?_)
       |fail)
      .intro h0;have CF0:=G6 (BE7 (G5 hA) (G5 T0) (G5 X0) (G5 HI0).b1 (G5 HI0).b2 (G5 HF1) (by
        obtain⟨fs,dl,g1,g2⟩:=(G5 HI0).co;exact⟨fs,dl,g1,tK g2 (by rw[G5 HK3];simp)⟩) (G5 HH) (G5 HST).t (G5 HST).g.m.choose_spec.1 fun x hx=>G5 HS x ((G5 HST).p x hx) (.inl (by rw[G5 HK3];simp)) (.inr ((G5 HST).s x hx (all_seen es seen h0.h x hx))))
       clear stay h0 hrg;go_wp2_with fail
       go_meet
       exact⟨rfl,CF0⟩
      .intro x w1 hmo hen;have hx:=hmo.hx;have hrg1:=hmo.g;have ht1:=hmo.t;have T1:Touch (· =m1) W0 w1:=qA (G5 HST).t (A8 _) ht1;obtain⟨c,l,s,hc,hs,hl,ek,ev,hq⟩:=(G5 HST).p x hx;have HKY:=G6 (tH c l (by omega) hl);have HKS:=G6 (tJ (fun y hy=>(G5 HST).p y hy));have HIT:=G6 hmo;rw[ek,ev]at hen⊢;unfold BE3 at hen⊢;have old:∀j,V.heap.size<=j->j<W0.heap.size->w1.heap[j]?=W0.heap[j]? :=fun j h1 h2=>T1.block j h2 (by have:=(G5 hA).k3;omega);have e0:w1.cell? ⟨V.heap.size,2,FX⟩=FZ (I0 d.s):=by rw[AV,old _ (A8 _) hlt];exact d2
       have e1:w1.cell? ⟨V.heap.size+1,0,FX⟩=FZ (I0 r.E):=by rw[AV,old _ (Nat.le_succ _) hlr];exact r0
       have e2:w1.cell? ⟨c1,0,FX⟩=FZ (.map (FZ m1)):=by
        have hcl:=(AB.1 (G5 HI0).b1).1;rw[AV,T1.block c1 hcl (G5 hA).b];exact k1
       clear d0 d1 d2 d3 d5 d12 r0 k1 k2 old hx ht1 hmo stay;go_upto_region 9 with fail;have A2:=G7 w1 (FT #[I0 (c:Nat),S0 l] 39);have K0:(w1.alloc (FT #[I0 (c:Nat),S0 l] 39)).heap[w1.heap.size]?=FZ (FT #[I0 (c:Nat),S0 l] 39 (0,0)):=heap_alloc_new w1 _;have T2:=G6 (T1.trans (Touch.of_below A2));have hrg2:=hrg1.next A2;have h1l:V.heap.size<w1.heap.size:=AX hlt T1.size;have h2l:V.heap.size+1<w1.heap.size:=AX hlr T1.size;have h3l:c1<w1.heap.size:=by have:=(G5 hA).k1;omega
       have f0:=(A2.cell (p:=⟨V.heap.size,2,FX⟩) h1l).trans e0;have f1:=(A2.cell (p:=⟨V.heap.size+1,0,FX⟩) h2l).trans e1;have f2:=(A2.cell (p:=⟨c1,0,FX⟩) h3l).trans e2;clear e0 e1 e2 A2 hrg1 T1 h1l h2l h3l;generalize w1.alloc _=W2 at*;generalize w1.heap.size=g at*;have g0:W2.cell? ⟨g,0,FX⟩=FZ (I0 (c:Nat)):=by simp[AV,K0]
       have g1:W2.cell? ⟨g,1,FX⟩=FZ (S0 l):=by simp[AV,K0]
       clear K0;by_cases hsd:(s:Int)=d.s
       .have hbs:((s:Int)==d.s)=true:=by simp[hsd]
        clear hsd;obtain⟨kl,hkl⟩:=G5 HKY;unfold BE3 at hkl;go_wp2_with (first
         |(at_delete;refine nC _ rfl _ _ 23 39 rfl 3 BE4 underlying23 m1 W0.heap.size rfl hrg2 (G5 HKS) _ kl rfl hkl ?_;intro w3 es' h3;go_frame)
         |fail)
        go_roundw
        case rel=>exact⟨es',_,G6 ((G5 HST).struck (G5 HIT).hx h3.g ((G5 T2).trans h3.t) h3.s (fun y hy=>by rw[ek];exact h3.k y hy))⟩
        case measure=>
         rw[h3.g.left_eq,hrg.left_eq];exact Nat.lt_of_le_of_lt (BR5 _ h3.s) (G5 HIT).l
       .have hbs:((s:Int)==d.s)=false:=by simpa using hsd
        have HSD:=G6 hsd;clear hsd;go_wp2_with fail
        go_roundw
        case rel=>exact⟨es,_,G6 ((G5 HST).kept (G5 HIT).hx hrg2 (G5 T2) (by rw[ev];simpa using G5 HSD))⟩
        case measure=>rw[hrg2.left_eq,hrg.left_eq];exact(G5 HIT).l
    .have hbe:(r.E==0)=false:=by simpa using hE0
     have HNE:=G6 hE0;clear hE0
     go_loopw [10] (fun _ wr=>∃seen,Hid (ZK wr m1 W0.heap.size es0 seen/\B0 W0 wr)) (fun _ wr=>wr.rangeLeft m1 W0.heap.size)
     case atStart=>exact⟨#[],G6 ⟨hr0.g,hr0.b⟩⟩
     case round=>
      obtain⟨seen,HST⟩:=hrel;clear hr0;have hrg:=(G5 HST).1;go_wp2_with (first
       |(at_next;refine XL _ rfl _ rfl m1 W0.heap.size rfl hrg ?_ ?_)
       |fail)
      .intro h0;have CF0:=G6 (BE6.next (G5 stay (by rw[G5 HK3];simp) (by simp[G5 HNE]) (by rw[G5 HK3];simp)) (G5 HST).2);clear stay h0 hrg;go_wp2_with fail
       go_meet
       exact⟨rfl,CF0⟩
      .intro x w1 hmo hen;have hx:=hmo.hx;have hrg1:=hmo.g;have ht1:=hmo.t;have T1:Touch (· =m1) W0 w1:=qA (Touch.of_below (G5 HST).2) (A8 _) ht1;obtain⟨c,l,s,hc,hs,hl,ek,ev,hq⟩:=G5 HF2 x hx;have HKY:=G6 (tH c l (by omega) hl);have HKS:=G6 (tJ (fun y hy=>G5 HF2 y hy));have HIT:=G6 hmo;rw[ek,ev]at hen⊢;unfold BE3 at hen⊢;have old:∀j,V.heap.size<=j->j<W0.heap.size->w1.heap[j]?=W0.heap[j]? :=fun j h1 h2=>T1.block j h2 (by have:=(G5 hA).k3;omega);have e0:w1.cell? ⟨V.heap.size,2,FX⟩=FZ (I0 d.s):=by rw[AV,old _ (A8 _) hlt];exact d2
       have e1:w1.cell? ⟨V.heap.size+1,0,FX⟩=FZ (I0 r.E):=by rw[AV,old _ (Nat.le_succ _) hlr];exact r0
       have e2:w1.cell? ⟨c1,0,FX⟩=FZ (.map (FZ m1)):=by
        have hcl:=(AB.1 (G5 HI0).b1).1;rw[AV,T1.block c1 hcl (G5 hA).b];exact k1
       clear d0 d1 d2 d3 d5 d12 r0 k1 k2 old hx ht1 hmo stay;go_upto_region 9 with fail;have A2:=G7 w1 (FT #[I0 (c:Nat),S0 l] 39);have hrg2:=hrg1.next A2;have HB2:=G6 (((G5 HST).2.trans ((G5 HIT).t.below (BM (A8 _) (G5 HST).2.size) (fun j e=>by omega))).trans (A2.mono (BM (G5 HST).2.size (G5 HIT).t.size)));have h1l:V.heap.size<w1.heap.size:=AX hlt T1.size;have h2l:V.heap.size+1<w1.heap.size:=AX hlr T1.size;have f0:=(A2.cell (p:=⟨V.heap.size,2,FX⟩) h1l).trans e0;have f1:=(A2.cell (p:=⟨V.heap.size+1,0,FX⟩) h2l).trans e1;clear e0 e1 e2 A2 hrg1 T1 h1l h2l;generalize w1.alloc _=W2 at*;generalize w1.heap.size=g at*;have hbs:∃f,((s:Int)==d.s)=f:=⟨_,rfl⟩;obtain⟨f,hbs⟩:=hbs
       cases f<;>
       .go_wp2_with fail
        go_roundw
        case rel=>exact⟨_,G6 ⟨hrg2,G5 HB2⟩⟩
        case measure=>rw[hrg2.left_eq,hrg.left_eq];exact(G5 HIT).l
   .have hb3:(d.k==3)=false:=by simpa using hk3
    by_cases hk1:d.k=1
    .have hb1:(d.k==1)=true:=by simp[hk1]
     by_cases ho:d.q.o=2
     .have hbo:(d.q.o==2)=true:=by simp[ho]
      have yes:∃es cl,(Instr.mapUpdate 24 (.map (FZ m2)) (I0 d.c) (.bool true)).run prog W0=.ok () (Go.ChangeMaps.setBlock W0 m2 (.map es cl))/\BE6 c1 c2 m1 m2 k q (uF cls d) V (Go.ChangeMaps.setBlock W0 m2 (.map es cl)):=by
       obtain⟨es,cl,f1,f2⟩:=(G5 HI0).fr;obtain⟨fs,dl,g1,g2⟩:=(G5 HI0).co;obtain⟨es',cl',e1,e2,e3⟩:=g1.put (vx:=.bool true) BE2 underlying24 (AH0 g2.1) (Go.Maps.keyOf_int_mk underlying3 (WalkArith.wf_i64 (n:=d.c) (by have:=(G5 HD).1;omega)));exact⟨es',cl',e1,CE8 (G5 hA) (G5 T0) (G5 X0) (G5 HI0).b1 (G5 HI0).b2 g1 ⟨es,cl,f1,fun x hx=>G5 HS x (f2 x hx) (.inl (by simp[hk1])) (.inl (by simp[hk1]))⟩ (G5 HH) (yT W0 m2 _) e2 (CE7 g2 (G5 HD).1 e3)⟩
      obtain⟨es,cl,hrun,hst⟩:=yes;have HST:=G6 hst;clear stay hst hk1 hk2 hk3 ho;go_wp2_with fail
      go_meet
      exact⟨rfl,HST⟩
     .have hbo:(d.q.o==2)=false:=by simpa using ho
      have HST:=G6 (G5 stay (by simp[hk1]) (by simp[hk1]) (by simp[ho]));clear stay hk1 hk2 hk3 ho;go_wp2_with fail
      go_meet
      exact⟨rfl,HST⟩
    .have hb1:(d.k==1)=false:=by simpa using hk1
     have HST:=G6 (G5 stay (by simp[hk2]) (by simp[hk3]) (by simp[hk1]));clear stay hk1 hk2 hk3;go_wp2_with fail
     go_meet
     exact⟨rfl,HST⟩
 case rest=>
  obtain⟨rfl,HC⟩:=hcut;clear HS HR HH HI0 X0 T0 d0 d1 d2 d3 d5 d12 r0 k1 k2 hlt hlr hV0 hVk HD;generalize wc=Vs at*;obtain⟨es,cl,f1,f2⟩:=(G5 HC).i.fr;have k1:Vs.cell? ⟨c1,0,FX⟩=FZ (.map (FZ m1)):=by simp[AV,(G5 HC).i.b1]
  have HF2:=G6 f2;clear f2;go_wp2_with (first
   |(at_range;refine bM _ rfl _ _ rfl _ _ underlying23 m1 rfl f1 ?_;intro w0 hr0)
   |fail)
  go_frame
  clear f1 k1
  go_loopw [12] (fun _ wr=>∃seen,Hid (ZK wr m1 Vs.heap.size es seen/\B0 Vs wr)) (fun _ wr=>wr.rangeLeft m1 Vs.heap.size)
  case atStart=>exact⟨#[],G6 ⟨hr0.g,hr0.b⟩⟩
  case round=>
   obtain⟨seen,HST⟩:=hrel;clear hr0;have hrg:=(G5 HST).1;go_wp2_with (first
    |(at_next;refine XL _ rfl _ rfl m1 Vs.heap.size rfl hrg ?_ ?_)
    |fail)
   .intro h0;have CF0:=G6 ((G5 HC).next (G5 HST).2);clear h0 hrg;go_wp2_with fail;go_ret;exact⟨rfl,(G5 CF0).t,(G5 CF0).x,(G5 CF0).i⟩
   .intro x w1 hmo hen;obtain⟨c,l,s,hc,hs,hl,ek,ev,hq⟩:=G5 HF2 x hmo.hx;have HQ:=G6 hq;have B1:B0 Vs w1:=(G5 HST).2.trans (hmo.t.below (G5 HST).2.size (fun j e=>by omega));have hrg1:=hmo.g;rw[ek,ev]at hen⊢;unfold BE3 at hen⊢;have HMO:=G6 hmo;clear hmo hq ek ev;go_upto_region 17 with fail;have A2:=G7 w1 (FT #[I0 (c:Nat),S0 l] 39);have K0:(w1.alloc (FT #[I0 (c:Nat),S0 l] 39)).heap[w1.heap.size]?=FZ (FT #[I0 (c:Nat),S0 l] 39 (0,0)):=heap_alloc_new w1 _;have hrg2:=G6 (hrg1.next A2);have HB2:=G6 (G8 B1 A2);clear A2 B1 hrg1 hen;generalize w1.alloc _=W4 at*;generalize w1.heap.size=g at*;have hlt4:g<W4.heap.size:=(AB.1 K0).1;have X4:=G6 ((G5 HC).next (G5 HB2));have HK0:=G6 K0;clear K0;have HKS:Hid (∀U,B0 W4 U->U.cell? ⟨g,0,FX⟩=FZ (I0 (c:Nat))/\U.cell? ⟨g,1,FX⟩=FZ (S0 l)):=G6 fun U hU=>by
     have e:=(hU.block g hlt4).trans (G5 HK0);simp[AV,e]
    have CC:=G6 (fun U (hU:B0 W4 U)=>AS2 q k c U ((G5 X4).x.next hU) hc _ rfl (by have h1:=((G5 HW0).c c hc).len;have h2:=(G5 HW0).n1;omega));have CK:=G6 (fun U v (hv:IQ U v (q.c c).es)=>B96 (q.c c).s (q.c c).z v (q.c c).es l U hv (fun y hy=>by have h3:=((G5 HW0).c c hc).sh y hy;exact⟨by omega,by omega⟩) (by have h1:=((G5 HW0).c c hc).len;have h2:=(G5 HW0).n1;omega) ((G5 HW0).c c hc).asc);have HEN:Hid (∃en bt,en=CU4 (OV (q.c c).es l)/\bt=(OV (q.c c).es l).isSome):=G6 ⟨_,_,rfl,rfl⟩;obtain⟨en,bt,e1,e2⟩:=G5 HEN;rw[<-e1,<-e2]at CK;have HEN:=G6 (And.intro e1 e2);clear e1 e2;unfold wP at CC;unfold clV enV at CK;generalize (q.c c)=cc at CC CK
    go_cut [13,14]from 73 to 121 (fun t13 t14 wx=>∃ge,t13=P0 ge/\t14=.bool bt/\Hid (B0 W4 wx/\JG wx ge en))
    case first=>
     have hS0:=G5 HKS _ (AA W4.heap.size W4).drew;refine wp_region_held (S:=fun V:World=>V.cell? ⟨g,0,FX⟩=FZ (I0 (c:Nat))/\V.cell? ⟨g,1,FX⟩=FZ (S0 l)) (by kernel_rfl) ?_;change wpAnyH _ _ _ _ _ _ _ _ W4.drew;refine tkH 0 hS0 ?_;refine tkH 1 hS0 ?_;refine tkH 2 hS0 ?_;refine tkH 4 hS0 ?_;refine tkH 5 hS0 ?_;refine rd2 3 10 (fun K hK=>?_) (fun K hK=>?_)
     .go_simp
      with_reducible refine(G5 CC _ (AA W4.heap.size W4).drew).mono ?_
      rintro e v1A ⟨a2,c2,rfl,o1A,hv1A⟩;have HE1A:=G6 o1A.seq;have CU6:=G6 (G8 (AA W4.heap.size W4).drew hv1A);have hS1A:=G5 HKS _ (G5 CU6);clear o1A hv1A;refine nxH hK hS1A ?_;clear hK K;refine rd2 6 10 (fun K hK=>?_) (fun K hK=>?_)
      .go_simp;refine(G5 CK _ _ ((G5 HE1A))).mono ?_;rintro e CR8 ⟨rfl,CR9⟩;have CF1:=G6 (G8 (G5 CU6) CR9);have BW2:=G5 HKS _ (G5 CF1);clear CR9;refine nxH hK BW2 ?_;clear hK K;refine tkH 7 BW2 ?_;refine tkH 8 BW2 ?_;refine tkH 9 BW2 ?_;refine rd1 10 (fun K hK=>?_);go_simp;have CZ3:=G6 ((G8 (G5 CF1) (G7 CR8 (FT #[.string ⟨#[]⟩,.string ⟨#[]⟩,.bool false] 41))));have CZ4:=G5 HKS _ (G5 CZ3);refine nxH hK CZ4 ?_;clear hK K;refine rd1 11 (fun K hK=>?_);go_simp;have CS0:=G6 (G8 (G5 CF1) (G7 CR8 (FT #[S0 en.p,S0 en.d,.bool en.t] 41)));have CZ5:Hid (JG (CR8.alloc (FT #[S0 en.p,S0 en.d,.bool en.t] 41)) CR8.heap.size en):=G6 (heap_alloc_new CR8 _);have CS1:=G5 HKS _ (G5 CS0);refine nxH hK CS1 ?_;clear hK K;refine tkH 12 CS1 ?_;refine wpAnyH_done (by kernel_rfl) ?_ _;go_wp2_with fail
       go_meet
       exact⟨_,rfl,rfl,G6 ⟨(G5 CS0),G5 CZ5⟩⟩
      .go_simp;have CS2:=G6 ((G8 (G5 CU6) (G7 v1A (FT #[.string ⟨#[]⟩,.string ⟨#[]⟩,.bool false] 41))));have CZ6:=G5 HKS _ (G5 CS2);refine nxH hK CZ6 ?_;clear hK K;refine rd1 6 (fun K hK=>?_);go_simp;refine(G5 CK _ _ ((G5 HE1A).next (G7 v1A (FT #[.string ⟨#[]⟩,.string ⟨#[]⟩,.bool false] 41)))).mono ?_;rintro e CG8 ⟨rfl,CF2⟩;have CS3:=G6 (G8 (G5 CS2) CF2);have BW3:=G5 HKS _ (G5 CS3);have A70:=(CF2.block _ (by simp)).trans (heap_alloc_new v1A (FT #[.string ⟨#[]⟩,.string ⟨#[]⟩,.bool false] 41));clear CF2;refine nxH hK BW3 ?_;clear hK K;refine tkH 7 BW3 ?_;refine tkH 8 BW3 ?_;refine tkH 9 BW3 ?_;refine rd1 11 (fun K hK=>?_);have z0:CG8.cell? ⟨v1A.heap.size,0,FX⟩=FZ (.string ⟨#[]⟩):=by simp[AV,A70]
       have y0:CG8.frozen? ⟨v1A.heap.size,0,FX⟩=false:=by simp[F7,A70]
       have z1:CG8.cell? ⟨v1A.heap.size,1,FX⟩=FZ (.string ⟨#[]⟩):=by simp[AV,A70]
       have y1:CG8.frozen? ⟨v1A.heap.size,1,FX⟩=false:=by simp[F7,A70]
       have z2:CG8.cell? ⟨v1A.heap.size,2,FX⟩=FZ (.bool false):=by simp[AV,A70]
       have y2:CG8.frozen? ⟨v1A.heap.size,2,FX⟩=false:=by simp[F7,A70]
       have hge:W4.heap.size<=v1A.heap.size:=(G5 CU6).size;go_simp;have CS4:=G6 ((((G5 CS3).setCell (p:=⟨v1A.heap.size,0,FX⟩) hge (S0 en.p)).setCell (p:=⟨v1A.heap.size,1,FX⟩) hge (S0 en.d)).setCell (p:=⟨v1A.heap.size,2,FX⟩) hge (.bool en.t));have CZ7:=G6 (C06 en A70);have CS5:=G5 HKS _ (G5 CS4);refine nxH hK CS5 ?_;clear hK K;refine tkH 12 CS5 ?_;refine wpAnyH_done (by kernel_rfl) ?_ _;go_wp2_with fail
       go_meet
       exact⟨_,rfl,rfl,G6 ⟨(G5 CS4),G5 CZ7⟩⟩
     .go_simp;have CZ8:=G6 ((G7 W4 (FT #[.string ⟨#[]⟩,.string ⟨#[]⟩,.bool false] 41)).drew);have hS3B:=G5 HKS _ (G5 CZ8);refine nxH hK hS3B ?_;clear hK K;refine rd1 3 (fun K hK=>?_);go_simp
      with_reducible refine(G5 CC _ (G5 CZ8)).mono ?_
      rintro e v1B ⟨a2,c2,rfl,o1B,CZ9⟩;have HE1B:=G6 o1B.seq;have HB1B:=G6 (G8 (G5 CZ8) CZ9);have hS1B:=G5 HKS _ (G5 HB1B);have aZ1B:=(CZ9.block _ (by simp)).trans (heap_alloc_new W4 (FT #[.string ⟨#[]⟩,.string ⟨#[]⟩,.bool false] 41));clear o1B CZ9;refine nxH hK hS1B ?_;clear hK K;refine rd1 6 (fun K hK=>?_);go_simp;refine(G5 CK _ _ ((G5 HE1B))).mono ?_;rintro e v2B ⟨rfl,D00⟩;have HB2B:=G6 (G8 (G5 HB1B) D00);have CU7:=G5 HKS _ (G5 HB2B);have CF3:=(D00.block _ (AB.1 aZ1B).1).trans aZ1B;clear D00;refine nxH hK CU7 ?_;clear hK K;refine tkH 7 CU7 ?_;refine tkH 8 CU7 ?_;refine tkH 9 CU7 ?_;refine rd1 11 (fun K hK=>?_);have z0:v2B.cell? ⟨W4.heap.size,0,FX⟩=FZ (.string ⟨#[]⟩):=by simp[AV,CF3]
      have y0:v2B.frozen? ⟨W4.heap.size,0,FX⟩=false:=by simp[F7,CF3]
      have z1:v2B.cell? ⟨W4.heap.size,1,FX⟩=FZ (.string ⟨#[]⟩):=by simp[AV,CF3]
      have y1:v2B.frozen? ⟨W4.heap.size,1,FX⟩=false:=by simp[F7,CF3]
      have z2:v2B.cell? ⟨W4.heap.size,2,FX⟩=FZ (.bool false):=by simp[AV,CF3]
      have y2:v2B.frozen? ⟨W4.heap.size,2,FX⟩=false:=by simp[F7,CF3]
      go_simp;have HB4B:=G6 ((((G5 HB2B).setCell (p:=⟨W4.heap.size,0,FX⟩) (A8 _) (S0 en.p)).setCell (p:=⟨W4.heap.size,1,FX⟩) (A8 _) (S0 en.d)).setCell (p:=⟨W4.heap.size,2,FX⟩) (A8 _) (.bool en.t));have HO4B:=G6 (C06 en CF3);have hS4B:=G5 HKS _ (G5 HB4B);refine nxH hK hS4B ?_;clear hK K;refine tkH 12 hS4B ?_;refine wpAnyH_done (by kernel_rfl) ?_ _;go_wp2_with fail
      go_meet
      exact⟨_,rfl,rfl,G6 ⟨(G5 HB4B),G5 HO4B⟩⟩
    case rest=>
     obtain⟨ge,rfl,rfl,HE⟩:=hcut;have X6:=G6 ((G5 X4).next (G5 HE).1);have CG9:=G6 ((G5 hrg2).next (G5 HE).1);have HB6:=G6 (G8 (G5 HB2) (G5 HE).1);have HO6:=G6 (G5 HE).2;have hge:ge<wc.heap.size:=(G5 HE).2.ltz;obtain⟨g0,g1⟩:=G5 HKS wc (G5 HE).1;have hlt6:g<wc.heap.size:=AX hlt4 (G5 HE).1.size;have HK6:=G6 (((G5 HE).1.block g hlt4).trans (G5 HK0));clear CC CK HKS X4 HB2 hrg2 HE hlt4 HK0;generalize wc=W6 at*
     cases bt with
     |false=>
      go_wp2_with fail
      go_roundw
      case rel=>exact⟨_,G6 ⟨G5 CG9,G5 HB6⟩⟩
      case measure=>rw[(G5 CG9).left_eq,hrg.left_eq];exact(G5 HMO).l
     |true=>
      have k2:W6.cell? ⟨c2,0,FX⟩=FZ (.map (FZ m2)):=by simp[AV,(G5 X6).i.b2]
      obtain⟨fs,dl,h1,h2⟩:=(G5 X6).i.co;rcases h1.look BE2 underlying24 (BE8 W6) (AH0 h2.1) (Go.Maps.keyOf_int_mk underlying3 (WalkArith.wf_i64 (n:=(c:Int)) (by omega)))with⟨hno,_,hr2⟩|⟨y,hy,hyk,_,hr2⟩
      case inr=>
       obtain⟨_,_,_,hyv⟩:=h2.1 y hy;rw[hyv]at hr2;clear h1 h2 hy hyk hyv;go_wp2_with fail
       go_roundw
       case rel=>exact⟨_,G6 ⟨G5 CG9,G5 HB6⟩⟩
       case measure=>rw[(G5 CG9).left_eq,hrg.left_eq];exact(G5 HMO).l
      case inl=>
       have hncl:¬uF cls d (c:Int):=fun hcl=>by
        obtain⟨y,hy,e⟩:=h2.2 c hcl;exact hno y hy e
       have hsome:OV (q.c c).es l=FZ en:=by
        cases hl2:OV (q.c c).es l with
        |none=>have:=(G5 HEN).2;rw[hl2]at this;simp at this
        |some z=>have:=(G5 HEN).1;rw[hl2]at this;rw[this];rfl
       obtain⟨o1,_,o3⟩:=G5 HQ hncl en hsome;clear hno h1 h2 hncl hsome HEN HQ;have ok:=((G5 HW0).s s hs);have HTR:Hid ((svP s (q.s s)).tr=NI (q.s s).m (q.s s).dn):=G6 (by rw[IY o1]);have hgt:QI (svP s (q.s s)).tr:=by rw[G5 HTR];exact ok.play.good ok.dn
       rw[<-G5 HTR]at o3;have hE:(yI (svP s (q.s s)).tr l=0/\en.t=true/\en.d=(mF (svP s (q.s s)).tr l).d)\/(yI (svP s (q.s s)).tr l=7/\en.t=false):=by
        cases hl2:JD (svP s (q.s s)).tr.ns l with
        |none=>rw[hl2]at o3;exact .inr ⟨(bY hl2).2,o3⟩
        |some z=>rw[hl2]at o3;exact .inl ⟨(YI hl2).2,o3.1,by rw[(YI hl2).1];exact o3.2⟩
       have HEE:=G6 hE;have CV:=G6 (fun U (hU:B0 W6 U)=>AS1 q k s U ((G5 X6).x.next hU) hs _ rfl (ok.more (G5 HW0).n1).few);have CG:=G6 (fun U vn vs (hn:IQ U vn (svP s (q.s s)).tr.ns)=>bZ (svP s (q.s s)).tr vn vs l U hgt hn);unfold wP at CV;unfold TA at CG;have hf1:=BW1;have HKS:Hid (∀U,B0 W6 U->U.cell? ⟨g,1,FX⟩=FZ (S0 l)):=G6 fun U hU=>by
        have e:=(hU.block g hlt6).trans (G5 HK6);simp[AV,e]
       clear o1 o3 ok HTR hgt hE;generalize svP s (q.s s)=sv at*;generalize mF sv.tr l=n at*;generalize yI sv.tr l=E at*;have hs4:(s:Int)<3:=by omega
       go_upto_region 19 with fail;clear k2 hr2 g0 g1
       go_cut [15,16]from 73 to 121 (fun t15 t16 wx=>∃gn,t15=P0 gn/\t16=I0 E/\Hid (AQ7 W6 wx gn n))
       case first=>
        have hS0:=G5 HKS _ (AA W6.heap.size W6).drew;refine wp_region_held (S:=fun V:World=>V.cell? ⟨g,1,FX⟩=FZ (S0 l)) (by kernel_rfl) ?_;change wpAnyH _ _ _ _ _ _ _ _ W6.drew;refine tkH 0 hS0 ?_;refine tkH 1 hS0 ?_;refine tkH 4 hS0 ?_;refine tkH 5 hS0 ?_;refine rd2 2 10 (fun K hK=>?_) (fun K hK=>?_)
        .go_simp
         with_reducible refine(G5 CV _ (AA W6.heap.size W6).drew).mono ?_
         rintro e w1 ⟨ad,cd,al,cl,an,cn,ai,ci,aw,cw,rfl,_,_,on,_,_,hb1⟩;have aL1:Hid (B0 W6 w1):=G6 (G8 (AA W6.heap.size W6).drew hb1);have aN1:=G6 on.seq;clear hb1 on;have hS1:=G5 HKS _ (G5 aL1);refine nxH hK hS1 ?_;clear hK K;refine tkH 3 hS1 ?_;refine rd2 6 10 (fun K hK=>?_) (fun K hK=>?_)
         .go_simp;refine(G5 CG _ (FQ an sv.tr.ns.length cn) (FQ ai sv.tr.ss.length ci) (G5 aN1)).mono ?_;rintro e w2 ⟨rfl,hb2⟩;have aB2:Hid (B0 W6 w2):=G6 (G8 (G5 aL1) hb2);clear hb2;have hS2:=G5 HKS _ (G5 aB2);refine nxH hK hS2 ?_;clear hK K;refine tkH 7 hS2 ?_;refine tkH 8 hS2 ?_;refine tkH 9 hS2 ?_;refine rd1 10 (fun K hK=>?_);go_simp;have hS3:=G5 HKS _ (G8 (G5 aB2) (G7 w2 (FT #[.string ⟨#[]⟩,.string ⟨#[]⟩,I0 0,I0 0,I0 0,I0 0,I0 0,I0 0,I0 0] 49)));refine nxH hK hS3 ?_;clear hK K;refine rd1 11 (fun K hK=>?_);go_simp;have hX2:Hid (AQ7 W6 _ _ n):=G6 (sQ n.p n.d n.c n.m n.q n.v n.k n.o n.n (G5 aB2));have hS4:=G5 HKS _ (G5 hX2).b;refine nxH hK hS4 ?_;clear hK K;refine tkH 12 hS4 ?_;refine wpAnyH_done (by kernel_rfl) ?_ _;go_wp2_with fail
          go_meet
          exact⟨_,rfl,rfl,hX2⟩
         .go_simp;have hS3:=G5 HKS _ (G8 (G5 aL1) (G7 w1 (FT #[.string ⟨#[]⟩,.string ⟨#[]⟩,I0 0,I0 0,I0 0,I0 0,I0 0,I0 0,I0 0] 49)));refine nxH hK hS3 ?_;clear hK K;refine rd1 6 (fun K hK=>?_);go_simp;refine(G5 CG _ (FQ an sv.tr.ns.length cn) (FQ ai sv.tr.ss.length ci) ((G5 aN1).next (G7 w1 (FT #[.string ⟨#[]⟩,.string ⟨#[]⟩,I0 0,I0 0,I0 0,I0 0,I0 0,I0 0,I0 0] 49)))).mono ?_;rintro e w2 ⟨rfl,hb2⟩;have aB2:Hid (B0 W6 w2):=G6 (G8 (G8 (G5 aL1) (G7 w1 (FT #[.string ⟨#[]⟩,.string ⟨#[]⟩,I0 0,I0 0,I0 0,I0 0,I0 0,I0 0,I0 0] 49))) hb2);have aZ2:Hid (JG w2 w1.heap.size TU):=G6 ((hb2.block _ (by simp)).trans (heap_alloc_new w1 _));clear hb2;have hS2:=G5 HKS _ (G5 aB2);refine nxH hK hS2 ?_;clear hK K;refine tkH 7 hS2 ?_;refine tkH 8 hS2 ?_;refine tkH 9 hS2 ?_;refine rd1 11 (fun K hK=>?_);obtain⟨⟨x0,x1,x2,x3,x4,x5,x6,x7,x8⟩,y0,y1,y2,y3,y4,y5,y6,y7,y8⟩:=dA (G5 aZ2);go_simp;have hX2:Hid (AQ7 W6 _ _ n):=G6 (cZ n.p n.d n.c n.m n.q n.v n.k n.o n.n (G5 aB2) ((G5 aL1).size) (G5 aZ2));have hS4:=G5 HKS _ (G5 hX2).b;refine nxH hK hS4 ?_;clear hK K;refine tkH 12 hS4 ?_;refine wpAnyH_done (by kernel_rfl) ?_ _;go_wp2_with fail
          go_meet
          exact⟨_,rfl,rfl,hX2⟩
        .go_simp;have hS3:=G5 HKS _ ((G7 W6 (FT #[.string ⟨#[]⟩,.string ⟨#[]⟩,I0 0,I0 0,I0 0,I0 0,I0 0,I0 0,I0 0] 49)).drew);refine nxH hK hS3 ?_;clear hK K;refine rd1 2 (fun K hK=>?_);go_simp
         with_reducible refine(G5 CV _ (G7 W6 (FT #[.string ⟨#[]⟩,.string ⟨#[]⟩,I0 0,I0 0,I0 0,I0 0,I0 0,I0 0,I0 0] 49)).drew).mono ?_
         rintro e w1 ⟨ad,cd,al,cl,an,cn,ai,ci,aw,cw,rfl,_,_,on,_,_,hb1⟩;have aL1:Hid (B0 W6 w1):=G6 (G8 (G7 W6 (FT #[.string ⟨#[]⟩,.string ⟨#[]⟩,I0 0,I0 0,I0 0,I0 0,I0 0,I0 0,I0 0] 49)).drew hb1);have aN1:=G6 on.seq;have aZ:Hid (JG w1 W6.heap.size TU):=G6 ((hb1.block _ (by simp)).trans (heap_alloc_new W6 _));have hq:W6.heap.size<w1.heap.size:=(G5 aZ).ltz;clear hb1 on;have hS1:=G5 HKS _ (G5 aL1);refine nxH hK hS1 ?_;clear hK K;refine tkH 3 hS1 ?_;refine rd1 6 (fun K hK=>?_);go_simp;refine(G5 CG _ (FQ an sv.tr.ns.length cn) (FQ ai sv.tr.ss.length ci) (G5 aN1)).mono ?_;rintro e w2 ⟨rfl,hb2⟩;have aB2:Hid (B0 W6 w2):=G6 (G8 (G5 aL1) hb2);have aZ2:Hid (JG w2 W6.heap.size TU):=G6 ((G5 aZ).TW hb2 (G5 aZ).ltz);clear hb2;have hS2:=G5 HKS _ (G5 aB2);refine nxH hK hS2 ?_;clear hK K;refine tkH 7 hS2 ?_;refine tkH 8 hS2 ?_;refine tkH 9 hS2 ?_;refine rd1 11 (fun K hK=>?_);obtain⟨⟨x0,x1,x2,x3,x4,x5,x6,x7,x8⟩,y0,y1,y2,y3,y4,y5,y6,y7,y8⟩:=dA (G5 aZ2);go_simp;have hX2:Hid (AQ7 W6 _ _ n):=G6 (cZ n.p n.d n.c n.m n.q n.v n.k n.o n.n (G5 aB2) (A8 _) (G5 aZ2));have hS4:=G5 HKS _ (G5 hX2).b;refine nxH hK hS4 ?_;clear hK K;refine tkH 12 hS4 ?_;refine wpAnyH_done (by kernel_rfl) ?_ _;go_wp2_with fail
         go_meet
         exact⟨_,rfl,rfl,hX2⟩
       case rest=>
        obtain⟨gn,rfl,rfl,HNW⟩:=hcut;have CU8:=G6 ((G5 CG9).next (G5 HNW).b);have HB7:=G6 (G8 (G5 HB6) (G5 HNW).b);have n1:=(G5 HNW).one.JJ 1 _ rfl;have hO:=(G5 HO6).TW (G5 HNW).b hge;have er:=hO.row;simp only[BI]at er;have e1:wc.cell? ⟨ge,1,FX⟩=FZ (S0 en.d):=er 1 _ rfl;have e2:wc.cell? ⟨ge,2,FX⟩=FZ (.bool en.t):=er 2 _ rfl;clear er hO CV CG HKS HB6 CG9 HO6 X6 HNW hf1;rcases G5 HEE with⟨rfl,et,ed⟩|⟨rfl,et⟩
        .rw[et]at e2;rw[ed]at e1;clear et ed HEE;go_wp2_with fail
         go_roundw
         case rel=>exact⟨_,G6 ⟨G5 CU8,G5 HB7⟩⟩
         case measure=>rw[(G5 CU8).left_eq,hrg.left_eq];exact(G5 HMO).l
        .rw[et]at e2;clear et HEE;go_wp2_with fail
         go_roundw
         case rel=>exact⟨_,G6 ⟨G5 CU8,G5 HB7⟩⟩
         case measure=>rw[(G5 CU8).left_eq,hrg.left_eq];exact(G5 HMO).l
theorem tN(ds:List Dd)(v:Value)(W:World)(hv:IQ W v ds)(hm:∀d∈ds,d.q.p.length<=140737488355328/\d.q.d.length<=140737488355328)(hc:∀d∈ds,-9223372036854775808<=d.c/\d.c<=9223372036854775807)(hT:ZG W):Calls prog 3 #[v] W (R0 W (.bool true)):=by
 have hg:=A35 hT;have a1:=G7 W (.map #[] 0);have a2:=G7 (W.alloc (.map #[] 0)) (FT #[.map (FZ W.heap.size)] 23);have a3:=G7 ((W.alloc (.map #[] 0)).alloc (FT #[.map (FZ W.heap.size)] 23)) (.map #[] 0);have a4:=G7 (((W.alloc (.map #[] 0)).alloc (FT #[.map (FZ W.heap.size)] 23)).alloc (.map #[] 0)) (FT #[.map (FZ (W.heap.size+2))] 24);have s1:(W.alloc (.map #[] 0)).heap.size=W.heap.size+1:=by simp
 have s2:((W.alloc (.map #[] 0)).alloc (FT #[.map (FZ W.heap.size)] 23)).heap.size=W.heap.size+2:=by simp
 have s3:(((W.alloc (.map #[] 0)).alloc (FT #[.map (FZ W.heap.size)] 23)).alloc (.map #[] 0)).heap.size=W.heap.size+3:=by simp
 have s4:((((W.alloc (.map #[] 0)).alloc (FT #[.map (FZ W.heap.size)] 23)).alloc (.map #[] 0)).alloc (FT #[.map (FZ (W.heap.size+2))] 24)).heap.size=W.heap.size+4:=by simp
 have h1:=heap_alloc_new W (.map #[] 0);have h2:=heap_alloc_new (W.alloc (.map #[] 0)) (FT #[.map (FZ W.heap.size)] 23);have h3:=heap_alloc_new ((W.alloc (.map #[] 0)).alloc (FT #[.map (FZ W.heap.size)] 23)) (.map #[] 0);have h4:=heap_alloc_new (((W.alloc (.map #[] 0)).alloc (FT #[.map (FZ W.heap.size)] 23)).alloc (.map #[] 0)) (FT #[.map (FZ (W.heap.size+2))] 24);rw[s1]at h2;rw[s2]at h3;rw[s3]at h4;have b1:=(((G8 a2 a3).trans (a4.mono (by omega))).block W.heap.size (by omega)).trans h1;have b2:=(((a3.trans (a4.mono (by omega)))).block (W.heap.size+1) (by omega)).trans h2;have b3:=(a4.block (W.heap.size+2) (by omega)).trans h3;have hA:=G8 (G8 (G8 a1 a2) a3) a4;clear a1 a2 a3 a4 h1 h2 h3 s1 s2 s3;generalize hW4:((((W.alloc (.map #[] 0)).alloc (FT #[.map (FZ W.heap.size)] 23)).alloc (.map #[] 0)).alloc (FT #[.map (FZ (W.heap.size+2))] 24))=W4 at*;have K:CG7 W4 (CE6 (W.heap.size+1) (W.heap.size+3) W.heap.size (W.heap.size+2)) (fun k i V=>∃cls,BF4 (W.heap.size+1) (W.heap.size+3) W.heap.size (W.heap.size+2) (TV (pw0 k) (ds.take i)) cls V):=
  ⟨fun b e=>by rw[s4];rcases e with rfl|rfl|rfl|rfl<;>omega,fun e=>by rcases e with e|e|e|e<;>omega,fun k i V U ⟨cls,h⟩ hb=>⟨cls,h.next hb⟩,fun k i V U hk ⟨cls,h⟩ ht=>by rw[s4]at hk;exact⟨cls,h.touch ht (by omega) (by omega) (by omega) (by omega)⟩⟩
 have hbl:∀V,Touch (CE6 (W.heap.size+1) (W.heap.size+3) W.heap.size (W.heap.size+2)) W4 V->B0 W V:=fun V hV=>hA.trans (hV.below (by rw[s4];omega) (fun k e=>by rcases e with e|e|e|e<;>omega));have C:=G6 (AS3 K (W.heap.size+1) (W.heap.size+3) ds v (fun V hV=>hv.next (hbl V hV)) hm (hT.next hA) (fun k=>⟨fun _=>False,b2,h4,⟨#[],0,⟨b1,stamped_empty 0⟩,fun x hx=>by simp at hx⟩,⟨#[],0,⟨b3,stamped_empty 0⟩,fun x hx=>by simp at hx,fun _ h=>h.elim⟩,fun x hx=>by simp[pw0,TV]at hx⟩)
  (fun k V i d u hd hx hu hk ⟨cls,hI⟩=>by
   rw[s4]at hk;have hdm:=AZ hd;refine(AS4 _ d k (W.heap.size+1) (W.heap.size+3) W.heap.size (W.heap.size+2) u V cls (lK _ _ (YG k)) (hc d hdm) (hm d hdm).1 hx hu ⟨by omega,by omega,by omega,by omega,by omega,by omega,by omega,by omega,by omega,by omega⟩ hI).mono fun e w' ⟨e1,e2,e3,e4⟩=>⟨e1,e2,e3,uF cls d,?_⟩;rwa[yS (pw0 k) hd]))
 have HB:=G6 hbl;have hmm:= @run_makeMap prog;have hsz:=G6 s4;unfold wP at C;subst hW4;clear hv hm hT hg hA s4 h4 b1 b2 b3 K hbl hc;go_enter func3,ntmps3;go_wp2_with fail;refine(G5 C).mono ?_;rintro e V ⟨k,rfl,hp⟩;have HP:=G6 (G5 HB V hp.b);clear hp C HB;go_wp2_with fail;go_ret;exact⟨rfl,G5 HP⟩
