/-
  Part.
-/
import Derived.Test.YtkpojhhfjddegaaGreatDoorLOXWdBx
import Derived.Test.YtkpojhhfjddegaaGreatDoorLOXWdQt
import Derived.Test.YtkpojhhfjddegaaGreatDoorLOXWdRp
import Derived.Test.YtkpojhhfjddegaaGreatDoorLOXWdRs
import Derived.Test.YtkpojhhfjddegaaGreatDoorLOXWdKc
set_option maxRecDepth 20000
set_option maxHeartbeats 8000000
namespace Go.Proofs.YtkpojhhfjddegaaGreatDoor
open Go.RowKit Go.Proofs.Tryz
open _root_.Nat renaming le_refl->A8,lt_of_lt_of_le->AY
open Go.RowKit.Below renaming refl->AA
open Go.Obj renaming cells->FW
open _root_.Option renaming none->G6,some->G7
def reN(p:Pw)(m:Int):Pw:=⟨m,p.s,p.r,p.c,p.D,p.H,p.h⟩
theorem CH8(p:Pw)(i:Nat):LQ (reN p i)=reN p ((i+1:Nat):Int):=by simp[LQ,reN]
theorem zS(ds:List Dd)(v:Value)(W:World)(hv:IK W v ds)(hm:∀d∈ds,d.q.p.length<=140737488355328/\d.q.d.length<=140737488355328)(hT:WZ W)(d:Dd)(hdp:d.q.p.length<=140737488355328)(hdd:d.q.d.length<=140737488355328):Calls prog 5 #[v,ddV d] W (R0 W (.bool true)):=by
 have HA:=G9 (GH W (FW #[I0 d.k,I0 d.c,I0 d.s,I0 d.q.o,I0 d.q.s,S0 d.q.p,S0 d.q.d,I0 d.q.v,I0 d.q.f,I0 d.lo,I0 d.sl,I0 d.ke,.bool d.wt] 30));have C:=G9 (qR ds v (W.alloc (FW #[I0 d.k,I0 d.c,I0 d.s,I0 d.q.o,I0 d.q.s,S0 d.q.p,S0 d.q.d,I0 d.q.v,I0 d.q.f,I0 d.lo,I0 d.sl,I0 d.ke,.bool d.wt] 30)) (hv.next (G8 HA)) hm (hT.next (G8 HA)) (fun k V i d u _ _ _=>zQ _ _ _ _ V));have OD0:Hid (JM (W.alloc (FW #[I0 d.k,I0 d.c,I0 d.s,I0 d.q.o,I0 d.q.s,S0 d.q.p,S0 d.q.d,I0 d.q.v,I0 d.q.f,I0 d.lo,I0 d.sl,I0 d.ke,.bool d.wt] 30)) W.heap.size d):=G9 (heap_alloc_new W _);clear hm hT;obtain⟨va,vc,rfl⟩:=GL hv;clear hv;unfold wP at C;unfold ddV;have hfd:=BY3;go_enter func5,ntmps5;go_upto_region 1 with fail;generalize W.alloc _=W0 at*;have hd0:=(G8 OD0).ltz;go_wp2_with fail;refine(G8 C).mono ?_;rintro e V ⟨k,rfl,hp⟩;have hw:=U7 (ds.take 100) (pw0 k) (PG k);have hh:(ND (pw0 k) (ds.take 100)).h=k:=nC _ _;have hn:(ND (pw0 k) (ds.take 100)).n=((min ds.length 100:Nat):Int):=by
  rw[BG2 _ _ (by rw[List.length_take];show (0:Int)+_<=300;omega),List.length_take,Nat.min_comm];show (0:Int)+_=_;omega
 generalize ND (pw0 k) (ds.take 100)=q at*;have HQ:Hid (AJ2 W0 k (reN q (min ds.length 100:Nat)) V/\QE (reN q (min ds.length 100:Nat))):=by
  rw[<-hn];exact G9 ⟨hp,hw⟩
 have hkd:W.heap.size<k:=AY hd0 hp.k;have HFS:=G9 (CQ0 hw);have HFC:=G9 (CQ1 hw);clear hp hw hn C;go_wp2_with fail
 go_loopg [7] (300-min ds.length 100) (fun kx s7 wr=>∃i:Nat,s7=I0 i/\i<=300/\300-i<=kx/\Hid (AJ2 W0 k (reN q i) wr/\QE (reN q i)))
 case atStart=>exact⟨min ds.length 100,by(first|rfl|(congr 1;omega)),by omega,A8 _,HQ⟩
 case round=>
  obtain⟨i,rfl,hi,hg,HI⟩:=hrel;clear HQ;by_cases hlt:i<300
  .have AV0:(i:Int)<300:=by omega
   have C:=G9 (mY (reN q i) dZ k wr (G8 HI).1.x hh (G8 HI).1.t (G8 HI).2 (by simp[dZ]) (by simp[dZ]));have HW:=G9 (aK dZ (G8 HI).2);rw[D15 _ (by show (i:Int)<300;omega),CH8]at C HW;simp only[wP,ddV,dZ]at C;go_wp2_with fail;refine(G8 C).mono ?_;rintro e w1 ⟨u,rfl,ho,ht,hx⟩;have P1:=G9 ((G8 HI).1.turn ht hx);clear ho ht hx C HI;simp only[rpV,OJ,nd0];go_wp2_with fail
   go_roundg (300-(i+1))
   case measure=>omega
   case rel=>exact⟨i+1,by simp,by omega,A8 _,G9 ⟨G8 P1,G8 HW⟩⟩
  .obtain rfl:i=300:=by omega
   have HP:=G9 (G8 HI).1;have hw:=(G8 HI).2;have hkV:=(G8 HP).x.lt;have OD:=G9 ((G8 OD0).VI (G8 HP).b hd0);have CA:=G9 (fun V' (hx:WX V' k (reN q (300:Nat)))=>A77 (reN q (300:Nat)) k V' hx hw);have CL:=G9 (fun V' (hx:WX V' k (reN q (300:Nat)))=>NZ (reN q (300:Nat)) k V' hx);have CD:=G9 (fun V' (hx:WX V' k (reN q (300:Nat))) (ht:WZ V')=>mY (reN q (300:Nat)) d k V' hx hh ht hw hdp hdd);rw[BG3 _ _ (show (300:Int)<=(reN q (300:Nat)).n from Int.le_refl _)]at CD;clear hw HI hdp hdd hfd;unfold wP at CA CL;unfold wP ddV at CD;have C:=G9 (G8 CA _ (G8 HP).x);go_wp2_with fail;refine(G8 C).mono ?_;rintro e w1 ⟨c1,c2,rfl,h1,hb1⟩;obtain⟨hs1,hb2⟩:=jI h1;go_upto_region 10 with(first|refine NU rfl rfl ?_|refine NV rfl rfl ?_|refine QA rfl _ _ rfl w1.heap.size c1 SH rfl rfl (BB0 w1) h1.n1 TW h1.o1 ?_|refine QB rfl _ _ rfl _ c2 UQ rfl rfl (BU0 w1 c1) h1.n2 TY h1.o2 ?_);rw[show (w1.alloc (FW SH 56)).heap.size=w1.heap.size+1 by simp];have SN1:Hid (Snp ((((w1.alloc (FW SH 56)).alloc (FW UQ 57)).setRow w1.heap.size c1).setRow (w1.heap.size+1) c2) wr.heap.size w1.heap.size q):=G9 (hs1.same rfl rfl);have P1:=G9 (((G8 HP).next hb1).next hb2);have OD1:=G9 (((G8 OD).yT hb1).yT hb2);have hkg:k<w1.heap.size:=AY hkV hb1.size;clear h1 hb1 hb2 hs1 HP OD C;generalize ((((w1.alloc _).alloc _).setRow _ _).setRow _ _)=U1 at*;generalize w1.heap.size=g at*;have C:=G9 (G8 CL _ (G8 P1).x);go_wp2_with fail;refine(G8 C).mono ?_;rintro e w2 ⟨rfl,hb2⟩;have SN2:=G9 ((G8 SN1).next hb2);have P2:=G9 ((G8 P1).next hb2);have OD2:=G9 ((G8 OD1).yT hb2);clear hb2 SN1 P1 OD1 C;have C:=G9 (G8 CD _ (G8 P2).x (G8 P2).t);have dr:=(G8 OD2).row;simp only[Nat.zero_add]at dr;have e0:w2.cell? ⟨W.heap.size,0,G6⟩=G7 (I0 d.k):=dr 0 _ rfl;have e1:w2.cell? ⟨W.heap.size,1,G6⟩=G7 (I0 d.c):=dr 1 _ rfl;have e2:w2.cell? ⟨W.heap.size,2,G6⟩=G7 (I0 d.s):=dr 2 _ rfl;have e3:w2.cell? ⟨W.heap.size,3,G6⟩=G7 (I0 d.q.o):=dr 3 _ rfl;have e4:w2.cell? ⟨W.heap.size,4,G6⟩=G7 (I0 d.q.s):=dr 4 _ rfl;have e5:w2.cell? ⟨W.heap.size,5,G6⟩=G7 (S0 d.q.p):=dr 5 _ rfl;have e6:w2.cell? ⟨W.heap.size,6,G6⟩=G7 (S0 d.q.d):=dr 6 _ rfl;have e7:w2.cell? ⟨W.heap.size,7,G6⟩=G7 (I0 d.q.v):=dr 7 _ rfl;have e8:w2.cell? ⟨W.heap.size,8,G6⟩=G7 (I0 d.q.f):=dr 8 _ rfl;have e9:w2.cell? ⟨W.heap.size,9,G6⟩=G7 (I0 d.lo):=dr 9 _ rfl;have e10:w2.cell? ⟨W.heap.size,10,G6⟩=G7 (I0 d.sl):=dr 10 _ rfl;have e11:w2.cell? ⟨W.heap.size,11,G6⟩=G7 (I0 d.ke):=dr 11 _ rfl;have e12:w2.cell? ⟨W.heap.size,12,G6⟩=G7 (.bool d.wt):=dr 12 _ rfl;clear dr CD;go_wp2_with fail;refine(G8 C).mono ?_;rintro e w3 ⟨u,rfl,ho3,ht3,hx3⟩;have P3:=G9 ((G8 P2).turn ht3 hx3);have SN3:=G9 ((G8 SN2).touch ht3 hkV hkg);have CR:=G9 (AU4 (OJ 6) u (N0) w3 (by simp[OJ]) ho3.seq (IK.nil w3));clear e0 e1 e2 e3 e4 e5 e6 e7 e8 e9 e10 e11 e12 ho3 ht3 hx3 C P2 SN2 OD2;simp only[rpV,OJ,nd0]at CR;simp only[rpV,OJ,nd0];go_wp2_with fail;refine(G8 CR).mono ?_;rintro e w4 ⟨rfl,hb4⟩;have P4:=G9 ((G8 P3).next hb4);have SN4:=G9 ((G8 SN3).next hb4);clear hb4 CR P3 SN3;have C:=G9 (G8 CL _ (G8 P4).x);go_wp2_with fail;refine(G8 C).mono ?_;rintro e w5 ⟨rfl,hb5⟩;have P5:=G9 ((G8 P4).next hb5);have SN5:=G9 ((G8 SN4).next hb5);clear hb5 C CL P4 SN4;have C:=G9 (G8 CA _ (G8 P5).x);go_wp2_with fail;refine(G8 C).mono ?_;rintro e w6 ⟨c3,c4,rfl,h6,hb6⟩;obtain⟨hs6,hb7⟩:=jI h6;go_upto_region 14 with(first|refine NU rfl rfl ?_|refine NV rfl rfl ?_|refine QA rfl _ _ rfl w6.heap.size c3 SH rfl rfl (BB0 w6) h6.n1 TW h6.o1 ?_|refine QB rfl _ _ rfl _ c4 UQ rfl rfl (BU0 w6 c3) h6.n2 TY h6.o2 ?_);rw[show (w6.alloc (FW SH 56)).heap.size=w6.heap.size+1 by simp];have SA:=G9 (((G8 SN5).next hb6).next hb7);have SB:Hid (Snp ((((w6.alloc (FW SH 56)).alloc (FW UQ 57)).setRow w6.heap.size c3).setRow (w6.heap.size+1) c4) w5.heap.size w6.heap.size q):=G9 (hs6.same rfl rfl);have HB5:=G9 (GI (G8 HA) (((G8 P5).next hb6).next hb7).b);clear hb6 hb7 hs6 h6 SN5 P5 CA C;generalize ((((w6.alloc _).alloc _).setRow _ _).setRow _ _)=U5 at*;generalize w6.heap.size=g5 at*
   clear hkV hlt hi hg;go_wp2_with fail
   go_loopg [13] 3 (fun kx s13 wr=>∃i:Nat,s13=I0 i/\i<=3/\3-i<=kx/\Hid (B0 U5 wr))
   case atStart=>exact⟨0,rfl,by omega,by omega,G9 (AA _ _)⟩
   case round=>
    obtain⟨i,rfl,hi,hg,B1⟩:=hrel;by_cases hi3:i<3
    .have hi4:(i:Int)<3:=by omega
     have hF:=G8 HFS i hi3;obtain⟨vd,vl,vn,vs,vw,hv1,hc1⟩:=((G8 SA).next (G8 B1)).srv hi3 rfl;obtain⟨ud,ul,un,us,uw,hv2,hc2⟩:=((G8 SB).next (G8 B1)).srv hi3 rfl;have CM:=G9 (fun V' (hV:B0 wr V')=>mG _ _ _ V' hF (hv1.next hV) (hv2.next hV));generalize svP i (q.s i)=s at*;have HKS:Hid (∀V,B0 wr V->V.cell? ⟨g,i*10,G6⟩=G7 (.bool s.up)/\V.cell? ⟨g,i*10+1,G6⟩=G7 (vd)/\V.cell? ⟨g,i*10+2,G6⟩=G7 (I0 s.id)/\V.cell? ⟨g,i*10+3,G6⟩=G7 (I0 s.ep)/\V.cell? ⟨g,i*10+4,G6⟩=G7 (vl)/\V.cell? ⟨g,i*10+5,G6⟩=G7 (I0 s.dn)/\V.cell? ⟨g,i*10+6,G6⟩=G7 (I0 s.tr.z)/\V.cell? ⟨g,i*10+7,G6⟩=G7 (vn)/\V.cell? ⟨g,i*10+8,G6⟩=G7 (vs)/\V.cell? ⟨g,i*10+9,G6⟩=G7 (vw)/\V.cell? ⟨g5,i*10,G6⟩=G7 (.bool s.up)/\V.cell? ⟨g5,i*10+1,G6⟩=G7 (ud)/\V.cell? ⟨g5,i*10+2,G6⟩=G7 (I0 s.id)/\V.cell? ⟨g5,i*10+3,G6⟩=G7 (I0 s.ep)/\V.cell? ⟨g5,i*10+4,G6⟩=G7 (ul)/\V.cell? ⟨g5,i*10+5,G6⟩=G7 (I0 s.dn)/\V.cell? ⟨g5,i*10+6,G6⟩=G7 (I0 s.tr.z)/\V.cell? ⟨g5,i*10+7,G6⟩=G7 (un)/\V.cell? ⟨g5,i*10+8,G6⟩=G7 (us)/\V.cell? ⟨g5,i*10+9,G6⟩=G7 (uw)):=G9 fun V hV=>by
      obtain⟨x0,x1,x2,x3,x4,x5,x6,x7,x8,x9⟩:=hc1 V hV;exact⟨x0,x1,x2,x3,x4,x5,x6,x7,x8,x9,hc2 V hV⟩
     clear hv1 hv2 hc1 hc2 hF;go_upto_region 17 with fail;have hS0:=G8 HKS _ (AA wr.heap.size wr).drew;refine wp_region_held (S:=fun V:World=>V.cell? ⟨g,i*10,G6⟩=G7 (.bool s.up)/\V.cell? ⟨g,i*10+1,G6⟩=G7 (vd)/\V.cell? ⟨g,i*10+2,G6⟩=G7 (I0 s.id)/\V.cell? ⟨g,i*10+3,G6⟩=G7 (I0 s.ep)/\V.cell? ⟨g,i*10+4,G6⟩=G7 (vl)/\V.cell? ⟨g,i*10+5,G6⟩=G7 (I0 s.dn)/\V.cell? ⟨g,i*10+6,G6⟩=G7 (I0 s.tr.z)/\V.cell? ⟨g,i*10+7,G6⟩=G7 (vn)/\V.cell? ⟨g,i*10+8,G6⟩=G7 (vs)/\V.cell? ⟨g,i*10+9,G6⟩=G7 (vw)/\V.cell? ⟨g5,i*10,G6⟩=G7 (.bool s.up)/\V.cell? ⟨g5,i*10+1,G6⟩=G7 (ud)/\V.cell? ⟨g5,i*10+2,G6⟩=G7 (I0 s.id)/\V.cell? ⟨g5,i*10+3,G6⟩=G7 (I0 s.ep)/\V.cell? ⟨g5,i*10+4,G6⟩=G7 (ul)/\V.cell? ⟨g5,i*10+5,G6⟩=G7 (I0 s.dn)/\V.cell? ⟨g5,i*10+6,G6⟩=G7 (I0 s.tr.z)/\V.cell? ⟨g5,i*10+7,G6⟩=G7 (un)/\V.cell? ⟨g5,i*10+8,G6⟩=G7 (us)/\V.cell? ⟨g5,i*10+9,G6⟩=G7 (uw)) (by kernel_rfl) ?_;change wpAnyH _ _ _ _ _ _ _ _ wr.drew;refine tkH 0 hS0 ?_;refine tkH 1 hS0 ?_;refine tkH 2 hS0 ?_;refine tkH 3 hS0 ?_;refine tkH 4 hS0 ?_;refine tkH 5 hS0 ?_;refine rd1 6 (fun K hK=>?_);go_simp;refine(G8 CM _ (AA wr.heap.size wr).drew).mono ?_;rintro e v1 ⟨rfl,hv1⟩;have HB1:=G9 (GI (AA wr.heap.size wr).drew hv1);have hS1:=G8 HKS _ (G8 HB1);clear hv1;refine nxH hK hS1 ?_;clear hK K;refine tkH 7 hS1 ?_;refine wpAnyH_done (by kernel_rfl) ?_ _;go_wp2_with fail
     go_roundg (3-(i+1))
     case measure=>omega
     case rel=>exact⟨i+1,by simp,by omega,A8 _,G9 (GI (G8 B1) (G8 HB1))⟩
    .obtain rfl:i=3:=by omega
     go_wp2_with fail
     go_loopg [14] 16 (fun kx s14 wr=>∃i:Nat,s14=I0 i/\i<=16/\16-i<=kx/\Hid (B0 U5 wr))
     case atStart=>exact⟨0,rfl,by omega,by omega,B1⟩
     case round=>
      clear B1 hi hg;obtain⟨i,rfl,hi,hg,B1⟩:=hrel;by_cases hi3:i<16
      .have hi4:(i:Int)<16:=by omega
       have hF:=G8 HFC i hi3;obtain⟨v,hv1,hc1⟩:=((G8 SA).next (G8 B1)).cl hi3 rfl;obtain⟨u,hv2,hc2⟩:=((G8 SB).next (G8 B1)).cl hi3 rfl;have CM:=G9 (fun V' (hV:B0 wr V')=>qH (q.c i).s (q.c i).z (q.c i).es _ _ V' hF (hv1.next hV) (hv2.next hV));generalize q.c i=x at*;have HKS:Hid (∀V,B0 wr V->V.cell? ⟨g+1,i*3,G6⟩=G7 (I0 x.s)/\V.cell? ⟨g+1,i*3+1,G6⟩=G7 (I0 x.z)/\V.cell? ⟨g+1,i*3+2,G6⟩=G7 (v)/\V.cell? ⟨g5+1,i*3,G6⟩=G7 (I0 x.s)/\V.cell? ⟨g5+1,i*3+1,G6⟩=G7 (I0 x.z)/\V.cell? ⟨g5+1,i*3+2,G6⟩=G7 (u)):=G9 fun V hV=>by
        obtain⟨x0,x1,x2⟩:=hc1 V hV;exact⟨x0,x1,x2,hc2 V hV⟩
       clear hv1 hv2 hc1 hc2 hF;go_upto_region 22 with fail;have hS0:=G8 HKS _ (AA wr.heap.size wr).drew;refine wp_region_held (S:=fun V:World=>V.cell? ⟨g+1,i*3,G6⟩=G7 (I0 x.s)/\V.cell? ⟨g+1,i*3+1,G6⟩=G7 (I0 x.z)/\V.cell? ⟨g+1,i*3+2,G6⟩=G7 (v)/\V.cell? ⟨g5+1,i*3,G6⟩=G7 (I0 x.s)/\V.cell? ⟨g5+1,i*3+1,G6⟩=G7 (I0 x.z)/\V.cell? ⟨g5+1,i*3+2,G6⟩=G7 (u)) (by kernel_rfl) ?_;change wpAnyH _ _ _ _ _ _ _ _ wr.drew;refine tkH 0 hS0 ?_;refine tkH 1 hS0 ?_;refine tkH 2 hS0 ?_;refine tkH 3 hS0 ?_;refine tkH 4 hS0 ?_;refine tkH 5 hS0 ?_;refine rd1 6 (fun K hK=>?_);go_simp;refine(G8 CM _ (AA wr.heap.size wr).drew).mono ?_;rintro e v1 ⟨rfl,hv1⟩;have HB1:=G9 (GI (AA wr.heap.size wr).drew hv1);have hS1:=G8 HKS _ (G8 HB1);clear hv1;refine nxH hK hS1 ?_;clear hK K;refine tkH 7 hS1 ?_;refine wpAnyH_done (by kernel_rfl) ?_ _;go_wp2_with fail
       go_roundg (16-(i+1))
       case measure=>omega
       case rel=>exact⟨i+1,by simp,by omega,A8 _,G9 (GI (G8 B1) (G8 HB1))⟩
      .obtain rfl:i=16:=by omega
       have HB6:=G9 (GI (G8 HB5) (G8 B1));clear B1 HB5 SA SB HFS HFC HA;go_wp2_with fail;go_ret;exact⟨rfl,G8 HB6⟩
