/-
  Part.
-/
import Derived.Test.YtppjdeblncincaaGreatDoorLOAS
set_option maxRecDepth 20000
set_option maxHeartbeats 8000000
namespace Go.Proofs.YtppjdeblncincaaGreatDoor
open Go.RowKit Go.Proofs.Tryz
open Go.RowKit.Below renaming refl->AA
open Go.Value renaming slice->FU
open _root_.Option renaming none->G5,some->G6
structure RdI(p q:Pw)(r:Rp)(c i:Nat)(l:List UInt8):Prop where
 s:q.s=p.s
 o:∀j,j≠c->q.c j=p.c j
 d:(svP i (p.s i)).up=false->r.E=14
 z:(svP i (p.s i)).up=true->(svP i (p.s i)).tr.z<(p.c c).z->r.E=15
 y:(svP i (p.s i)).up=true->¬ (svP i (p.s i)).tr.z<(p.c c).z->r.E=yT (svP i (p.s i)).tr l/\r.d=(lU (svP i (p.s i)).tr l).d/\r.t=lU (svP i (p.s i)).tr l/\(q.c c).z=(svP i (p.s i)).tr.z/\(q.c c).es=(p.c c).es
theorem AR3{p:Pw}{c i:Nat}(l:List UInt8)(hn:p.n<300)(hc:c<16)(hi:i<3):RdI p (doP p (dRd c i l)).2 (doP p (dRd c i l)).1 c i l:=by
 rw[CR2 p l hn hc hi]
 cases hu:(p.s i).up with
 |false=>
  rw[if_pos rfl];refine⟨rfl,fun _ _=>rfl,fun _=>rfl,fun h=>?_,fun h=>?_⟩
  .rw[PK hu]at h;cases h
  .rw[PK hu]at h;cases h
 |true=>
  have e:=J3 (i:=i) hu;rw[if_neg (by simp)];by_cases hz:(QT (p.s i).m (p.s i).dn).z<(p.c c).z
  .rw[if_pos hz];refine⟨rfl,fun _ _=>rfl,fun h=>?_,fun _ _=>rfl,fun _ h=>?_⟩
   .rw[e]at h;cases h
   .rw[e]at h;exact absurd hz h
  .rw[if_neg hz];refine⟨rfl,fun j hj=>GL _ _ hj,fun h=>?_,fun _ h=>?_,fun _ _=>?_⟩
   .rw[e]at h;cases h
   .rw[e]at h;exact absurd h hz
   .rw[e];refine⟨rfl,rfl,rfl,?_,?_⟩
    .show (LP p.c c _ c).z=_;rw[II]
    .show (LP p.c c _ c).es=_;rw[II]
theorem BE1{p:Pw}(h:RZ p){i:Nat}(hi:i<3):QW (svP i (p.s i)).tr:=by
 have ok:=h.s i hi
 cases hu:(p.s i).up with
 |true=>rw[J3 hu];exact ok.play.good ok.dn
 |false=>rw[PK hu];exact YM
theorem CR3{W:World}{s:Sv}{vd vl vn vs vw:Value}(h:SvV W (.agg #[.bool s.up,vd,I0 s.id,I0 s.ep,vl,I0 s.dn,I0 s.tr.z,vn,vs,vw]) s):IL W vn s.tr.ns:=by
 obtain⟨_,_,_,_,_,e,_,_,h3,_,_⟩:=h;simp only[Value.agg.injEq,Array.mk.injEq,List.cons.injEq,and_true,true_and]at e;obtain⟨_,_,rfl,_,_⟩:=e;exact h3
theorem tC(ds:List Dd)(v:Value)(W:World)(hv:IL W v ds)(hm:∀d∈ds,d.q.p.length<=140737488355328/\d.q.d.length<=140737488355328)(hT:ZY W)(wh se:Int)(hw0: -9223372036854775808<=wh)(hw1:wh<=9223372036854775807)(hs0: -9223372036854775808<=se)(hs1:se<=9223372036854775807)(l:List UInt8)(hl:l.length<=140737488355328):Calls prog 3 #[v,I0 wh,I0 se,S0 l] W (R0 W (.bool true)):=by
 have C:=G8 (AR2 ds v W hv hm hT (fun k V i d u _ _ _=>BD8 _ _ _ _ V));have CP:=G8 (fun V=>yO wh 16 V (by omega) (by omega) hw0 hw1);have CQ:=G8 (fun V=>yO se 3 V (by omega) (by omega) hs0 hs1);obtain⟨c,hc⟩:∃c:Nat,wh%16=c:=⟨(wh%16).toNat,by omega⟩;obtain⟨si,hi⟩:∃i:Nat,se%3=i:=⟨(se%3).toNat,by omega⟩;have hc16:c<16:=by omega
 have hs3:si<3:=by omega
 have hc4:(c:Int)<16:=by omega
 have hs4:(si:Int)<3:=by omega
 rw[hc]at CP;rw[hi]at CQ;clear hv hm hT hc hi hw0 hw1 hs0 hs1;unfold wP at C;go_enter func3,ntmps3;go_wp2_with fail;refine(G7 C).mono ?_;rintro e V ⟨k,rfl,hp⟩;have hw:=lQ (ds.take 100) (pw0 k) (YP k);have hh:(SY (pw0 k) (ds.take 100)).h=k:=BD4 _ _;have hn:(SY (pw0 k) (ds.take 100)).n<300:=by
  rw[BD9 _ _ (by rw[List.length_take];show (0:Int)+_<=300;omega),List.length_take];show (0:Int)+_<300;omega
 generalize SY (pw0 k) (ds.take 100)=q at*;have HP:=G8 hp;have hkV:=hp.x.lt;have CA:=G8 (B82 q k V hp.x hw);have HFS:=G8 (CW5 hw);have HFC:=G8 (CW6 hw);have HG:=G8 (BE1 hw hs3);have CD:=G8 (fun V' (hx:WX V' k q) (ht:ZY V')=>AG0 q (dRd c si l) k V' hx hh ht hw hl (by simp[dRd]));have HRD:=G8 (AR3 l hn hc16 hs3);have HY:=G8 (lN (dRd c si l) hw);clear hp hw hh hn C hl;simp only[wP,ddV,dRd]at CD;unfold wP at CA;go_wp2_with fail;refine(G7 CP _).mono ?_;rintro e w0 ⟨rfl,rfl⟩;go_wp2_with fail;refine(G7 CQ _).mono ?_;rintro e w0 ⟨rfl,rfl⟩;clear CP CQ;go_wp2_with fail;refine(G7 CA).mono ?_;rintro e w1 ⟨c1,c2,rfl,h1,hb1⟩;obtain⟨hs1,hb2⟩:=AE2 h1;go_upto_region 6 with(first|refine TA rfl rfl ?_|refine TB rfl rfl ?_|refine XW rfl _ _ rfl w1.heap.size c1 TV rfl rfl (CA0 w1) h1.n1 XV h1.o1 ?_|refine XZ rfl _ _ rfl _ c2 WA rfl rfl (CM8 w1 c1) h1.n2 XY h1.o2 ?_);rw[show (w1.alloc (.cells TV 41)).heap.size=w1.heap.size+1 by simp];have SN1:=G8 hs1;have P1:=G8 (((G7 HP).next hb1).next hb2);have hkg:k<w1.heap.size:=Nat.lt_of_lt_of_le hkV hb1.size;clear h1 hb1 hb2 hs1 HP CA;generalize ((((w1.alloc _).alloc _).setRow _ _).setRow _ _)=U1 at*;generalize w1.heap.size=g at*;have C:=G8 (G7 CD _ (G7 P1).x (G7 P1).t);clear CD;change Hid (RdI q (doP q (dRd c si l)).2 (doP q (dRd c si l)).1 c si l)at HRD;unfold dRd at HRD HY;generalize doP q _=x0 at*;obtain⟨r,y⟩:=x0;simp only at HRD HY;go_wp2_with fail;refine(G7 C).mono ?_;rintro e w4 ⟨u,rfl,ho4,ht4,hx4⟩;obtain⟨na,nc,rfl⟩:=IU ho4;have R4:Hid (RpX (w4.alloc (.cells #[I0 r.E,I0 r.z,S0 r.p,S0 r.d,I0 r.t.c,I0 r.t.m,I0 r.t.q,I0 r.t.v,I0 r.t.k,I0 r.t.o,I0 r.t.n,FU na r.ns.length nc] 53)) w4.heap.size r (FU na r.ns.length nc)):=G8 (heap_alloc_last _ _);have A4:=G9 w4 (.cells #[I0 r.E,I0 r.z,S0 r.p,S0 r.d,I0 r.t.c,I0 r.t.m,I0 r.t.q,I0 r.t.v,I0 r.t.k,I0 r.t.o,I0 r.t.n,FU na r.ns.length nc] 53);have P4:=G8 (((G7 P1).turn ht4 hx4).next A4);have SN4:=G8 (((G7 SN1).touch ht4 hkV hkg).next A4);clear ho4 ht4 hx4 A4 C P1 SN1;unfold rpV;go_upto_region 7 with fail;generalize w4.alloc _=U4 at*;generalize w4.heap.size=g4 at*;have CA:=G8 (B82 y k U4 (G7 P4).x (G7 HY));unfold wP at CA;go_wp2_with fail;refine(G7 CA).mono ?_;rintro e w5 ⟨c3,c4,rfl,h5,hb5⟩;obtain⟨hs5,hb6⟩:=AE2 h5;go_upto_region 8 with(first|refine TA rfl rfl ?_|refine TB rfl rfl ?_|refine XW rfl _ _ rfl w5.heap.size c3 TV rfl rfl (CA0 w5) h5.n1 XV h5.o1 ?_|refine XZ rfl _ _ rfl _ c4 WA rfl rfl (CM8 w5 c3) h5.n2 XY h5.o2 ?_);rw[show (w5.alloc (.cells TV 41)).heap.size=w5.heap.size+1 by simp];have SA:=G8 (((G7 SN4).next hb5).next hb6);have SB:=G8 hs5;have HB5:=G8 (((G7 P4).next hb5).next hb6).b;have R5:Hid (RpX ((((w5.alloc (.cells TV 41)).alloc (.cells WA 45)).setRow w5.heap.size c3).setRow (w5.heap.size+1) c4) g4 r (FU na r.ns.length nc)):=G8 ((hb6.block _ (Nat.lt_of_lt_of_le (G7 R4).lt hb5.size)).trans ((hb5.block _ (G7 R4).lt).trans (G7 R4)));have HO:=G8 (G7 HRD).o;have HS:=G8 (G7 HRD).s;clear hb5 hb6 hs5 h5 SN4 P4 CA HY R4;generalize ((((w5.alloc _).alloc _).setRow _ _).setRow _ _)=U5 at*;generalize w5.heap.size=g5 at*;go_wp2_with fail
 go_loopg [16] 3 (fun kx s16 wr=>∃i:Nat,s16=I0 i/\i<=3/\3-i<=kx/\Hid (B0 U5 wr))
 case atStart=>exact⟨0,rfl,by omega,by omega,G8 (AA _ _)⟩
 case round=>
  obtain⟨i,rfl,hi,hg,B1⟩:=hrel;by_cases hi3:i<3
  .have hi4:(i:Int)<3:=by omega
   have hF:=G7 HFS i hi3;obtain⟨vd,vl,vn,vs,vw,hv1,hc1⟩:=((G7 SA).next (G7 B1)).srv hi3 rfl;obtain⟨ud,ul,un,us,uw,hv2,hc2⟩:=((G7 SB).next (G7 B1)).srv hi3 (by rw[G7 HS]);have CM:=G8 (fun V' (hV:B0 wr V')=>A48 _ _ _ V' hF (hv1.next hV) (hv2.next hV));generalize svP i (q.s i)=s at*;have HKS:Hid (∀V,B0 wr V->V.cell? ⟨g,i*10,G5⟩=G6 (.bool s.up)/\V.cell? ⟨g,i*10+1,G5⟩=G6 (vd)/\V.cell? ⟨g,i*10+2,G5⟩=G6 (I0 s.id)/\V.cell? ⟨g,i*10+3,G5⟩=G6 (I0 s.ep)/\V.cell? ⟨g,i*10+4,G5⟩=G6 (vl)/\V.cell? ⟨g,i*10+5,G5⟩=G6 (I0 s.dn)/\V.cell? ⟨g,i*10+6,G5⟩=G6 (I0 s.tr.z)/\V.cell? ⟨g,i*10+7,G5⟩=G6 (vn)/\V.cell? ⟨g,i*10+8,G5⟩=G6 (vs)/\V.cell? ⟨g,i*10+9,G5⟩=G6 (vw)/\V.cell? ⟨g5,i*10,G5⟩=G6 (.bool s.up)/\V.cell? ⟨g5,i*10+1,G5⟩=G6 (ud)/\V.cell? ⟨g5,i*10+2,G5⟩=G6 (I0 s.id)/\V.cell? ⟨g5,i*10+3,G5⟩=G6 (I0 s.ep)/\V.cell? ⟨g5,i*10+4,G5⟩=G6 (ul)/\V.cell? ⟨g5,i*10+5,G5⟩=G6 (I0 s.dn)/\V.cell? ⟨g5,i*10+6,G5⟩=G6 (I0 s.tr.z)/\V.cell? ⟨g5,i*10+7,G5⟩=G6 (un)/\V.cell? ⟨g5,i*10+8,G5⟩=G6 (us)/\V.cell? ⟨g5,i*10+9,G5⟩=G6 (uw)):=G8 fun V hV=>by
    obtain⟨x0,x1,x2,x3,x4,x5,x6,x7,x8,x9⟩:=hc1 V hV;exact⟨x0,x1,x2,x3,x4,x5,x6,x7,x8,x9,hc2 V hV⟩
   clear hv1 hv2 hc1 hc2 hF;go_upto_region 11 with fail;have hS0:=G7 HKS _ (AA wr.heap.size wr).drew;refine wp_region_held (S:=fun V:World=>V.cell? ⟨g,i*10,G5⟩=G6 (.bool s.up)/\V.cell? ⟨g,i*10+1,G5⟩=G6 (vd)/\V.cell? ⟨g,i*10+2,G5⟩=G6 (I0 s.id)/\V.cell? ⟨g,i*10+3,G5⟩=G6 (I0 s.ep)/\V.cell? ⟨g,i*10+4,G5⟩=G6 (vl)/\V.cell? ⟨g,i*10+5,G5⟩=G6 (I0 s.dn)/\V.cell? ⟨g,i*10+6,G5⟩=G6 (I0 s.tr.z)/\V.cell? ⟨g,i*10+7,G5⟩=G6 (vn)/\V.cell? ⟨g,i*10+8,G5⟩=G6 (vs)/\V.cell? ⟨g,i*10+9,G5⟩=G6 (vw)/\V.cell? ⟨g5,i*10,G5⟩=G6 (.bool s.up)/\V.cell? ⟨g5,i*10+1,G5⟩=G6 (ud)/\V.cell? ⟨g5,i*10+2,G5⟩=G6 (I0 s.id)/\V.cell? ⟨g5,i*10+3,G5⟩=G6 (I0 s.ep)/\V.cell? ⟨g5,i*10+4,G5⟩=G6 (ul)/\V.cell? ⟨g5,i*10+5,G5⟩=G6 (I0 s.dn)/\V.cell? ⟨g5,i*10+6,G5⟩=G6 (I0 s.tr.z)/\V.cell? ⟨g5,i*10+7,G5⟩=G6 (un)/\V.cell? ⟨g5,i*10+8,G5⟩=G6 (us)/\V.cell? ⟨g5,i*10+9,G5⟩=G6 (uw)) (by kernel_rfl) ?_;change wpAnyH _ _ _ _ _ _ _ _ wr.drew;refine tkH 0 hS0 ?_;refine tkH 1 hS0 ?_;refine tkH 2 hS0 ?_;refine tkH 3 hS0 ?_;refine tkH 4 hS0 ?_;refine tkH 5 hS0 ?_;refine rd1 6 (fun K hK=>?_);go_simp;refine(G7 CM _ (AA wr.heap.size wr).drew).mono ?_;rintro e v1 ⟨rfl,hv1⟩;have HB1:=G8 (GH (AA wr.heap.size wr).drew hv1);have hS1:=G7 HKS _ (G7 HB1);clear hv1;refine nxH hK hS1 ?_;clear hK K;refine tkH 7 hS1 ?_;refine wpAnyH_done (by kernel_rfl) ?_ _;go_wp2_with fail
   go_roundg (3-(i+1))
   case measure=>omega
   case rel=>exact⟨i+1,by simp,by omega,Nat.le_refl _,G8 (GH (G7 B1) (G7 HB1))⟩
  .obtain rfl:i=3:=by omega
   go_wp2_with fail
   go_loopg [17] 16 (fun kx s17 wr=>∃i:Nat,s17=I0 i/\i<=16/\16-i<=kx/\Hid (B0 U5 wr))
   case atStart=>exact⟨0,rfl,by omega,by omega,B1⟩
   case round=>
    clear B1 hi hg;obtain⟨i,rfl,hi,hg,B1⟩:=hrel;by_cases hi3:i<16
    .have hi4:(i:Int)<16:=by omega
     have hF:=G7 HFC i hi3;go_upto_region 16 with fail;by_cases hic:i=c
     .have hne:((i:Int) !=(c:Int))=false:=by simp[hic]
      have HKS:Hid (∀V,B0 wr V->True):=G8 fun V hV=>trivial;clear hF hic;have hS0:=G7 HKS _ (AA wr.heap.size wr).drew;refine wp_region_held (S:=fun V:World=>True) (by kernel_rfl) ?_;change wpAnyH _ _ _ _ _ _ _ _ wr.drew;refine tkH 0 hS0 ?_;refine tkH 1 hS0 ?_;refine tkH 2 hS0 ?_;refine tkH 3 hS0 ?_;refine skH 4 hS0 ?_;refine skH 5 hS0 ?_;refine skH 6 hS0 ?_;refine skH 7 hS0 ?_;refine skH 8 hS0 ?_;refine skH 9 hS0 ?_;refine skH 10 hS0 ?_;refine skH 11 hS0 ?_;refine tkH 12 hS0 ?_;refine wpAnyH_done (by kernel_rfl) ?_ _;go_wp2_with fail
      go_roundg (16-(i+1))
      case measure=>omega
      case rel=>exact⟨i+1,by simp,by omega,Nat.le_refl _,G8 (GH (G7 B1) (AA wr.heap.size wr).drew)⟩
     .have hne:((i:Int) !=(c:Int))=true:=by simp;omega
      obtain⟨v,hv1,hc1⟩:=((G7 SA).next (G7 B1)).cl hi3 rfl;obtain⟨u,hv2,hc2⟩:=((G7 SB).next (G7 B1)).cl hi3 (G7 HO i hic);have CM:=G8 (fun V' (hV:B0 wr V')=>AO7 (q.c i).s (q.c i).z (q.c i).es _ _ V' hF (hv1.next hV) (hv2.next hV));clear hF hic;generalize q.c i=x at*;have HKS:Hid (∀V,B0 wr V->V.cell? ⟨g+1,i*3,G5⟩=G6 (I0 x.s)/\V.cell? ⟨g+1,i*3+1,G5⟩=G6 (I0 x.z)/\V.cell? ⟨g+1,i*3+2,G5⟩=G6 (v)/\V.cell? ⟨g5+1,i*3,G5⟩=G6 (I0 x.s)/\V.cell? ⟨g5+1,i*3+1,G5⟩=G6 (I0 x.z)/\V.cell? ⟨g5+1,i*3+2,G5⟩=G6 (u)):=G8 fun V hV=>by
       obtain⟨x0,x1,x2⟩:=hc1 V hV;exact⟨x0,x1,x2,hc2 V hV⟩
      clear hv1 hv2 hc1 hc2;have hS0:=G7 HKS _ (AA wr.heap.size wr).drew;refine wp_region_held (S:=fun V:World=>V.cell? ⟨g+1,i*3,G5⟩=G6 (I0 x.s)/\V.cell? ⟨g+1,i*3+1,G5⟩=G6 (I0 x.z)/\V.cell? ⟨g+1,i*3+2,G5⟩=G6 (v)/\V.cell? ⟨g5+1,i*3,G5⟩=G6 (I0 x.s)/\V.cell? ⟨g5+1,i*3+1,G5⟩=G6 (I0 x.z)/\V.cell? ⟨g5+1,i*3+2,G5⟩=G6 (u)) (by kernel_rfl) ?_;change wpAnyH _ _ _ _ _ _ _ _ wr.drew;refine tkH 0 hS0 ?_;refine tkH 1 hS0 ?_;refine tkH 2 hS0 ?_;refine tkH 3 hS0 ?_;refine tkH 4 hS0 ?_;refine tkH 5 hS0 ?_;refine tkH 6 hS0 ?_;refine tkH 7 hS0 ?_;refine tkH 8 hS0 ?_;refine tkH 9 hS0 ?_;refine rd1 10 (fun K hK=>?_);go_simp;refine(G7 CM _ (AA wr.heap.size wr).drew).mono ?_;rintro e v1 ⟨rfl,hv1⟩;have HB1:=G8 (GH (AA wr.heap.size wr).drew hv1);have hS1:=G7 HKS _ (G7 HB1);clear hv1;refine nxH hK hS1 ?_;clear hK K;refine tkH 11 hS1 ?_;refine tkH 12 hS1 ?_;refine wpAnyH_done (by kernel_rfl) ?_ _;go_wp2_with fail
      go_roundg (16-(i+1))
      case measure=>omega
      case rel=>exact⟨i+1,by simp,by omega,Nat.le_refl _,G8 (GH (G7 B1) (G7 HB1))⟩
    .obtain rfl:i=16:=by omega
     obtain⟨vd,vl,vn,vs,vw,hv1,hc1⟩:=((G7 SA).next (G7 B1)).srv hs3 rfl;obtain⟨a7',hv7,hc7⟩:=((G7 SA).next (G7 B1)).cl hc16 rfl;obtain⟨a6',hv6,hc6⟩:=((G7 SB).next (G7 B1)).cl hc16 rfl;obtain⟨a7,c7,rfl⟩:=GK hv7;obtain⟨a6,c6,rfl⟩:=GK hv6;have CG:=G8 (dA (svP si (q.s si)).tr vn vs l wr (G7 HG) (CR3 hv1));have HC1:=G8 hc1;have HC7:=G8 hc7;have HC6:=G8 hc6;have R6:Hid (RpX wr g4 r (FU na r.ns.length nc)):=G8 (((G7 B1).block _ (G7 R5).lt).trans (G7 R5));have HB6:=G8 (GH (G7 HB5) (G7 B1));obtain⟨x0,_,_,_,_,_,x6,x7,x8,_⟩:=hc1 wr (AA _ _);clear hv1 hc1 hv7 hv6 hc7 hc6 B1 HB5 R5 SA SB HFS HFC HO HS HG hi3 hi hg;obtain⟨hr1,hr2,hr3⟩:=And.intro (G7 HRD).d (And.intro (G7 HRD).z (G7 HRD).y);have HR:=G8 (And.intro hr1 (And.intro hr2 hr3));clear hr1 hr2 hr3 HRD;generalize svP si (q.s si)=s at*;generalize s.tr=t at*;generalize lU t l=n at*;generalize yT t l=E at*;generalize t.z=z at*;generalize s.up=up at*;unfold TI at CG;go_wp2_with fail;refine(G7 CG).mono ?_;rintro e w6 ⟨rfl,hb6⟩;have A6:=G9 w6 (.cells #[S0 n.p,S0 n.d,I0 n.c,I0 n.m,I0 n.q,I0 n.v,I0 n.k,I0 n.o,I0 n.n] 62);have ND:Hid (JQ (w6.alloc (.cells #[S0 n.p,S0 n.d,I0 n.c,I0 n.m,I0 n.q,I0 n.v,I0 n.k,I0 n.o,I0 n.n] 62)) w6.heap.size n):=G8 (iH w6 n);have B6:=G8 (GH hb6 A6);clear x0 x6 x7 x8 hb6 CG A6;go_upto_region 19 with fail;generalize w6.alloc _=U6 at*;generalize w6.heap.size=gn at*;have HBF:=G8 (GH (G7 HB6) (G7 B6));have R7:Hid (RpX U6 g4 r (FU na r.ns.length nc)):=G8 (((G7 B6).block _ (G7 R6).lt).trans (G7 R6));obtain⟨x0,_,_,_,_,_,x6,_,_,_⟩:=G7 HC1 U6 (G7 B6);obtain⟨_,k1,_⟩:=G7 HC7 U6 (G7 B6);obtain⟨r0,_⟩:=(G7 R7).cells
     cases up with
     |false=>
      rw[(G7 HR).1 rfl]at r0;clear HR HC1 HC7 HC6 B6 HB6 R6 ND;go_wp2_with fail;go_ret;exact⟨rfl,G7 HBF⟩
     |true=>
      go_upto_region 21 with fail;clear x0 r0;have HK1:Hid (∀V,B0 U6 V->V.cell? ⟨g,si*10+6,G5⟩=G6 (I0 z)/\V.cell? ⟨g+1,c*3+1,G5⟩=G6 (I0 (q.c c).z)):=G8 fun V hV=>by
       obtain⟨_,_,_,_,_,_,x6,_,_,_⟩:=G7 HC1 V (GH (G7 B6) hV);obtain⟨_,k1,_⟩:=G7 HC7 V (GH (G7 B6) hV);exact⟨x6,k1⟩
      clear x6 k1;have hS0:=G7 HK1 _ (AA U6.heap.size U6).drew;refine wp_region_held (S:=fun V:World=>V.cell? ⟨g,si*10+6,G5⟩=G6 (I0 z)/\V.cell? ⟨g+1,c*3+1,G5⟩=G6 (I0 (q.c c).z)) (by kernel_rfl) ?_;change wpAnyH _ _ _ _ _ _ _ _ U6.drew;refine tkH 0 hS0 ?_;refine tkH 1 hS0 ?_;refine tkH 2 hS0 ?_;refine tkH 3 hS0 ?_;refine tkH 4 hS0 ?_;refine tkH 5 hS0 ?_;refine tkH 6 hS0 ?_;refine tkH 7 hS0 ?_;refine tkH 8 hS0 ?_;refine tkH 9 hS0 ?_;refine tkH 10 hS0 ?_;refine wpAnyH_done (by kernel_rfl) ?_ _;clear HK1 hS0;have HD:=G8 (AA U6.heap.size U6).drew;by_cases hz:z<(q.c c).z
      .have l1:decide (z<(q.c c).z)=true:=decide_eq_true hz;have r0:U6.drew.cell? ⟨g4,0,G5⟩=G6 (I0 15):=by
        have:=(RpX.cells (W:=U6.drew) (G7 R7)).1;rwa[(G7 HR).2.1 rfl (by omega)]at this
       clear HR HC1 HC7 HC6 B6 HB6 R6 ND;go_wp2_with fail;go_ret;exact⟨rfl,GH (G7 HBF) (G7 HD)⟩
      .have l1:decide (z<(q.c c).z)=false:=decide_eq_false hz;obtain⟨y1,y2,y3,y4,y5⟩:=(G7 HR).2.2 rfl (by omega);have HKS:Hid (∀V,B0 U6 V->V.cell? ⟨g4,0,G5⟩=G6 (I0 E)/\V.cell? ⟨g4,3,G5⟩=G6 (S0 n.d)/\V.cell? ⟨g4,4,G5⟩=G6 (I0 n.c)/\V.cell? ⟨g4,5,G5⟩=G6 (I0 n.m)/\V.cell? ⟨g4,6,G5⟩=G6 (I0 n.q)/\V.cell? ⟨g4,7,G5⟩=G6 (I0 n.v)/\V.cell? ⟨g4,8,G5⟩=G6 (I0 n.k)/\V.cell? ⟨g4,9,G5⟩=G6 (I0 n.o)/\V.cell? ⟨g4,10,G5⟩=G6 (I0 n.n)/\V.cell? ⟨gn,1,G5⟩=G6 (S0 n.d)/\V.cell? ⟨gn,2,G5⟩=G6 (I0 n.c)/\V.cell? ⟨gn,3,G5⟩=G6 (I0 n.m)/\V.cell? ⟨gn,4,G5⟩=G6 (I0 n.q)/\V.cell? ⟨gn,5,G5⟩=G6 (I0 n.v)/\V.cell? ⟨gn,6,G5⟩=G6 (I0 n.k)/\V.cell? ⟨gn,7,G5⟩=G6 (I0 n.o)/\V.cell? ⟨gn,8,G5⟩=G6 (I0 n.n)/\V.cell? ⟨g5+1,c*3+1,G5⟩=G6 (I0 z)/\V.cell? ⟨g5+1,c*3+2,G5⟩=G6 (FU a6 (q.c c).es.length c6)/\V.cell? ⟨g,si*10+6,G5⟩=G6 (I0 z)/\V.cell? ⟨g+1,c*3+2,G5⟩=G6 (FU a7 (q.c c).es.length c7)):=G8 fun V hV=>by
        obtain⟨s0,_,_,s3,s4,s5,s6,s7,s8,s9,s10,_⟩:=RpX.cells (W:=V) ((hV.block _ (G7 R7).lt).trans (G7 R7));have nd:=(G7 ND).B05 hV;obtain⟨_,m1,m2⟩:=G7 HC6 V (GH (G7 B6) hV);obtain⟨_,_,m7⟩:=G7 HC7 V (GH (G7 B6) hV);obtain⟨_,_,_,_,_,_,x6,_,_,_⟩:=G7 HC1 V (GH (G7 B6) hV);rw[y1]at s0;rw[y2]at s3;rw[y3]at s4 s5 s6 s7 s8 s9 s10;rw[y4]at m1;rw[y5]at m2;exact⟨s0,s3,s4,s5,s6,s7,s8,s9,s10,nd.JE 1 _ rfl,nd.JE 2 _ rfl,nd.JE 3 _ rfl,nd.JE 4 _ rfl,nd.JE 5 _ rfl,nd.JE 6 _ rfl,nd.JE 7 _ rfl,nd.JE 8 _ rfl,m1,m2,x6,m7⟩
       clear y1 y2 y3 y4 y5 HR HC1 HC7 HC6 B6 HB6 R6 R7 ND;go_upto_region 23 with fail;have hS0:=G7 HKS _ (G7 HD).drew;refine wp_region_held (S:=fun V:World=>V.cell? ⟨g4,0,G5⟩=G6 (I0 E)/\V.cell? ⟨g4,3,G5⟩=G6 (S0 n.d)/\V.cell? ⟨g4,4,G5⟩=G6 (I0 n.c)/\V.cell? ⟨g4,5,G5⟩=G6 (I0 n.m)/\V.cell? ⟨g4,6,G5⟩=G6 (I0 n.q)/\V.cell? ⟨g4,7,G5⟩=G6 (I0 n.v)/\V.cell? ⟨g4,8,G5⟩=G6 (I0 n.k)/\V.cell? ⟨g4,9,G5⟩=G6 (I0 n.o)/\V.cell? ⟨g4,10,G5⟩=G6 (I0 n.n)/\V.cell? ⟨gn,1,G5⟩=G6 (S0 n.d)/\V.cell? ⟨gn,2,G5⟩=G6 (I0 n.c)/\V.cell? ⟨gn,3,G5⟩=G6 (I0 n.m)/\V.cell? ⟨gn,4,G5⟩=G6 (I0 n.q)/\V.cell? ⟨gn,5,G5⟩=G6 (I0 n.v)/\V.cell? ⟨gn,6,G5⟩=G6 (I0 n.k)/\V.cell? ⟨gn,7,G5⟩=G6 (I0 n.o)/\V.cell? ⟨gn,8,G5⟩=G6 (I0 n.n)/\V.cell? ⟨g5+1,c*3+1,G5⟩=G6 (I0 z)/\V.cell? ⟨g5+1,c*3+2,G5⟩=G6 (FU a6 (q.c c).es.length c6)/\V.cell? ⟨g,si*10+6,G5⟩=G6 (I0 z)/\V.cell? ⟨g+1,c*3+2,G5⟩=G6 (FU a7 (q.c c).es.length c7)) (by kernel_rfl) ?_;change wpAnyH _ _ _ _ _ _ _ _ U6.drew.drew;refine tkH 0 hS0 ?_;refine tkH 1 hS0 ?_;refine tkH 2 hS0 ?_;refine tkH 3 hS0 ?_;refine tkH 4 hS0 ?_;refine tkH 5 hS0 ?_;refine tkH 6 hS0 ?_;refine tkH 7 hS0 ?_;refine tkH 8 hS0 ?_;refine tkH 9 hS0 ?_;refine tkH 10 hS0 ?_;refine tkH 11 hS0 ?_;refine tkH 12 hS0 ?_;refine tkH 13 hS0 ?_;refine tkH 14 hS0 ?_;refine tkH 15 hS0 ?_;refine tkH 16 hS0 ?_;refine tkH 17 hS0 ?_;refine tkH 18 hS0 ?_;refine tkH 19 hS0 ?_;refine tkH 20 hS0 ?_;refine tkH 21 hS0 ?_;refine tkH 22 hS0 ?_;refine tkH 23 hS0 ?_;refine tkH 24 hS0 ?_;refine tkH 25 hS0 ?_;refine tkH 26 hS0 ?_;refine tkH 27 hS0 ?_;refine tkH 28 hS0 ?_;refine tkH 29 hS0 ?_;refine tkH 30 hS0 ?_;refine tkH 31 hS0 ?_;refine tkH 32 hS0 ?_;refine tkH 33 hS0 ?_;refine tkH 34 hS0 ?_;refine tkH 35 hS0 ?_;refine tkH 36 hS0 ?_;refine tkH 37 hS0 ?_;refine tkH 38 hS0 ?_;refine tkH 39 hS0 ?_;refine tkH 40 hS0 ?_;refine tkH 41 hS0 ?_;refine tkH 42 hS0 ?_;refine tkH 43 hS0 ?_;refine wpAnyH_done (by kernel_rfl) ?_ _;go_wp2_with fail;go_ret;exact⟨rfl,GH (G7 HBF) (G7 HD).drew⟩
