/-
  Part.
-/
import Derived.Test.YtodnhndkghdinaaGreatDoorLOXWdWi
import Derived.Test.YtodnhndkghdinaaGreatDoorLOXWdQp
import Derived.Test.YtodnhndkghdinaaGreatDoorLOXWdTs
import Derived.Test.YtodnhndkghdinaaGreatDoorLOXWdPq
set_option maxRecDepth 20000
set_option maxHeartbeats 8000000
namespace Go.Proofs.YtodnhndkghdinaaGreatDoor
open Go.RowKit Go.Proofs.Tryz
theorem CM3{W:World}{g:Nat}{x:AQ}(h:F5 W g x):BZ W (.slice (some ⟨g,0,none⟩) 1 1) [x]:=by
 refine .inr ⟨g,0,1,rfl,Nat.le_refl _,by decide,h.ltz,by simp,fun j v hj=>?_⟩;rw[F7,NY,List.append_nil]at hj;exact h.row j v hj
theorem CM8{α:Type}[Lay α]{W:World}{B:Nat}{a:Option Addr}{n c:Nat}{xs:List α}(h:BF W B (.slice a n c) xs):xs.length≤c:=by
 rcases h.seq with⟨a',cap,e,rfl,_⟩|⟨b,off,cap,e,h1,_⟩
 ·exact Nat.zero_le _
 ·simp only[Value.slice.injEq]at e;rw[e.2.2];exact h1
structure QuI(i:Nat)(x:Ps):Prop where
 ok:II 300 x
 down:II 300 (JO x 0)
theorem CM9{q:Pw}(h:NU q){i:Nat}(hi:i<3):QuI i (q.s i):=by
 refine⟨(h.s i hi).more h.n1,?_⟩;have:=((AF0 h hi 0).s i hi).more h.n1;simpa only[BQ]using this
theorem CL9(p:Pw)(d:Dd)(k:Nat)(u:Value)(V:World)(h:NU p)(hx:WX V k (doP p d).2):Calls prog 15 #[wP k,ddV d,rpV (doP p d).1 u] V fun e w'=>e=.returned (.bool true)∧Below V.heap.size V w':=by
 have HP:=AA (CL7 (d:=d) h);have hw:=Z4 d h;have hD:(doP p d).2.D.length≤300:=by have:=hw.few;have:=hw.n1;omega
 generalize doP p d=x at*;obtain⟨r,q⟩:=x;simp only at hx hw HP hD;have B0:=AA (LB.start V d r u);have CA:=AA (fun W (hW:Below V.heap.size V W)=>B26 q k W (hx.next hW) hD);have CS:=AA (fun W (hW:Below V.heap.size V W) b (hb:b<3)=>kG q k b W (hx.next hW) hb _ rfl ((hw.s b hb).more hw.n1).few);have HQ:=AA (fun i (hi:i<3)=>CM9 hw hi);clear hw hx h;unfold wP at CA CS;unfold wP ddV rpV;go_enter func15,ntmps15;go_upto_region 1 with fail;generalize ((V.alloc _).alloc _)=W0 at*;have dr:=(A8 B0).d.row;have d0:W0.cell? ⟨V.heap.size,0,none⟩=some (.int .i64 d.k):=by
  simp only[Nat.zero_add]at dr;exact dr 0 _ rfl
 obtain⟨r0,_,_,_,_,_,_,_,_,_,_,_⟩:=(A8 B0).r.cells;clear dr;by_cases hk:d.k=1
 case neg=>
  have hk2:(d.k !=1)=true:=by simp[hk]
  clear hk;go_wp2_with fail;go_ret;exact⟨rfl,(A8 B0).b⟩
 case pos=>
  by_cases hE:r.E=0
  case neg=>
   have hE2:(r.E !=0)=true:=by simp[hE]
   rw[hk]at d0;clear hk hE;go_wp2_with fail;go_ret;exact⟨rfl,(A8 B0).b⟩
  case pos=>
   obtain⟨l,t,hl,hc2⟩:=A8 HP hk hE;rw[hk]at d0;rw[hE]at r0;have HC2:=AA hc2;have HB0:=AA (A8 B0).b;clear hk hE HP hc2 B0;go_wp2_with fail;refine(A8 CA _ (A8 HB0)).mono ?_;rintro e w1 ⟨a,c,rfl,ho,hb1⟩;have B1:=AA (AL (A8 HB0) hb1);have ht:q.D[l.length]?=some t:=by rw[hl];simp
   have hn:q.D.length=l.length+1:=by rw[hl];simp
   obtain⟨b,off,cap,he,_,_,_,_,_⟩:=XV ho.seq ht;simp only[Value.slice.injEq,true_and]at he;obtain⟨rfl,rfl⟩:=he;obtain⟨t0,t1,t2,t3,t4,t5,t6⟩:=CN1 ho.seq ht;rw[hn]at hD⊢;generalize l.length=n at*;have h0:((n:Int)+1==0)=false:=beq_eq_false_iff_ne.2 (by omega);have hn3:(n:Int)≤300:=by omega
   have hn4:(n:Int)<(n:Int)+1:=by omega
   clear ho hb1 ht hl hn HB0 CA d0 r0;go_upto_region 7 with fail;have X0:F5 (w1.alloc (.cells #[.int .i64 t.z,.int .i64 t.o,.int .i64 t.s,.string ⟨t.p.toArray⟩,.string ⟨t.d.toArray⟩,.int .i64 t.v,.int .i64 t.w] 62)) w1.heap.size t:=heap_alloc_new w1 _;have A1:=AA (AB w1 (.cells #[.int .i64 t.z,.int .i64 t.o,.int .i64 t.s,.string ⟨t.p.toArray⟩,.string ⟨t.d.toArray⟩,.int .i64 t.v,.int .i64 t.w] 62));generalize w1.alloc _=W2 at*;have HX:=AA (fun V (hV:Below W2.heap.size W2 V)=>X0.TY hV X0.ltz);have B2:=AA (AL (A8 B1) (A8 A1));generalize w1.heap.size=gx at*;clear t0 t1 t2 t3 t4 t5 t6 h0 hn3 hn4 X0 A1 B1 hD;go_wp2_with fail
   go_loopg [9,10] 3 (fun kx s9 s10 wr=>∃i:Nat,s9=.int .i64 (CM0 q t i:Nat)∧s10=.int .i64 i∧i≤3∧3-i≤kx∧Hid (Below W2.heap.size W2 wr))
   case atStart=>exact⟨0,rfl,rfl,by omega,by omega,AA (Below.refl _ _)⟩
   case round=>
    obtain⟨i,rfl,rfl,hi,hg,B3⟩:=hrel;by_cases hi3:i<3
    ·have hi4:(i:Int)<3:=by omega
     have C:=AA (A8 CS _ (AL (A8 B2) (A8 B3)) i hi3);have HT:=AA (A8 HQ i hi3);have hcs:=CL3 q t i;have hcle:CM0 q t i≤i:=by rw[CM0];exact Nat.le_trans (List.length_filter_le _ _) (by simp)
     unfold sfB at hcs;generalize q.s i=x at*;generalize hsv:svP i x=s at*;go_wp2_with fail;refine(A8 C).mono ?_;rintro e w3 ⟨ad,cd,al,cl,an,cn,ai,ci,aw,cw,rfl,o1,o2,o3,o4,o5,hb3⟩;have HV:=AA (show SvV w3 (.agg #[.bool s.up,.slice ad s.fs.length cd,.int .i64 s.id,.int .i64 s.ep,.slice al s.ts.length cl,.int .i64 s.dn,.int .i64 s.tr.z,.slice an s.tr.ns.length cn,.slice ai s.tr.ss.length ci,.slice aw s.ws.length cw]) s from⟨_,_,_,_,_,rfl,NG.1 o1.seq,JH.1 o2.seq,o3.seq,o4.seq,o5.seq⟩);have hcp:=CM8 o2;have HL:=AA (JH.1 o2.seq);have B4:=AA (AL (A8 B3) hb3);clear hb3 o1 o2 o3 o4 o5 C B3;go_upto_region 12 with fail;have X1:=BN.new w3 s.up s.id s.ep s.dn s.tr.z (.slice ad s.fs.length cd) (.slice al s.ts.length cl) (.slice an s.tr.ns.length cn) (.slice ai s.tr.ss.length ci) (.slice aw s.ws.length cw);have A4:=AA (AB w3 (.cells #[.bool s.up,.slice ad s.fs.length cd,.int .i64 s.id,.int .i64 s.ep,.slice al s.ts.length cl,.int .i64 s.dn,.int .i64 s.tr.z,.slice an s.tr.ns.length cn,.slice ai s.tr.ss.length ci,.slice aw s.ws.length cw] 48));generalize w3.alloc _=W4 at*;have CN3:=AA (AL (A8 B4) (A8 A4));have HV4:=AA (fun V (hV:Below W4.heap.size W4 V)=>((A8 HV).next (A8 A4)).next hV);have HL4:=AA (fun V (hV:Below W4.heap.size W4 V)=>((A8 HL).next (A8 A4)).next hV);generalize w3.heap.size=g1 at*;have HX1:=AA X1;obtain⟨x0,x1,x2,x3,x4,x5,x6,x7,x8,x9⟩:=X1.cells;clear X1 B4 A4 HV HL;by_cases hu:x.up=true
     ·have hup:s.up=true:=by rw[←hsv,DJ hu]
      have hdn:s.dn=(x.dn:Nat):=by rw[←hsv,DJ hu]
      have hts:s.ts=x.m:=by rw[←hsv,DJ hu]
      have CC:=AA (fun V (hV:Below W4.heap.size W4 V)=>BF5 (i:=i) (A8 HT).ok hu (ke:=0) (Int.le_refl 0) (.agg #[.bool s.up,.slice ad s.fs.length cd,.int .i64 s.id,.int .i64 s.ep,.slice al s.ts.length cl,.int .i64 s.dn,.int .i64 s.tr.z,.slice an s.tr.ns.length cn,.slice ai s.tr.ss.length ci,.slice aw s.ws.length cw]) V (by rw[hsv];exact A8 HV4 V hV));have CB:=AA (fun V v hv=>BX0 (A8 HT).down rfl hi3 v V hv);simp only[Int.toNat_zero]at CC;have hm3:(svP i (upP (JO x 0))).ts=(JO x 0).m:=by rw[DJ (p:=upP (JO x 0)) rfl];rfl
      have hl3:(JO x 0).m.length≤300:=(A8 HT).down.small.2;have hlx:x.m.length≤300:=(A8 HT).ok.small.2;have hdx:x.dn≤x.m.length:=(A8 HT).ok.dn;rw[hu,Bool.true_and,←hm3,←hts]at hcs;rw[←hm3]at hl3;rw[←hts]at hlx hdx;generalize x.dn=y at*;generalize hs2:svP i (JO x 0)=s2 at*;generalize hs3:svP i (upP (JO x 0))=s3 at*;rw[hup]at x0 CC;rw[hdn]at x5 CC;clear hs2 hs3 hsv hm3 hts hup hu HT;go_wp2_with fail;refine(A8 CC _ (Below.refl _ _)).mono ?_;rintro e w5 ⟨v2,rfl,hv2,hb5⟩;obtain⟨bd,nd2,cd2,al2,cl2,an2,cn2,ai2,ci2,aw2,cw2,rfl,dk2,_,_,_,_⟩:=hv2.five;have HD2:=AA dk2;have B5:=AA hb5;clear hv2 hb5 dk2 CC x0 x1 x2 x3 x4 x5 x6 x7 x8 x9;go_upto_region 14 with fail;have X2:=BN.new w5 s2.up s2.id s2.ep s2.dn s2.tr.z (.slice bd nd2 cd2) (.slice al2 s2.ts.length cl2) (.slice an2 s2.tr.ns.length cn2) (.slice ai2 s2.tr.ss.length ci2) (.slice aw2 s2.ws.length cw2);have A6:=AA (AB w5 (.cells #[.bool s2.up,.slice bd nd2 cd2,.int .i64 s2.id,.int .i64 s2.ep,.slice al2 s2.ts.length cl2,.int .i64 s2.dn,.int .i64 s2.tr.z,.slice an2 s2.tr.ns.length cn2,.slice ai2 s2.tr.ss.length ci2,.slice aw2 s2.ws.length cw2] 48));generalize w5.alloc _=W6 at*;have HD6:=AA ((A8 HD2).next (A8 A6));have B6:=AA (AL (A8 B5) (A8 A6));generalize w5.heap.size=g2 at*;obtain⟨_,z1,_,_,_,_,_,_,_,_⟩:=X2.cells;have C7:=AA (A8 CB _ _ (A8 HD6));clear X2 A6 B5 HD2 CB;go_wp2_with fail;refine(A8 C7).mono ?_;rintro e w7 ⟨v3,rfl,hv3,hb7⟩;obtain⟨bd3,nd3,cd3,bl,bc,an3,cn3,ai3,ci3,aw3,cw3,rfl,_,lg3,_,_,_⟩:=hv3.five;have HG3:=AA lg3;have B7:=AA (AL (A8 B6) hb7);clear hv3 hb7 lg3 C7 z1 B6 HD6;go_upto_region 17 with fail;have X3:=BN.new w7 s3.up s3.id s3.ep s3.dn s3.tr.z (.slice bd3 nd3 cd3) (.slice bl s3.ts.length bc) (.slice an3 s3.tr.ns.length cn3) (.slice ai3 s3.tr.ss.length ci3) (.slice aw3 s3.ws.length cw3);have hA8:=AA (AB w7 (.cells #[.bool s3.up,.slice bd3 nd3 cd3,.int .i64 s3.id,.int .i64 s3.ep,.slice bl s3.ts.length bc,.int .i64 s3.dn,.int .i64 s3.tr.z,.slice an3 s3.tr.ns.length cn3,.slice ai3 s3.tr.ss.length ci3,.slice aw3 s3.ws.length cw3] 48));generalize w7.alloc _=W5 at*;have HG5:=AA (fun V (hV:Below W5.heap.size W5 V)=>((A8 HG3).next (A8 hA8)).next hV);have B8:=AA (AL (A8 B7) (A8 hA8));generalize w7.heap.size=g3 at*;have HX3:=AA X3;have B9:=AA (AL (A8 CN3) (A8 B8));clear X3 hA8 B7 HG3;have HKS:Hid (∀V,Below W5.heap.size W5 V→V.cell? ⟨gx,0,none⟩=some (.int .i64 t.z)∧V.cell? ⟨gx,1,none⟩=some (.int .i64 t.o)∧V.cell? ⟨gx,2,none⟩=some (.int .i64 t.s)∧V.cell? ⟨gx,3,none⟩=some (.string ⟨t.p.toArray⟩)∧V.cell? ⟨gx,4,none⟩=some (.string ⟨t.d.toArray⟩)∧V.cell? ⟨gx,5,none⟩=some (.int .i64 t.v)∧V.cell? ⟨gx,6,none⟩=some (.int .i64 t.w)∧V.cell? ⟨g1,4,none⟩=some (.slice al s.ts.length cl)∧V.cell? ⟨g1,5,none⟩=some (.int .i64 (y:Nat))∧V.cell? ⟨g3,4,none⟩=some (.slice bl s3.ts.length bc)):=AA fun V hV=>by
       have R:=(A8 HX V (AL (A8 B9) hV)).row;simp only[Nat.zero_add]at R;obtain⟨_,_,_,_,y4,y5,_,_,_,_⟩:=((A8 HX1).next (AL (A8 B8) hV)).cells;obtain⟨_,_,_,_,z4,_,_,_,_,_⟩:=((A8 HX3).next hV).cells;rw[hdn]at y5;exact⟨R 0 _ rfl,R 1 _ rfl,R 2 _ rfl,R 3 _ rfl,R 4 _ rfl,R 5 _ rfl,R 6 _ rfl,y4,y5,z4⟩
      have CW1:=AA (fun V (hV:Below W5.heap.size W5 V)=>CL4 (inB s3.ts t) (.slice (some ⟨V.heap.size,0,none⟩) 1 1) (.slice bl s3.ts.length bc) [t] s3.ts (V.alloc (.cells #[.int .i64 t.z,.int .i64 t.o,.int .i64 t.s,.string ⟨t.p.toArray⟩,.string ⟨t.d.toArray⟩,.int .i64 t.v,.int .i64 t.w] 62)) (CM3 (heap_alloc_new V _)) ((JH.2 (A8 HG5 V hV)).next (AB _ _)) (by simp) (by omega) CM2);have CW2:=AA (fun V (hV:Below W5.heap.size W5 V)=>CL4 (inB (s.ts.take y) t) (.slice (some ⟨V.heap.size,0,none⟩) 1 1) (.slice al y cl) [t] (s.ts.take y) (V.alloc (.cells #[.int .i64 t.z,.int .i64 t.o,.int .i64 t.s,.string ⟨t.p.toArray⟩,.string ⟨t.d.toArray⟩,.int .i64 t.v,.int .i64 t.w] 62)) (CM3 (heap_alloc_new V _)) ((JH.2 (J5.take (A8 HL4 V (AL (A8 B8) hV)) (by omega))).next (AB _ _)) (by simp) (by rw[List.length_take];omega) CM2);have hy1:(y:Int)≤(cl:Int):=by omega
      generalize inB s3.ts t=f1 at*;generalize inB (s.ts.take y) t=f2 at*;clear HX HX1 HX3 HG5 HL4 HV4 hdn B8
      go_cut [80]from 63 to 81 (fun t80 wx=>t80=.bool (f1&&f2)∧Hid (Below W5.heap.size W5 wx))
      case first=>
       clear hcs hcle CN3 B9
       cases f1 with
       |false=>
        have hS0:=A8 HKS _ (Below.refl W5.heap.size W5).drew;refine wp_region_held (S:=fun V:World=>V.cell? ⟨gx,0,none⟩=some (.int .i64 t.z)∧V.cell? ⟨gx,1,none⟩=some (.int .i64 t.o)∧V.cell? ⟨gx,2,none⟩=some (.int .i64 t.s)∧V.cell? ⟨gx,3,none⟩=some (.string ⟨t.p.toArray⟩)∧V.cell? ⟨gx,4,none⟩=some (.string ⟨t.d.toArray⟩)∧V.cell? ⟨gx,5,none⟩=some (.int .i64 t.v)∧V.cell? ⟨gx,6,none⟩=some (.int .i64 t.w)∧V.cell? ⟨g1,4,none⟩=some (.slice al s.ts.length cl)∧V.cell? ⟨g1,5,none⟩=some (.int .i64 (y:Nat))∧V.cell? ⟨g3,4,none⟩=some (.slice bl s3.ts.length bc)) (by kernel_rfl) ?_;change wpAnyH _ _ _ _ _ _ _ _ W5.drew;refine tkH 0 hS0 ?_;refine tkH 2 hS0 ?_;refine tkH 3 hS0 ?_;refine tkH 4 hS0 ?_;refine rd1 1 (fun K hK=>?_);go_simp;have HA1:=AA (AL (Below.refl W5.heap.size W5).drew (AB W5.drew (.cells #[.int .i64 t.z,.int .i64 t.o,.int .i64 t.s,.string ⟨t.p.toArray⟩,.string ⟨t.d.toArray⟩,.int .i64 t.v,.int .i64 t.w] 62)));have hT1:=A8 HKS _ (A8 HA1);refine nxH hK hT1 ?_;clear hK K;refine rd1 5 (fun K hK=>?_);go_simp;refine(A8 CW1 _ (Below.refl _ _).drew).mono ?_;rintro e w6 ⟨rfl,hb6⟩;have HB6:=AA (AL (A8 HA1) hb6);have hS1:=A8 HKS _ (A8 HB6);clear hb6;refine nxH hK hS1 ?_;clear hK K;refine tkH 6 hS1 ?_;refine skH 7 hS1 ?_;refine skH 8 hS1 ?_;refine skH 9 hS1 ?_;refine skH 10 hS1 ?_;refine skH 11 hS1 ?_;refine skH 12 hS1 ?_;refine skH 13 hS1 ?_;refine skH 14 hS1 ?_;refine skH 15 hS1 ?_;refine skH 16 hS1 ?_;refine tkH 17 hS1 ?_;refine wpAnyH_done (by kernel_rfl) ?_ _;go_wp2_with fail
        go_meet
        exact⟨rfl,AA (A8 HB6)⟩
       |true=>
        have hS0:=A8 HKS _ (Below.refl W5.heap.size W5).drew;refine wp_region_held (S:=fun V:World=>V.cell? ⟨gx,0,none⟩=some (.int .i64 t.z)∧V.cell? ⟨gx,1,none⟩=some (.int .i64 t.o)∧V.cell? ⟨gx,2,none⟩=some (.int .i64 t.s)∧V.cell? ⟨gx,3,none⟩=some (.string ⟨t.p.toArray⟩)∧V.cell? ⟨gx,4,none⟩=some (.string ⟨t.d.toArray⟩)∧V.cell? ⟨gx,5,none⟩=some (.int .i64 t.v)∧V.cell? ⟨gx,6,none⟩=some (.int .i64 t.w)∧V.cell? ⟨g1,4,none⟩=some (.slice al s.ts.length cl)∧V.cell? ⟨g1,5,none⟩=some (.int .i64 (y:Nat))∧V.cell? ⟨g3,4,none⟩=some (.slice bl s3.ts.length bc)) (by kernel_rfl) ?_;change wpAnyH _ _ _ _ _ _ _ _ W5.drew;refine tkH 0 hS0 ?_;refine tkH 2 hS0 ?_;refine tkH 3 hS0 ?_;refine tkH 4 hS0 ?_;refine rd1 1 (fun K hK=>?_);go_simp;have HA1:=AA (AL (Below.refl W5.heap.size W5).drew (AB W5.drew (.cells #[.int .i64 t.z,.int .i64 t.o,.int .i64 t.s,.string ⟨t.p.toArray⟩,.string ⟨t.d.toArray⟩,.int .i64 t.v,.int .i64 t.w] 62)));have hT1:=A8 HKS _ (A8 HA1);refine nxH hK hT1 ?_;clear hK K;refine rd1 5 (fun K hK=>?_);go_simp;refine(A8 CW1 _ (Below.refl _ _).drew).mono ?_;rintro e w6 ⟨rfl,hb6⟩;have HB6:=AA (AL (A8 HA1) hb6);have hS1:=A8 HKS _ (A8 HB6);clear hb6;refine nxH hK hS1 ?_;clear hK K;refine tkH 6 hS1 ?_;refine tkH 7 hS1 ?_;refine tkH 9 hS1 ?_;refine tkH 10 hS1 ?_;refine tkH 11 hS1 ?_;refine tkH 12 hS1 ?_;refine tkH 13 hS1 ?_;refine tkH 14 hS1 ?_;refine tkH 15 hS1 ?_;refine rd1 8 (fun K hK=>?_);go_simp;have HA2:=AA (AL (A8 HB6) (AB w6 (.cells #[.int .i64 t.z,.int .i64 t.o,.int .i64 t.s,.string ⟨t.p.toArray⟩,.string ⟨t.d.toArray⟩,.int .i64 t.v,.int .i64 t.w] 62)));have hT2:=A8 HKS _ (A8 HA2);refine nxH hK hT2 ?_;clear hK K;refine rd1 16 (fun K hK=>?_);go_simp;refine(A8 CW2 _ (A8 HB6)).mono ?_;rintro e w7 ⟨rfl,hb7⟩;have HB7:=AA (AL (A8 HA2) hb7);have hS2:=A8 HKS _ (A8 HB7);clear hb7;refine nxH hK hS2 ?_;clear hK K;refine tkH 17 hS2 ?_;refine wpAnyH_done (by kernel_rfl) ?_ _;go_wp2_with fail
        go_meet
        exact⟨rfl,AA (A8 HB7)⟩
      case rest=>
       obtain⟨rfl,HB⟩:=hcut;have B10:=AA (AL (A8 B9) (A8 HB));generalize (f1&&f2)=f at*
       cases f with
       |false=>
        simp only[Bool.false_eq_true,if_false,Nat.add_zero]at hcs;go_wp2_with fail
        go_roundg (3-(i+1))
        case measure=>omega
        case rel=>exact⟨i+1,by rw[hcs],by simp,by omega,Nat.le_refl _,B10⟩
       |true=>
        simp only[if_true]at hcs;have hc9:(CM0 q t i:Int)≤3:=by omega
        go_wp2_with fail
        go_roundg (3-(i+1))
        case measure=>omega
        case rel=>exact⟨i+1,by rw[hcs];simp,by simp,by omega,Nat.le_refl _,B10⟩
     ·have hu':x.up=false:=by simpa using hu
      have hup:s.up=false:=by rw[←hsv,MB hu']
      rw[hup]at x0;rw[hu',Bool.false_and]at hcs;simp only[Bool.false_eq_true,if_false,Nat.add_zero]at hcs;clear hu hu' hup hsv;go_wp2_with fail
      go_roundg (3-(i+1))
      case measure=>omega
      case rel=>exact⟨i+1,by rw[hcs],by simp,by omega,Nat.le_refl _,CN3⟩
    ·obtain rfl:i=3:=by omega
     have hge:decide (2≤CM0 q t 3)=true:=decide_eq_true (A8 HC2);have hge2:decide ((2:Int)≤(CM0 q t 3:Int))=true:=decide_eq_true (by have:=A8 HC2;omega);go_wp2_with fail;go_ret;exact⟨rfl,AL (A8 B2) (A8 B3)⟩
theorem CL5(ds:List Dd)(v:Value)(W:World)(hv:BZ W v ds)(hm:∀d∈ds,d.q.p.length≤140737488355328∧d.q.d.length≤140737488355328)(hT:VX W):Calls prog 5 #[v] W fun e w'=>e=.returned (.bool true)∧Below W.heap.size W w':=by
 have C:=AA (CL8 ds v W hv hm hT (fun k V i d u _ hx _=>CL9 _ d k u V (U5 _ _ (O9 k)) hx));unfold wP at C;clear hv hm hT;go_enter func5,ntmps5;go_wp2_with fail;refine(A8 C).mono ?_;rintro e w1 ⟨k,rfl,hp⟩;have HP:=AA hp.b;clear hp C;go_wp2_with fail;go_ret;exact⟨rfl,A8 HP⟩
end Go.Proofs.YtodnhndkghdinaaGreatDoor
