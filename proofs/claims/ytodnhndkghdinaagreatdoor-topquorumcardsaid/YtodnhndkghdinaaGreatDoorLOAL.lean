/-
  Part.
-/
import Derived.Test.YtodnhndkghdinaaGreatDoorLOAF
import Derived.Test.YtodnhndkghdinaaGreatDoorLOAI
import Derived.Test.YtodnhndkghdinaaGreatDoorLOAK
set_option maxRecDepth 20000
set_option maxHeartbeats 8000000
namespace Go.Proofs.YtodnhndkghdinaaGreatDoor
open Go.RowKit Go.Proofs.Tryz
theorem CC7(x:AQ):gdE x≠16:=by
 unfold gdE
 repeat' split
 all_goals decide
theorem BI5(l:List UInt8):oP l≠16:=by
 unfold oP
 split<;>decide
theorem BI6(d l:List UInt8):YK d l≠16:=by
 unfold YK
 repeat' split
 all_goals decide
theorem CC8(t:Tr)(r:Rq):gI t r≠16:=by
 unfold gI zS zO AH9 iU
 repeat' split
 all_goals first|decide|exact BI5 _|exact BI6 _ _
theorem CC9(t:Tr)(x:AQ):RZ t x≠16:=by
 unfold RZ
 repeat' split
 all_goals first|decide|exact CC7 _
theorem CD0(t:Tr)(x:AQ):gG t x≠16:=by
 unfold gG A77 B54 C29
 repeat' split
 all_goals decide
theorem CD1(t:Tr)(x:AQ):UW t x≠16:=by
 unfold UW
 repeat' split
 all_goals first|decide|exact CC9 _ _|exact CD0 _ _
theorem CK6(p:Pw)(d:Dd):wE p d≠16:=by
 unfold wE ZU
 repeat' split
 all_goals first|decide|exact CC8 _ _|exact CD1 _ _
theorem C15{E:Int}(h:E≠0)(h2:E≠16):PG 1 E=false:=by simp[PG,h,h2]
theorem TAt.turn{W V:World}{k g:Nat}{x:AQ}(h:TAt W g x)(ht:Touch (· =k) W V)(hk:k≠g):TAt V g x:=(ht.block g h.lt (fun e=>hk e.symm)).trans h
theorem AG9(p:Pw)(d:Dd)(k:Nat)(W:World)(hx:WX W k p)(hl:ldP p.r=-1):Calls prog 63 #[wP k,ddV d] W (Did W k 1 (OZ 14,p)):=by
 have D0:=AA (DB.start W d);have CL:=AA (fun V (hV:B0 W V)=>O8 p k V (hx.next hV));rw[hl]at CL;have CR:=AA (fun W=>FU 14 W);unfold QE at CR;clear hx hl;unfold wP ddV;go_enter func63,ntmps63;go_upto_region 1 with fail;generalize ((W.alloc _).alloc _)=W0 at*;go_wp2_with fail;refine(A8 CL _ (A8 D0).b).mono ?_;rintro e w1 ⟨rfl,hb1⟩;have D1:=AA ((A8 D0).next hb1);clear hb1 D0;go_wp2_with fail;refine(A8 CR _).mono ?_;rintro e w2 ⟨rfl,hb2⟩;have D2:=(A8 D1).next hb2;have b0:=D2.r.cells;have g0:=D2.r.AX;have X1:Hid (Did W k 1 (OZ 14,p) (.returned (QE 14)) (ZX w2 (W.heap.size+1) (I0 14) (I0 0) (.string ⟨#[]⟩) (.string ⟨#[]⟩) (I0 0) (I0 0) (I0 0) (I0 0) (I0 0) (I0 0) (I0 0) (N0))):=AA (RD rfl (FK (Touch.of_below D2.b) (by omega) _ _ _ _ _ _ _ _ _ _ _ _) (by decide));clear hb2 D2 D1;unfold QE at X1;go_wp2_with fail;exact bodyPost_ret (v:=.agg #[I0 14,I0 0,.string ⟨#[]⟩,.string ⟨#[]⟩,I0 0,I0 0,I0 0,I0 0,I0 0,I0 0,I0 0,N0]) (by simp[results,results63,go_sem,b0]) rfl (A8 X1)
theorem B12(p:Pw)(d:Dd)(k b:Nat)(W:World)(hx:WX W k (JU p))(hT:VX W)(h:NU p)(hn:p.n<300)(hb:b<3)(hr:p.r b=2)(hc:0≤d.c∧d.c<16)(hp:d.q.p.length≤140737488355328)(hd:d.q.d.length≤140737488355328)(hE:wE p d≠0):Calls prog 63 #[wP k,ddV d] W (Did W k 1 (OZ (wE p d),JU p)):=by
 have D0:=AA (DB.start W d);have hl:=(ZO h hb hr).2.2;have CL:=AA (fun V (hV:B0 W V)=>O8 (JU p) k V (hx.next hV));have CP:=AA (fun V (hV:B0 W V)=>ZQ (JU p) d k b V (hx.next hV) (hT.next hV) hb hl (h.rup b hb (by rw[hr];decide)) ((h.s b hb).more (by omega)) (AX6 h hn hb hr).1 hc hp hd);have e1:wE (JU p) d=wE p d:=rfl;rw[e1]at CP;simp only[show (JU p).r=p.r from rfl,hl]at CL;have CR:=AA (fun W=>FU (wE p d) W);have HL:=AA (C15 hE (CK6 p d));have hE2:(wE p d==0)=false:=beq_eq_false_iff_ne.2 hE;unfold QE at CR;unfold DX at CP;clear hx hl h hr hT hc hp hd e1;generalize wE p d=E at*;generalize wX (JU p) d=x at*;unfold wP ddV;unfold ddV at CP;go_enter func63,ntmps63;go_upto_region 1 with fail;generalize ((W.alloc _).alloc _)=W0 at*;go_wp2_with fail;refine(A8 CL _ (A8 D0).b).mono ?_;rintro e w1 ⟨rfl,hb1⟩;have D1:=AA ((A8 D0).next hb1);clear hb1 D0;obtain⟨⟨d0,d1,d2,d3,d4,d5,d6⟩,d7,d8,d9,d10,d11,d12⟩:=(A8 D1).cells;have hbn:((b:Int)==-1)=false:=beq_eq_false_iff_ne.2 (by omega);go_wp2_with fail;refine(A8 CP _ (A8 D1).b).mono ?_;rintro e w2 ⟨rfl,hb2⟩;have D2:=AA (((A8 D1).next hb2).next (AB w2 (.cells #[I0 x.z,I0 x.o,I0 x.s,S0 x.p,S0 x.d,I0 x.v,I0 x.w] 62)));clear d0 d1 d2 d3 d4 d5 d6 d7 d8 d9 d10 d11 d12 hb2 D1 CP CL;go_wp2_with fail;refine(A8 CR _).mono ?_;rintro e w3 ⟨rfl,hb3⟩;have D3:=(A8 D2).next hb3;have b0:=D3.r.cells;have g0:=D3.r.AX;have X1:Hid (Did W k 1 (OZ E,JU p) (.returned (QE E)) (ZX w3 (W.heap.size+1) (I0 E) (I0 0) (.string ⟨#[]⟩) (.string ⟨#[]⟩) (I0 0) (I0 0) (I0 0) (I0 0) (I0 0) (I0 0) (I0 0) (N0))):=AA (RD rfl (FK (Touch.of_below D3.b) (by omega) _ _ _ _ _ _ _ _ _ _ _ _) (A8 HL));clear hb3 D3 D2;unfold QE at X1;go_wp2_with fail;exact bodyPost_ret (v:=.agg #[I0 E,I0 0,.string ⟨#[]⟩,.string ⟨#[]⟩,I0 0,I0 0,I0 0,I0 0,I0 0,I0 0,I0 0,N0]) (by simp[results,results63,go_sem,b0]) rfl (A8 X1)
theorem AH0(p:Pw)(d:Dd)(k b:Nat)(W:World)(hx:WX W k (JU p))(hT:VX W)(h:NU p)(w:Wr p d b)(hc:0≤d.c∧d.c<16)(hp:d.q.p.length≤140737488355328)(hd:d.q.d.length≤140737488355328):Calls prog 63 #[wP k,ddV d] W (Did W k 1 (OH (JU p) d)):=by
 have D0:=AA (DB.start W d);have hl:=(ZO h w.lt w.two).2.2;have hk0:=hx.lt;have CL:=AA (fun V (hV:B0 W V)=>O8 (JU p) k V (hx.next hV));have CP:=AA (fun V (hV:B0 W V)=>ZQ (JU p) d k b V (hx.next hV) (hT.next hV) w.lt hl (h.rup b w.lt (by rw[w.two];decide)) ((h.s b w.lt).more (by have:=w.n;omega)) (AX6 h w.n w.lt w.two).1 hc hp hd);have e1:wE (JU p) d=0:=w.e;have e2:wX (JU p) d=wX p d:=rfl;rw[e1,e2]at CP;simp only[show (JU p).r=p.r from rfl,hl]at CL;have CS:=AA (fun V (hV:WX V k (JU p))=>AF9 (p.n+1) p d k b V hV h w);have hlw:(wL p d).length≤3:=Nat.le_trans (List.length_filter_le _ _) (by simp);have HX:=AA hx;have HI:=AA (And.intro h w);have HN:Hid (ldP p.r≠ -1∧¬wE p d≠0):=AA ⟨by rw[hl];omega,by have:=w.e;omega⟩;have hbn:((b:Int)==-1)=false:=beq_eq_false_iff_ne.2 (by omega);unfold DX at CP CS;clear hx hl h w hT hp hd e1 e2;generalize hxx:wX p d=x at*;have HXX:=AA hxx;clear hxx;unfold wP ddV;unfold ddV at CP CS;go_enter func63,ntmps63;go_upto_region 1 with fail;generalize ((W.alloc _).alloc _)=W0 at*;go_wp2_with fail;refine(A8 CL _ (A8 D0).b).mono ?_;rintro e w1 ⟨rfl,hb1⟩;have D1:=AA ((A8 D0).next hb1);clear hb1 D0;obtain⟨⟨d0,d1,d2,d3,d4,d5,d6⟩,d7,d8,d9,d10,d11,d12⟩:=(A8 D1).cells;go_wp2_with fail;refine(A8 CP _ (A8 D1).b).mono ?_;rintro e w2 ⟨rfl,hb2⟩;have D2:=AA (((A8 D1).next hb2).next (AB w2 (.cells #[I0 x.z,I0 x.o,I0 x.s,S0 x.p,S0 x.d,I0 x.v,I0 x.w] 62)));have A2:=AA (TAt.new w2 x);have hg2:W.heap.size+2≤w2.heap.size:=((A8 D1).next hb2).r.lt;clear d0 d1 d2 d3 d4 d5 d6 d7 d8 d9 d10 d11 d12 hb2 D1 CP CL hbn;go_upto_region 6 with fail;generalize w2.alloc _=W2 at*;generalize w2.heap.size=g at*;obtain⟨⟨d0,d1,d2,d3,d4,d5,d6⟩,d7,d8,d9,d10,d11,d12⟩:=(A8 D2).cells;have x0:=(A8 A2).c0;have x1:=(A8 A2).c1;have x2:=(A8 A2).c2;have x3:=(A8 A2).c3;have x4:=(A8 A2).c4;have x5:=(A8 A2).c5;have x6:=(A8 A2).c6;go_wp2_with fail;refine(A8 CS _ ((A8 HX).next (A8 D2).b)).mono ?_;rintro e w3 ⟨vs,rfl,ho3,hx3,ht3⟩;obtain⟨sa,sc,rfl⟩:=BU ho3;rw[List.length_map]at ho3⊢;have D3:=AA (((A8 D2).dt k).touch hk0 ht3);have A3:=AA ((A8 A2).turn ht3 (show k≠g by omega));have X3:=AA hx3;have O3:=AA ho3;have hw3:=Nat.le_trans (A8 D2).r.lt (Nat.le_refl _);clear d0 d1 d2 d3 d4 d5 d6 d7 d8 d9 d10 d11 d12 x0 x1 x2 x3 x4 x5 x6 ho3 hx3 ht3 CS A2;by_cases hq:(wL p d).length<2
 ·have HP:Hid (OH (JU p) d=(⟨16,x.z,[],[],nd0,[]⟩,⟨p.n+1,wSv p d,fun _=>0,p.c,p.D,p.H++[x],p.h⟩)):=AA (by
   rw[←A8 HXX,OH,if_neg (show ¬ldP (JU p).r=-1 from(A8 HN).1),if_neg (show ¬wE (JU p) d≠0 from(A8 HN).2),if_pos (show (wL (JU p) d).length<2 from hq)];rfl)
  have CQ:=AA (fun V=>Z7 V);have CD:=AA (WC _ k w3 (A8 X3));have hq4:((wL p d).length:Int)<2:=by omega
  go_wp2_with fail;refine(A8 CQ _).mono ?_;rintro e w4 ⟨rfl,hw4⟩;obtain rfl:=hw4.symm;go_wp2_with fail;refine(A8 CD).mono ?_;rintro e w5 ⟨rfl,hx5,ht5⟩;have E9:=AA ((A8 D3).touch hk0 ht5);have x0:=((A8 A3).turn ht5 (show k≠g by omega)).c0;have OK:∀i,i<3→II 300 (wSv p d i):=fun i hi=>((A8 HI).2.ok (A8 HI).1 hi).more (by have:=(A8 HI).2.n;omega);have X1:=AA (aX (kd:=1) (B:=W.heap.size+2) (r:=⟨16,x.z,[],[],nd0,[]⟩) (vn:=N0) (A8 E9).t (A8 E9).r (by omega) (by omega) (hx5.hist (p.H++[x])) OK (.inl ⟨rfl,rfl⟩) (by omega));have b0:=(A8 E9).r.cells;have g0:=(A8 E9).r.AX;simp only[rpV,ZX,nd0]at X1;clear CQ CD hx5 ht5 E9 A3 D3 X3 O3 OK HX HI HN D2;go_wp2_with fail;exact bodyPost_ret (v:=.agg #[I0 16,I0 x.z,.string ⟨#[]⟩,.string ⟨#[]⟩,I0 0,I0 0,I0 0,I0 0,I0 0,I0 0,I0 0,N0]) (by simp[results,results63,go_sem,b0]) rfl (by rw[A8 HP];exact A8 X1)
 ·have HP:Hid (OH (JU p) d=(⟨0,x.z,x.p,[],(iC (NQ ((p.s b).m++[x]) ((p.s b).m.length+1)) x.p).getD nd0,(IK (wSv p d) (wL p d)).2⟩,⟨p.n+1,(IK (wSv p d) (wL p d)).1,wRo p d,wCl p d (IK (wSv p d) (wL p d)).2,p.D++[x],p.H++[x],p.h⟩)):=AA (by
   rw[←A8 HXX,OH,if_neg (show ¬ldP (JU p).r=-1 from(A8 HN).1),if_neg (show ¬wE (JU p) d≠0 from(A8 HN).2),if_neg (show ¬ (wL (JU p) d).length<2 from hq)];simp only[show ldN (JU p).r=b from(A8 HI).2.ld (A8 HI).1];rfl)
  have CQ:=AA (fun V=>Z7 V);have hq4:¬ ((wL p d).length:Int)<2:=by omega
  have hn:=(A8 HI).2.n;have OK:∀i,i<3→II 300 (wSv p d i):=fun i hi=>((A8 HI).2.ok (A8 HI).1 hi).more (by omega);have HW:=AA (rY (A8 HI).2 (A8 HI).1 hq);have CC:=AA (fV ⟨p.n+1,wSv p d,wRo p d,p.c,p.D,p.H,p.h⟩ k w3 _ (wL p d) (A8 X3) (Row.own (A8 O3) (by omega)) (fun i hi=>(ZP.1 hi).1) (mW p d) hlw OK (fun i hi=>(A8 HI).2.up (A8 HI).1 (ZP.1 hi).1 (CJ3 (ZP.1 hi).2)) (fun i hi=>((A8 HI).1.c i hi).more (by omega) (fun _ hx=>hx)));have CA:=AA (fun V T a1 c1 (hV:WX V k ⟨p.n+1,(IK (wSv p d) (wL p d)).1,wRo p d,VZ p.c T,p.D,p.H,p.h⟩)=>C06 ⟨p.n+1,(IK (wSv p d) (wL p d)).1,wRo p d,VZ p.c T,p.D,p.H,p.h⟩ x d.c.toNat k b T a1 c1 V hV (by omega) (A8 HI).2.lt (aS (A8 HI).2.lt (fO.2 (A8 HI).2.two) (A8 HW).one) (fun i hi=>((A8 HW).s i hi).more (by show p.n+1≤300;omega)) (by
   show ((IK (wSv p d) (wL p d)).1 b).up=true;rw[AX8]
   split
   ·exact(A8 HI).2.up (A8 HI).1 (A8 HI).2.lt (WE (A8 HI).2.two).1
   ·exact(A8 HI).2.up (A8 HI).1 (A8 HI).2.lt (WE (A8 HI).2.two).1) (xX (((A8 HI).1.c d.c.toNat (by omega)).more (by omega) (fun _ hx=>hx)) T) (by
   show (p.c d.c.toNat).z≤x.z;have hz:=(A8 HI).1.c d.c.toNat (by omega);have hx0:=((A8 HI).2.zs (A8 HI).1).2.1;rw[A8 HXX]at hx0;rcases hz.z with e|⟨y,hy,e⟩
   ·omega
   ·have:=QN (A8 HI).1.a ((A8 HI).2.wr (A8 HI).1) y hy;rw[A8 HXX]at this;omega) (by have:=(A8 HI).1.few;show (p.D.length:Int)≤300;omega))
  have HM:Hid (NQ ((IK (wSv p d) (wL p d)).1 b).m ((IK (wSv p d) (wL p d)).1 b).dn=NQ ((p.s b).m++[x]) ((p.s b).m.length+1)):=AA (by
   have e1:=(WE (p:=p) (d:=d) (A8 HI).2.two);rw[AX8,if_pos ⟨(A8 HI).2.lt,e1.2⟩,wSv,if_pos e1.1,A8 HXX];show NQ ((p.s b).m++[x]) ((p.s b).m++[x]).length=_;rw[List.length_append];rfl)
  obtain⟨cn,hcn,hc16⟩:∃cn:Nat,d.c=cn∧cn<16:=⟨d.c.toNat,by omega,by omega⟩;go_wp2_with fail;refine(A8 CQ _).mono ?_;rintro e w4 ⟨rfl,hw4⟩;obtain rfl:=hw4.symm;go_wp2_with fail;refine(A8 CC).mono ?_;rintro e w5 ⟨vn,rfl,ho5,hx5,ht5⟩;obtain⟨na,nc,rfl⟩:=BU ho5;generalize hNN:(IK (wSv p d) (wL p d)).2=NN at*;generalize hRR:(IK (wSv p d) (wL p d)).1=RR at*;have C5:=AA (A8 CA w5 NN na nc hx5);have A5:=(A8 A3).turn ht5 (show k≠g by omega);have D5:=AA ((A8 D3).touch hk0 ht5);have O5:=AA ho5;have x0:=A5.c0;have x1:=A5.c1;have x2:=A5.c2;have x3:=A5.c3;have x4:=A5.c4;have x5:=A5.c5;have x6:=A5.c6;obtain⟨⟨_,y1,_,_,_,_,_⟩,_,_,_,_,_,_⟩:=(A8 D5).cells;rw[hcn,Int.toNat_natCast]at C5;rw[hcn]at y1;unfold DX wP at C5;have HNN:=AA (And.intro hNN hRR);have hs3:W.heap.size+2≤w3.heap.size:=by have:=(A8 D3).r.lt;omega
  clear CQ CC CA A5 hx5 ht5 ho5 A3 D3 X3 O3 OK HX D2 hNN hRR;go_wp2_with fail;refine(A8 C5).mono ?_;rintro e w6 ⟨rfl,hx6,ht6⟩;have E9:=AA ((A8 D5).touch hk0 ht6);have X1:=AA (aX (kd:=1) (B:=w3.heap.size) (r:=⟨0,x.z,x.p,[],(iC (NQ (RR b).m (RR b).dn) x.p).getD nd0,NN⟩) (vn:=.slice na NN.length nc) (A8 E9).t (A8 E9).r (by omega) (by omega) (hx6.hist (p.H++[x])) (fun i hi=>((A8 HW).s i hi).more (by show p.n+1≤300;omega)) (FV (A8 O5) ht6 (fun q e=>by have:=MK (A8 O5) e;omega)) (by omega));have b0:=(A8 E9).r.cells;have g0:=(A8 E9).r.AX;unfold rpV;simp only[rpV,ZX]at X1;generalize hst:(iC (NQ (RR b).m (RR b).dn) x.p).getD nd0=st at*;have HST:=AA hst;clear hst x0 x1 x2 x3 x4 x5 x6 y1 C5 D5 O5 hx6 ht6 E9;go_wp2_with fail;refine bodyPost_ret (v:=.agg #[I0 0,I0 x.z,S0 x.p,.string ⟨#[]⟩,I0 st.c,I0 st.m,I0 st.q,I0 st.v,I0 st.k,I0 st.o,I0 st.n,.slice na NN.length nc]) (by simp[results,results63,go_sem,b0]) rfl ?_;have hst:=A8 HST;rw[A8 HM]at hst;have hz:=((A8 HI).2.fit (A8 HI).1).z;rw[A8 HXX]at hz;rw[A8 HP,hst,wCl,hcn,Int.toNat_natCast,←hz];exact A8 X1
theorem AH1(p:Pw)(d:Dd)(k:Nat)(W:World)(hx:WX W k (JU p))(hT:VX W)(h:NU p)(hn:p.n<300)(hc:0≤d.c∧d.c<16)(hp:d.q.p.length≤140737488355328)(hd:d.q.d.length≤140737488355328):Calls prog 63 #[wP k,ddV d] W (Did W k 1 (OH (JU p) d)):=by
 rcases fH p.r with⟨e,_⟩|⟨b,hb,_,hr⟩
 ·rw[OH,if_pos (show ldP (JU p).r=-1 from e)];exact AG9 _ d k W hx e
 ·have hl:=(ZO h hb hr).2.2;by_cases hE:wE p d=0
  ·have w:Wr p d b:=⟨hb,hr,hn,hE⟩;exact AH0 p d k b W hx hT h w hc hp hd
  ·rw[OH,if_neg (by show ¬ldP p.r=-1;rw[hl];omega),if_pos (show wE (JU p) d≠0 from hE)];exact B12 p d k b W hx hT h hn hb hr hc hp hd hE
end Go.Proofs.YtodnhndkghdinaaGreatDoor
