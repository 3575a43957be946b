/-
  Part.
-/
import Derived.Test.YtefephchbjfdfaaGreatDoorLMY
import Derived.Test.YtefephchbjfdfaaGreatDoorLMZ
import Derived.Test.YtefephchbjfdfaaGreatDoorLMAB
set_option maxRecDepth 20000
set_option maxHeartbeats 8000000
namespace Go.Proofs.YtefephchbjfdfaaGreatDoor
open Go.RowKit Go.Proofs.Tryz
theorem CP6(x:GV):gdE x≠16:=by
 unfold gdE
 repeat' split
 all_goals decide
theorem BT4(l:List UInt8):uZ l≠16:=by
 unfold uZ
 split<;>decide
theorem BT5(d l:List UInt8):dS d l≠16:=by
 unfold dS
 repeat' split
 all_goals decide
theorem CP7(t:Tr)(r:Rq):lZ t r≠16:=by
 unfold lZ A92 A90 AS2 nS
 repeat' split
 all_goals first|decide|exact BT4 _|exact BT5 _ _
theorem CP8(t:Tr)(x:GV):WL t x≠16:=by
 unfold WL
 repeat' split
 all_goals first|decide|exact CP6 _
theorem CP9(t:Tr)(x:GV):lY t x≠16:=by
 unfold lY AH3 BG1 CF3
 repeat' split
 all_goals decide
theorem CQ0(t:Tr)(x:GV):YR t x≠16:=by
 unfold YR
 repeat' split
 all_goals first|decide|exact CP8 _ _|exact CP9 _ _
theorem CX6(p:Pw)(d:Dd):wE p d≠16:=by
 unfold wE gU
 repeat' split
 all_goals first|decide|exact CP7 _ _|exact CQ0 _ _
theorem CD5{E:Int}(h:E≠0)(h2:E≠16):UA 1 E=false:=by simp[UA,h,h2]
theorem TAt.turn{W V:World}{k g:Nat}{x:GV}(h:TAt W g x)(ht:Touch (· =k) W V)(hk:k≠g):TAt V g x:=(ht.block g h.lt (fun e=>hk e.symm)).trans h
theorem AR0(p:Pw)(d:Dd)(k:Nat)(W:World)(hx:WX W k p)(hl:ldP p.r=-1):Calls prog 34 #[wP k,ddV d] W (Did W k 1 (U4 14,p)):=by
 have D0:=GH (DB.start W d);have CL:=GH (fun V (hV:B0 W V)=>TA p k V (hx.next hV));rw[hl]at CL;have CR:=GH (fun W=>KQ 14 W);unfold UY at CR;clear hx hl;unfold wP ddV;go_enter func34,ntmps34;go_upto_region 1 with fail;generalize ((W.alloc _).alloc _)=W0 at*;go_wp2_with fail;refine(G9 CL _ (G9 D0).b).mono ?_;rintro e w1 ⟨rfl,hb1⟩;have D1:=GH ((G9 D0).next hb1);clear hb1 D0;go_wp2_with fail;refine(G9 CR _).mono ?_;rintro e w2 ⟨rfl,hb2⟩;have D2:=(G9 D1).next hb2;have b0:=D2.r.cells;have g0:=D2.r.H6;have X1:Hid (Did W k 1 (U4 14,p) (.returned (UY 14)) (gW w2 (W.heap.size+1) (I0 14) (I0 0) (.string ⟨#[]⟩) (.string ⟨#[]⟩) (I0 0) (I0 0) (I0 0) (I0 0) (I0 0) (I0 0) (I0 0) (N0))):=GH (VW rfl (KH (Touch.of_below D2.b) (by omega) _ _ _ _ _ _ _ _ _ _ _ _) (by decide));clear hb2 D2 D1;unfold UY at X1;go_wp2_with fail;exact bodyPost_ret (v:=.agg #[I0 14,I0 0,.string ⟨#[]⟩,.string ⟨#[]⟩,I0 0,I0 0,I0 0,I0 0,I0 0,I0 0,I0 0,N0]) (by simp[results,results34,go_sem,b0]) rfl (G9 X1)
theorem BB3(p:Pw)(d:Dd)(k b:Nat)(W:World)(hx:WX W k (OQ p))(hT:VP W)(h:QI p)(hn:p.n<300)(hb:b<3)(hr:p.r b=2)(hc:0<=d.c/\d.c<16)(hp:d.q.p.length<=140737488355328)(hd:d.q.d.length<=140737488355328)(hE:wE p d≠0):Calls prog 34 #[wP k,ddV d] W (Did W k 1 (U4 (wE p d),OQ p)):=by
 have D0:=GH (DB.start W d);have hl:=(gG h hb hr).2.2;have CL:=GH (fun V (hV:B0 W V)=>TA (OQ p) k V (hx.next hV));have CP:=GH (fun V (hV:B0 W V)=>gJ (OQ p) d k b V (hx.next hV) (hT.next hV) hb hl (h.rup b hb (by rw[hr];decide)) ((h.s b hb).more (by omega)) (B78 h hn hb hr).1 hc hp hd);have e1:wE (OQ p) d=wE p d:=rfl;rw[e1]at CP;simp only[show (OQ p).r=p.r from rfl,hl]at CL;have CR:=GH (fun W=>KQ (wE p d) W);have HL:=GH (CD5 hE (CX6 p d));have hE2:(wE p d==0)=false:=beq_eq_false_iff_ne.2 hE;unfold UY at CR;unfold JC at CP;clear hx hl h hr hT hc hp hd e1;generalize wE p d=E at*;generalize wX (OQ p) d=x at*;unfold wP ddV;unfold ddV at CP;go_enter func34,ntmps34;go_upto_region 1 with fail;generalize ((W.alloc _).alloc _)=W0 at*;go_wp2_with fail;refine(G9 CL _ (G9 D0).b).mono ?_;rintro e w1 ⟨rfl,hb1⟩;have D1:=GH ((G9 D0).next hb1);clear hb1 D0;obtain⟨⟨d0,d1,d2,d3,d4,d5,d6⟩,d7,d8,d9,d10,d11,d12⟩:=(G9 D1).cells;have hbn:((b:Int)==-1)=false:=beq_eq_false_iff_ne.2 (by omega);go_wp2_with fail;refine(G9 CP _ (G9 D1).b).mono ?_;rintro e w2 ⟨rfl,hb2⟩;have D2:=GH (((G9 D1).next hb2).next (GI w2 (.cells #[I0 x.z,I0 x.o,I0 x.s,S0 x.p,S0 x.d,I0 x.v,I0 x.w] 59)));clear d0 d1 d2 d3 d4 d5 d6 d7 d8 d9 d10 d11 d12 hb2 D1 CP CL;go_wp2_with fail;refine(G9 CR _).mono ?_;rintro e w3 ⟨rfl,hb3⟩;have D3:=(G9 D2).next hb3;have b0:=D3.r.cells;have g0:=D3.r.H6;have X1:Hid (Did W k 1 (U4 E,OQ p) (.returned (UY E)) (gW w3 (W.heap.size+1) (I0 E) (I0 0) (.string ⟨#[]⟩) (.string ⟨#[]⟩) (I0 0) (I0 0) (I0 0) (I0 0) (I0 0) (I0 0) (I0 0) (N0))):=GH (VW rfl (KH (Touch.of_below D3.b) (by omega) _ _ _ _ _ _ _ _ _ _ _ _) (G9 HL));clear hb3 D3 D2;unfold UY at X1;go_wp2_with fail;exact bodyPost_ret (v:=.agg #[I0 E,I0 0,.string ⟨#[]⟩,.string ⟨#[]⟩,I0 0,I0 0,I0 0,I0 0,I0 0,I0 0,I0 0,N0]) (by simp[results,results34,go_sem,b0]) rfl (G9 X1)
theorem AR1(p:Pw)(d:Dd)(k b:Nat)(W:World)(hx:WX W k (OQ p))(hT:VP W)(h:QI p)(w:Wr p d b)(hc:0<=d.c/\d.c<16)(hp:d.q.p.length<=140737488355328)(hd:d.q.d.length<=140737488355328):Calls prog 34 #[wP k,ddV d] W (Did W k 1 (PY (OQ p) d)):=by
 have D0:=GH (DB.start W d);have hl:=(gG h w.lt w.two).2.2;have hk0:=hx.lt;have CL:=GH (fun V (hV:B0 W V)=>TA (OQ p) k V (hx.next hV));have CP:=GH (fun V (hV:B0 W V)=>gJ (OQ p) d k b V (hx.next hV) (hT.next hV) w.lt hl (h.rup b w.lt (by rw[w.two];decide)) ((h.s b w.lt).more (by have:=w.n;omega)) (B78 h w.n w.lt w.two).1 hc hp hd);have e1:wE (OQ p) d=0:=w.e;have e2:wX (OQ p) d=wX p d:=rfl;rw[e1,e2]at CP;simp only[show (OQ p).r=p.r from rfl,hl]at CL;have CS:=GH (fun V (hV:WX V k (OQ p))=>AQ0 (p.n+1) p d k b V hV h w);have hlw:(wL p d).length<=3:=Nat.le_trans (List.length_filter_le _ _) (by simp);have HX:=GH hx;have HI:=GH (And.intro h w);have HN:Hid (ldP p.r≠ -1/\¬wE p d≠0):=GH ⟨by rw[hl];omega,by have:=w.e;omega⟩;have hbn:((b:Int)==-1)=false:=beq_eq_false_iff_ne.2 (by omega);unfold JC at CP CS;clear hx hl h w hT hp hd e1 e2;generalize hxx:wX p d=x at*;have HXX:=GH hxx;clear hxx;unfold wP ddV;unfold ddV at CP CS;go_enter func34,ntmps34;go_upto_region 1 with fail;generalize ((W.alloc _).alloc _)=W0 at*;go_wp2_with fail;refine(G9 CL _ (G9 D0).b).mono ?_;rintro e w1 ⟨rfl,hb1⟩;have D1:=GH ((G9 D0).next hb1);clear hb1 D0;obtain⟨⟨d0,d1,d2,d3,d4,d5,d6⟩,d7,d8,d9,d10,d11,d12⟩:=(G9 D1).cells;go_wp2_with fail;refine(G9 CP _ (G9 D1).b).mono ?_;rintro e w2 ⟨rfl,hb2⟩;have D2:=GH (((G9 D1).next hb2).next (GI w2 (.cells #[I0 x.z,I0 x.o,I0 x.s,S0 x.p,S0 x.d,I0 x.v,I0 x.w] 59)));have A2:=GH (TAt.new w2 x);have hg2:W.heap.size+2<=w2.heap.size:=((G9 D1).next hb2).r.lt;clear d0 d1 d2 d3 d4 d5 d6 d7 d8 d9 d10 d11 d12 hb2 D1 CP CL hbn;go_upto_region 6 with fail;generalize w2.alloc _=W2 at*;generalize w2.heap.size=g at*;obtain⟨⟨d0,d1,d2,d3,d4,d5,d6⟩,d7,d8,d9,d10,d11,d12⟩:=(G9 D2).cells;have x0:=(G9 A2).c0;have x1:=(G9 A2).c1;have x2:=(G9 A2).c2;have x3:=(G9 A2).c3;have x4:=(G9 A2).c4;have x5:=(G9 A2).c5;have x6:=(G9 A2).c6;go_wp2_with fail;refine(G9 CS _ ((G9 HX).next (G9 D2).b)).mono ?_;rintro e w3 ⟨vs,rfl,ho3,hx3,ht3⟩;obtain⟨sa,sc,rfl⟩:=IQ ho3;rw[List.length_map]at ho3⊢;have D3:=GH (((G9 D2).dt k).touch hk0 ht3);have A3:=GH ((G9 A2).turn ht3 (show k≠g by omega));have X3:=GH hx3;have O3:=GH ho3;have hw3:=Nat.le_trans (G9 D2).r.lt (Nat.le_refl _);clear d0 d1 d2 d3 d4 d5 d6 d7 d8 d9 d10 d11 d12 x0 x1 x2 x3 x4 x5 x6 ho3 hx3 ht3 CS A2;by_cases hq:(wL p d).length<2
 .have HP:Hid (PY (OQ p) d=(⟨16,x.z,[],[],nd0,[]⟩,⟨p.n+1,wSv p d,fun _=>0,p.c,p.D,p.H++[x],p.h⟩)):=GH (by
   rw[<-G9 HXX,PY,if_neg (show ¬ldP (OQ p).r=-1 from(G9 HN).1),if_neg (show ¬wE (OQ p) d≠0 from(G9 HN).2),if_pos (show (wL (OQ p) d).length<2 from hq)];rfl)
  have CQ:=GH (fun V=>fD V);have CD:=GH (ZX _ k w3 (G9 X3));have hq4:((wL p d).length:Int)<2:=by omega
  go_wp2_with fail;refine(G9 CQ _).mono ?_;rintro e w4 ⟨rfl,hw4⟩;obtain rfl:=hw4.symm;go_wp2_with fail;refine(G9 CD).mono ?_;rintro e w5 ⟨rfl,hx5,ht5⟩;have E9:=GH ((G9 D3).touch hk0 ht5);have x0:=((G9 A3).turn ht5 (show k≠g by omega)).c0;have OK:∀i,i<3->MP 300 (wSv p d i):=fun i hi=>((G9 HI).2.ok (G9 HI).1 hi).more (by have:=(G9 HI).2.n;omega);have X1:=GH (iU (kd:=1) (B:=W.heap.size+2) (r:=⟨16,x.z,[],[],nd0,[]⟩) (vn:=N0) (G9 E9).t (G9 E9).r (by omega) (by omega) ((hx5.hist (p.H++[x])).grN rfl) OK (ZW.nil _ _) (by omega));have b0:=(G9 E9).r.cells;have g0:=(G9 E9).r.H6;simp only[rpV,gW,nd0]at X1;clear CQ CD hx5 ht5 E9 A3 D3 X3 O3 OK HX HI HN D2;go_wp2_with fail;exact bodyPost_ret (v:=.agg #[I0 16,I0 x.z,.string ⟨#[]⟩,.string ⟨#[]⟩,I0 0,I0 0,I0 0,I0 0,I0 0,I0 0,I0 0,N0]) (by simp[results,results34,go_sem,b0]) rfl (by rw[G9 HP];exact G9 X1)
 .have HP:Hid (PY (OQ p) d=(⟨0,x.z,x.p,[],(mW (SK ((p.s b).m++[x]) ((p.s b).m.length+1)) x.p).getD nd0,(MR (wSv p d) (wL p d)).2⟩,⟨p.n+1,(MR (wSv p d) (wL p d)).1,wRo p d,wCl p d (MR (wSv p d) (wL p d)).2,p.D++[x],p.H++[x],p.h⟩)):=GH (by
   rw[<-G9 HXX,PY,if_neg (show ¬ldP (OQ p).r=-1 from(G9 HN).1),if_neg (show ¬wE (OQ p) d≠0 from(G9 HN).2),if_neg (show ¬ (wL (OQ p) d).length<2 from hq)];simp only[show ldN (OQ p).r=b from(G9 HI).2.ld (G9 HI).1];rfl)
  have CQ:=GH (fun V=>fD V);have hq4:¬ ((wL p d).length:Int)<2:=by omega
  have hn:=(G9 HI).2.n;have OK:∀i,i<3->MP 300 (wSv p d i):=fun i hi=>((G9 HI).2.ok (G9 HI).1 hi).more (by omega);have HW:=GH (yD (G9 HI).2 (G9 HI).1 hq);have CC:=GH (lU ⟨p.n+1,wSv p d,wRo p d,p.c,p.D,p.H,p.h⟩ k w3 _ (wL p d) (G9 X3) (Row.own (G9 O3) (by omega)) (fun i hi=>(gI.1 hi).1) (sK p d) hlw OK (fun i hi=>(G9 HI).2.up (G9 HI).1 (gI.1 hi).1 (CW4 (gI.1 hi).2)) (fun i hi=>((G9 HI).1.c i hi).more (by omega) (fun _ hx=>hx)));have CA:=GH (fun V T a1 c1 (h1:Nat->Prop) (hV:WX V k ⟨p.n+1,(MR (wSv p d) (wL p d)).1,wRo p d,ZR p.c T,p.D,p.H,h1⟩)=>CC9 ⟨p.n+1,(MR (wSv p d) (wL p d)).1,wRo p d,ZR p.c T,p.D,p.H,h1⟩ x d.c.toNat k b T a1 c1 V hV (by omega) (G9 HI).2.lt (iO (G9 HI).2.lt (lK.2 (G9 HI).2.two) (G9 HW).one) (fun i hi=>((G9 HW).s i hi).more (by show p.n+1<=300;omega)) (by
   show ((MR (wSv p d) (wL p d)).1 b).up=true;rw[B80]
   split
   .exact(G9 HI).2.up (G9 HI).1 (G9 HI).2.lt (ZY (G9 HI).2.two).1
   .exact(G9 HI).2.up (G9 HI).1 (G9 HI).2.lt (ZY (G9 HI).2.two).1) (A50 (((G9 HI).1.c d.c.toNat (by omega)).more (by omega) (fun _ hx=>hx)) T) (by
   show (p.c d.c.toNat).z<=x.z;have hz:=(G9 HI).1.c d.c.toNat (by omega);have hx0:=((G9 HI).2.zs (G9 HI).1).2.1;rw[G9 HXX]at hx0;rcases hz.z with e|⟨y,hy,e⟩
   .omega
   .have:=VG (G9 HI).1.a ((G9 HI).2.wr (G9 HI).1) y hy;rw[G9 HXX]at this;omega) (by have:=(G9 HI).1.few;show (p.D.length:Int)<=300;omega))
  have HM:Hid (SK ((MR (wSv p d) (wL p d)).1 b).m ((MR (wSv p d) (wL p d)).1 b).dn=SK ((p.s b).m++[x]) ((p.s b).m.length+1)):=GH (by
   have e1:=(ZY (p:=p) (d:=d) (G9 HI).2.two);rw[B80,if_pos ⟨(G9 HI).2.lt,e1.2⟩,wSv,if_pos e1.1,G9 HXX];show SK ((p.s b).m++[x]) ((p.s b).m++[x]).length=_;rw[List.length_append];rfl)
  obtain⟨cn,hcn,hc16⟩:∃cn:Nat,d.c=cn/\cn<16:=⟨d.c.toNat,by omega,by omega⟩;go_wp2_with fail;refine(G9 CQ _).mono ?_;rintro e w4 ⟨rfl,hw4⟩;obtain rfl:=hw4.symm;go_wp2_with fail;refine(G9 CC).mono ?_;rintro e w5 ⟨vn,rfl,ho5,hx5,ht5⟩;obtain⟨na,nc,rfl⟩:=IQ ho5.o;generalize hNN:(MR (wSv p d) (wL p d)).2=NN at*;generalize hRR:(MR (wSv p d) (wL p d)).1=RR at*;have C5:=GH (G9 CA w5 NN na nc _ hx5);have A5:=(G9 A3).turn ht5 (show k≠g by omega);have D5:=GH ((G9 D3).touch hk0 ht5);have O5:=GH ho5;have x0:=A5.c0;have x1:=A5.c1;have x2:=A5.c2;have x3:=A5.c3;have x4:=A5.c4;have x5:=A5.c5;have x6:=A5.c6;obtain⟨⟨_,y1,_,_,_,_,_⟩,_,_,_,_,_,_⟩:=(G9 D5).cells;rw[hcn,Int.toNat_natCast]at C5;rw[hcn]at y1;unfold JC wP at C5;have HNN:=GH (And.intro hNN hRR);have hs3:W.heap.size+2<=w3.heap.size:=by have:=(G9 D3).r.lt;omega
  clear CQ CC CA A5 hx5 ht5 ho5 A3 D3 X3 O3 OK HX D2 hNN hRR;go_wp2_with fail;refine(G9 C5).mono ?_;rintro e w6 ⟨rfl,hx6,ht6⟩;have E9:=GH ((G9 D5).touch hk0 ht6);have X1:=GH (iU (kd:=1) (B:=w3.heap.size) (r:=⟨0,x.z,x.p,[],(mW (SK (RR b).m (RR b).dn) x.p).getD nd0,NN⟩) (vn:=.slice na NN.length nc) (G9 E9).t (G9 E9).r (by omega) (by omega) (hx6.hist (p.H++[x])) (fun i hi=>((G9 HW).s i hi).more (by show p.n+1<=300;omega)) (OB (G9 O5) ht6 (fun q e=>by have:=QY (G9 O5).o e;omega)) (by omega));have b0:=(G9 E9).r.cells;have g0:=(G9 E9).r.H6;unfold rpV;simp only[rpV,gW]at X1;generalize hst:(mW (SK (RR b).m (RR b).dn) x.p).getD nd0=st at*;have HST:=GH hst;clear hst x0 x1 x2 x3 x4 x5 x6 y1 C5 D5 O5 hx6 ht6 E9;go_wp2_with fail;refine bodyPost_ret (v:=.agg #[I0 0,I0 x.z,S0 x.p,.string ⟨#[]⟩,I0 st.c,I0 st.m,I0 st.q,I0 st.v,I0 st.k,I0 st.o,I0 st.n,.slice na NN.length nc]) (by simp[results,results34,go_sem,b0]) rfl ?_;have hst:=G9 HST;rw[G9 HM]at hst;have hz:=((G9 HI).2.fit (G9 HI).1).z;rw[G9 HXX]at hz;rw[G9 HP,hst,wCl,hcn,Int.toNat_natCast,<-hz];exact G9 X1
theorem AR2(p:Pw)(d:Dd)(k:Nat)(W:World)(hx:WX W k (OQ p))(hT:VP W)(h:QI p)(hn:p.n<300)(hc:0<=d.c/\d.c<16)(hp:d.q.p.length<=140737488355328)(hd:d.q.d.length<=140737488355328):Calls prog 34 #[wP k,ddV d] W (Did W k 1 (PY (OQ p) d)):=by
 rcases lG p.r with⟨e,_⟩|⟨b,hb,_,hr⟩
 .rw[PY,if_pos (show ldP (OQ p).r=-1 from e)];exact AR0 _ d k W hx e
 .have hl:=(gG h hb hr).2.2;by_cases hE:wE p d=0
  .have w:Wr p d b:=⟨hb,hr,hn,hE⟩;exact AR1 p d k b W hx hT h w hc hp hd
  .rw[PY,if_neg (by show ¬ldP p.r=-1;rw[hl];omega),if_pos (show wE (OQ p) d≠0 from hE)];exact BB3 p d k b W hx hT h hn hb hr hc hp hd hE
