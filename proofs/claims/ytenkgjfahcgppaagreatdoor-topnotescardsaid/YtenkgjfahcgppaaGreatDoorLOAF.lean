/-
  Part.
-/
import Derived.Test.YtenkgjfahcgppaaGreatDoorLOAB
import Derived.Test.YtenkgjfahcgppaaGreatDoorLOAC
import Derived.Test.YtenkgjfahcgppaaGreatDoorLOAE
set_option maxRecDepth 20000
set_option maxHeartbeats 8000000
namespace Go.Proofs.YtenkgjfahcgppaaGreatDoor
open Go.RowKit Go.Proofs.Tryz
theorem CH8(x:AQ):gdE x≠16:=by
 unfold gdE
 repeat' split
 all_goals decide
theorem BM1(l:List UInt8):qB l≠16:=by
 unfold qB
 split<;>decide
theorem BM2(d l:List UInt8):YV d l≠16:=by
 unfold YV
 repeat' split
 all_goals decide
theorem CH9(t:Tr)(r:Rq):iI t r≠16:=by
 unfold iI A20 A18 AK5 jK
 repeat' split
 all_goals first|decide|exact BM1 _|exact BM2 _ _
theorem CI1(t:Tr)(x:AQ):SI t x≠16:=by
 unfold SI
 repeat' split
 all_goals first|decide|exact CH8 _
theorem CI2(t:Tr)(x:AQ):iH t x≠16:=by
 unfold iH AA0 B89 C74
 repeat' split
 all_goals decide
theorem CI3(t:Tr)(x:AQ):UL t x≠16:=by
 unfold UL
 repeat' split
 all_goals first|decide|exact CI1 _ _|exact CI2 _ _
theorem CI4(p:Pw)(d:Dd):wE p d≠16:=by
 unfold wE aK
 repeat' split
 all_goals first|decide|exact CH9 _ _|exact CI3 _ _
theorem C55{E:Int}(h:E≠0)(h2:E≠16):PV 1 E=false:=by simp[PV,h,h2]
theorem TAt.turn{W V:World}{k g:Nat}{x:AQ}(h:TAt W g x)(ht:Touch (· =k) W V)(hk:k≠g):TAt V g x:=(ht.block g h.lt (fun e=>hk e.symm)).trans h
theorem AJ2(p:Pw)(d:Dd)(k:Nat)(W:World)(hx:WX W k p)(hl:ldP p.r=-1):Calls prog 76 #[wP k,ddV d] W (Did W k 1 (LM 14,p)):=by
 have D0:=AA (DB.start W d);have CL:=AA (fun V (hV:B0 W V)=>MF p k V (hx.next hV));rw[hl]at CL;have CR:=AA (fun W=>FW 14 W);unfold QL at CR;clear hx hl;unfold wP ddV;go_enter func76,ntmps76;go_upto_region 1 with fail;generalize ((W.alloc _).alloc _)=W0 at*;go_wp2_with fail;refine(A8 CL _ (A8 D0).b).mono ?_;rintro e w1 ⟨rfl,hb1⟩;have D1:=AA ((A8 D0).next hb1);clear hb1 D0;go_wp2_with fail;refine(A8 CR _).mono ?_;rintro e w2 ⟨rfl,hb2⟩;have D2:=(A8 D1).next hb2;have b0:=D2.r.cells;have g0:=D2.r.AX;have X1:Hid (Did W k 1 (LM 14,p) (.returned (QL 14)) (aS w2 (W.heap.size+1) (I0 14) (I0 0) (.string ⟨#[]⟩) (.string ⟨#[]⟩) (I0 0) (I0 0) (I0 0) (I0 0) (I0 0) (I0 0) (I0 0) (N0))):=AA (RU rfl (FM (Touch.of_below D2.b) (by omega) _ _ _ _ _ _ _ _ _ _ _ _) (by decide));clear hb2 D2 D1;unfold QL at X1;go_wp2_with fail;exact bodyPost_ret (v:=.agg #[I0 14,I0 0,.string ⟨#[]⟩,.string ⟨#[]⟩,I0 0,I0 0,I0 0,I0 0,I0 0,I0 0,I0 0,N0]) (by simp[results,results76,go_sem,b0]) rfl (A8 X1)
theorem B38(p:Pw)(d:Dd)(k b:Nat)(W:World)(hx:WX W k (GY p))(hT:VQ W)(h:ND p)(hn:p.n<300)(hb:b<3)(hr:p.r b=2)(hc:0<=d.c/\d.c<16)(hp:d.q.p.length<=140737488355328)(hd:d.q.d.length<=140737488355328)(hE:wE p d≠0):Calls prog 76 #[wP k,ddV d] W (Did W k 1 (LM (wE p d),GY p)):=by
 have D0:=AA (DB.start W d);have hl:=(YG h hb hr).2.2;have CL:=AA (fun V (hV:B0 W V)=>MF (GY p) k V (hx.next hV));have CP:=AA (fun V (hV:B0 W V)=>aH (GY p) d k b V (hx.next hV) (hT.next hV) hb hl (h.rup b hb (by rw[hr];decide)) ((h.s b hb).more (by omega)) (B02 h hn hb hr).1 hc hp hd);have e1:wE (GY p) d=wE p d:=rfl;rw[e1]at CP;simp only[show (GY p).r=p.r from rfl,hl]at CL;have CR:=AA (fun W=>FW (wE p d) W);have HL:=AA (C55 hE (CI4 p d));have hE2:(wE p d==0)=false:=beq_eq_false_iff_ne.2 hE;unfold QL at CR;unfold DW at CP;clear hx hl h hr hT hc hp hd e1;generalize wE p d=E at*;generalize wX (GY p) d=x at*;unfold wP ddV;unfold ddV at CP;go_enter func76,ntmps76;go_upto_region 1 with fail;generalize ((W.alloc _).alloc _)=W0 at*;go_wp2_with fail;refine(A8 CL _ (A8 D0).b).mono ?_;rintro e w1 ⟨rfl,hb1⟩;have D1:=AA ((A8 D0).next hb1);clear hb1 D0;obtain⟨⟨d0,d1,d2,d3,d4,d5,d6⟩,d7,d8,d9,d10,d11,d12⟩:=(A8 D1).cells;have hbn:((b:Int)==-1)=false:=beq_eq_false_iff_ne.2 (by omega);go_wp2_with fail;refine(A8 CP _ (A8 D1).b).mono ?_;rintro e w2 ⟨rfl,hb2⟩;have D2:=AA (((A8 D1).next hb2).next (AB w2 (.cells #[I0 x.z,I0 x.o,I0 x.s,S0 x.p,S0 x.d,I0 x.v,I0 x.w] 49)));clear d0 d1 d2 d3 d4 d5 d6 d7 d8 d9 d10 d11 d12 hb2 D1 CP CL;go_wp2_with fail;refine(A8 CR _).mono ?_;rintro e w3 ⟨rfl,hb3⟩;have D3:=(A8 D2).next hb3;have b0:=D3.r.cells;have g0:=D3.r.AX;have X1:Hid (Did W k 1 (LM E,GY p) (.returned (QL E)) (aS w3 (W.heap.size+1) (I0 E) (I0 0) (.string ⟨#[]⟩) (.string ⟨#[]⟩) (I0 0) (I0 0) (I0 0) (I0 0) (I0 0) (I0 0) (I0 0) (N0))):=AA (RU rfl (FM (Touch.of_below D3.b) (by omega) _ _ _ _ _ _ _ _ _ _ _ _) (A8 HL));clear hb3 D3 D2;unfold QL at X1;go_wp2_with fail;exact bodyPost_ret (v:=.agg #[I0 E,I0 0,.string ⟨#[]⟩,.string ⟨#[]⟩,I0 0,I0 0,I0 0,I0 0,I0 0,I0 0,I0 0,N0]) (by simp[results,results76,go_sem,b0]) rfl (A8 X1)
theorem AJ3(p:Pw)(d:Dd)(k b:Nat)(W:World)(hx:WX W k (GY p))(hT:VQ W)(h:ND p)(w:Wr p d b)(hc:0<=d.c/\d.c<16)(hp:d.q.p.length<=140737488355328)(hd:d.q.d.length<=140737488355328):Calls prog 76 #[wP k,ddV d] W (Did W k 1 (LH (GY p) d)):=by
 have D0:=AA (DB.start W d);have hl:=(YG h w.lt w.two).2.2;have hk0:=hx.lt;have CL:=AA (fun V (hV:B0 W V)=>MF (GY p) k V (hx.next hV));have CP:=AA (fun V (hV:B0 W V)=>aH (GY p) d k b V (hx.next hV) (hT.next hV) w.lt hl (h.rup b w.lt (by rw[w.two];decide)) ((h.s b w.lt).more (by have:=w.n;omega)) (B02 h w.n w.lt w.two).1 hc hp hd);have e1:wE (GY p) d=0:=w.e;have e2:wX (GY p) d=wX p d:=rfl;rw[e1,e2]at CP;simp only[show (GY p).r=p.r from rfl,hl]at CL;have CS:=AA (fun V (hV:WX V k (GY p))=>AI2 (p.n+1) p d k b V hV h w);have hlw:(wL p d).length<=3:=Nat.le_trans (List.length_filter_le _ _) (by simp);have HX:=AA hx;have HI:=AA (And.intro h w);have HN:Hid (ldP p.r≠ -1/\¬wE p d≠0):=AA ⟨by rw[hl];omega,by have:=w.e;omega⟩;have hbn:((b:Int)==-1)=false:=beq_eq_false_iff_ne.2 (by omega);unfold DW at CP CS;clear hx hl h w hT hp hd e1 e2;generalize hxx:wX p d=x at*;have HXX:=AA hxx;clear hxx;unfold wP ddV;unfold ddV at CP CS;go_enter func76,ntmps76;go_upto_region 1 with fail;generalize ((W.alloc _).alloc _)=W0 at*;go_wp2_with fail;refine(A8 CL _ (A8 D0).b).mono ?_;rintro e w1 ⟨rfl,hb1⟩;have D1:=AA ((A8 D0).next hb1);clear hb1 D0;obtain⟨⟨d0,d1,d2,d3,d4,d5,d6⟩,d7,d8,d9,d10,d11,d12⟩:=(A8 D1).cells;go_wp2_with fail;refine(A8 CP _ (A8 D1).b).mono ?_;rintro e w2 ⟨rfl,hb2⟩;have D2:=AA (((A8 D1).next hb2).next (AB w2 (.cells #[I0 x.z,I0 x.o,I0 x.s,S0 x.p,S0 x.d,I0 x.v,I0 x.w] 49)));have A2:=AA (TAt.new w2 x);have hg2:W.heap.size+2<=w2.heap.size:=((A8 D1).next hb2).r.lt;clear d0 d1 d2 d3 d4 d5 d6 d7 d8 d9 d10 d11 d12 hb2 D1 CP CL hbn;go_upto_region 6 with fail;generalize w2.alloc _=W2 at*;generalize w2.heap.size=g at*;obtain⟨⟨d0,d1,d2,d3,d4,d5,d6⟩,d7,d8,d9,d10,d11,d12⟩:=(A8 D2).cells;have x0:=(A8 A2).c0;have x1:=(A8 A2).c1;have x2:=(A8 A2).c2;have x3:=(A8 A2).c3;have x4:=(A8 A2).c4;have x5:=(A8 A2).c5;have x6:=(A8 A2).c6;go_wp2_with fail;refine(A8 CS _ ((A8 HX).next (A8 D2).b)).mono ?_;rintro e w3 ⟨vs,rfl,ho3,hx3,ht3⟩;obtain⟨sa,sc,rfl⟩:=BN ho3;rw[List.length_map]at ho3⊢;have D3:=AA (((A8 D2).dt k).touch hk0 ht3);have A3:=AA ((A8 A2).turn ht3 (show k≠g by omega));have X3:=AA hx3;have O3:=AA ho3;have hw3:=Nat.le_trans (A8 D2).r.lt (Nat.le_refl _);clear d0 d1 d2 d3 d4 d5 d6 d7 d8 d9 d10 d11 d12 x0 x1 x2 x3 x4 x5 x6 ho3 hx3 ht3 CS A2;by_cases hq:(wL p d).length<2
 .have HP:Hid (LH (GY p) d=(⟨16,x.z,[],[],nd0,[]⟩,⟨p.n+1,wSv p d,fun _=>0,p.c,p.D,p.H++[x],p.h⟩)):=AA (by
   rw[<-A8 HXX,LH,if_neg (show ¬ldP (GY p).r=-1 from(A8 HN).1),if_neg (show ¬wE (GY p) d≠0 from(A8 HN).2),if_pos (show (wL (GY p) d).length<2 from hq)];rfl)
  have CQ:=AA (fun V=>ZN V);have CD:=AA (WO _ k w3 (A8 X3));have hq4:((wL p d).length:Int)<2:=by omega
  go_wp2_with fail;refine(A8 CQ _).mono ?_;rintro e w4 ⟨rfl,hw4⟩;obtain rfl:=hw4.symm;go_wp2_with fail;refine(A8 CD).mono ?_;rintro e w5 ⟨rfl,hx5,ht5⟩;have E9:=AA ((A8 D3).touch hk0 ht5);have x0:=((A8 A3).turn ht5 (show k≠g by omega)).c0;have OK:∀i,i<3->IK 300 (wSv p d i):=fun i hi=>((A8 HI).2.ok (A8 HI).1 hi).more (by have:=(A8 HI).2.n;omega);have X1:=AA (bW (kd:=1) (B:=W.heap.size+2) (r:=⟨16,x.z,[],[],nd0,[]⟩) (vn:=N0) (A8 E9).t (A8 E9).r (by omega) (by omega) (hx5.hist (p.H++[x])) OK (.inl ⟨rfl,rfl⟩) (by omega));have b0:=(A8 E9).r.cells;have g0:=(A8 E9).r.AX;simp only[rpV,aS,nd0]at X1;clear CQ CD hx5 ht5 E9 A3 D3 X3 O3 OK HX HI HN D2;go_wp2_with fail;exact bodyPost_ret (v:=.agg #[I0 16,I0 x.z,.string ⟨#[]⟩,.string ⟨#[]⟩,I0 0,I0 0,I0 0,I0 0,I0 0,I0 0,I0 0,N0]) (by simp[results,results76,go_sem,b0]) rfl (by rw[A8 HP];exact A8 X1)
 .have HP:Hid (LH (GY p) d=(⟨0,x.z,x.p,[],(iU (JX ((p.s b).m++[x]) ((p.s b).m.length+1)) x.p).getD nd0,(GH (wSv p d) (wL p d)).2⟩,⟨p.n+1,(GH (wSv p d) (wL p d)).1,wRo p d,wCl p d (GH (wSv p d) (wL p d)).2,p.D++[x],p.H++[x],p.h⟩)):=AA (by
   rw[<-A8 HXX,LH,if_neg (show ¬ldP (GY p).r=-1 from(A8 HN).1),if_neg (show ¬wE (GY p) d≠0 from(A8 HN).2),if_neg (show ¬ (wL (GY p) d).length<2 from hq)];simp only[show ldN (GY p).r=b from(A8 HI).2.ld (A8 HI).1];rfl)
  have CQ:=AA (fun V=>ZN V);have hq4:¬ ((wL p d).length:Int)<2:=by omega
  have hn:=(A8 HI).2.n;have OK:∀i,i<3->IK 300 (wSv p d i):=fun i hi=>((A8 HI).2.ok (A8 HI).1 hi).more (by omega);have HW:=AA (tH (A8 HI).2 (A8 HI).1 hq);have CC:=AA (iC ⟨p.n+1,wSv p d,wRo p d,p.c,p.D,p.H,p.h⟩ k w3 _ (wL p d) (A8 X3) (Row.own (A8 O3) (by omega)) (fun i hi=>(UC.1 hi).1) (bM p d) hlw OK (fun i hi=>(A8 HI).2.up (A8 HI).1 (UC.1 hi).1 (CM6 (UC.1 hi).2)) (fun i hi=>((A8 HI).1.c i hi).more (by omega) (fun _ hx=>hx)));have CA:=AA (fun V T a1 c1 (hV:WX V k ⟨p.n+1,(GH (wSv p d) (wL p d)).1,wRo p d,U6 p.c T,p.D,p.H,p.h⟩)=>C49 ⟨p.n+1,(GH (wSv p d) (wL p d)).1,wRo p d,U6 p.c T,p.D,p.H,p.h⟩ x d.c.toNat k b T a1 c1 V hV (by omega) (A8 HI).2.lt (YF (A8 HI).2.lt (gW.2 (A8 HI).2.two) (A8 HW).one) (fun i hi=>((A8 HW).s i hi).more (by show p.n+1<=300;omega)) (by
   show ((GH (wSv p d) (wL p d)).1 b).up=true;rw[B04]
   split
   .exact(A8 HI).2.up (A8 HI).1 (A8 HI).2.lt (WQ (A8 HI).2.two).1
   .exact(A8 HI).2.up (A8 HI).1 (A8 HI).2.lt (WQ (A8 HI).2.two).1) (yX (((A8 HI).1.c d.c.toNat (by omega)).more (by omega) (fun _ hx=>hx)) T) (by
   show (p.c d.c.toNat).z<=x.z;have hz:=(A8 HI).1.c d.c.toNat (by omega);have hx0:=((A8 HI).2.zs (A8 HI).1).2.1;rw[A8 HXX]at hx0;rcases hz.z with e|⟨y,hy,e⟩
   .omega
   .have:=OJ (A8 HI).1.a ((A8 HI).2.wr (A8 HI).1) y hy;rw[A8 HXX]at this;omega) (by have:=(A8 HI).1.few;show (p.D.length:Int)<=300;omega))
  have HM:Hid (JX ((GH (wSv p d) (wL p d)).1 b).m ((GH (wSv p d) (wL p d)).1 b).dn=JX ((p.s b).m++[x]) ((p.s b).m.length+1)):=AA (by
   have e1:=(WQ (p:=p) (d:=d) (A8 HI).2.two);rw[B04,if_pos ⟨(A8 HI).2.lt,e1.2⟩,wSv,if_pos e1.1,A8 HXX];show JX ((p.s b).m++[x]) ((p.s b).m++[x]).length=_;rw[List.length_append];rfl)
  obtain⟨cn,hcn,hc16⟩:∃cn:Nat,d.c=cn/\cn<16:=⟨d.c.toNat,by omega,by omega⟩;go_wp2_with fail;refine(A8 CQ _).mono ?_;rintro e w4 ⟨rfl,hw4⟩;obtain rfl:=hw4.symm;go_wp2_with fail;refine(A8 CC).mono ?_;rintro e w5 ⟨vn,rfl,ho5,hx5,ht5⟩;obtain⟨na,nc,rfl⟩:=BN ho5;generalize hNN:(GH (wSv p d) (wL p d)).2=NN at*;generalize hRR:(GH (wSv p d) (wL p d)).1=RR at*;have C5:=AA (A8 CA w5 NN na nc hx5);have A5:=(A8 A3).turn ht5 (show k≠g by omega);have D5:=AA ((A8 D3).touch hk0 ht5);have O5:=AA ho5;have x0:=A5.c0;have x1:=A5.c1;have x2:=A5.c2;have x3:=A5.c3;have x4:=A5.c4;have x5:=A5.c5;have x6:=A5.c6;obtain⟨⟨_,y1,_,_,_,_,_⟩,_,_,_,_,_,_⟩:=(A8 D5).cells;rw[hcn,Int.toNat_natCast]at C5;rw[hcn]at y1;unfold DW wP at C5;have HNN:=AA (And.intro hNN hRR);have hs3:W.heap.size+2<=w3.heap.size:=by have:=(A8 D3).r.lt;omega
  clear CQ CC CA A5 hx5 ht5 ho5 A3 D3 X3 O3 OK HX D2 hNN hRR;go_wp2_with fail;refine(A8 C5).mono ?_;rintro e w6 ⟨rfl,hx6,ht6⟩;have E9:=AA ((A8 D5).touch hk0 ht6);have X1:=AA (bW (kd:=1) (B:=w3.heap.size) (r:=⟨0,x.z,x.p,[],(iU (JX (RR b).m (RR b).dn) x.p).getD nd0,NN⟩) (vn:=.slice na NN.length nc) (A8 E9).t (A8 E9).r (by omega) (by omega) (hx6.hist (p.H++[x])) (fun i hi=>((A8 HW).s i hi).more (by show p.n+1<=300;omega)) (FX (A8 O5) ht6 (fun q e=>by have:=MW (A8 O5) e;omega)) (by omega));have b0:=(A8 E9).r.cells;have g0:=(A8 E9).r.AX;unfold rpV;simp only[rpV,aS]at X1;generalize hst:(iU (JX (RR b).m (RR b).dn) x.p).getD nd0=st at*;have HST:=AA hst;clear hst x0 x1 x2 x3 x4 x5 x6 y1 C5 D5 O5 hx6 ht6 E9;go_wp2_with fail;refine bodyPost_ret (v:=.agg #[I0 0,I0 x.z,S0 x.p,.string ⟨#[]⟩,I0 st.c,I0 st.m,I0 st.q,I0 st.v,I0 st.k,I0 st.o,I0 st.n,.slice na NN.length nc]) (by simp[results,results76,go_sem,b0]) rfl ?_;have hst:=A8 HST;rw[A8 HM]at hst;have hz:=((A8 HI).2.fit (A8 HI).1).z;rw[A8 HXX]at hz;rw[A8 HP,hst,wCl,hcn,Int.toNat_natCast,<-hz];exact A8 X1
theorem AJ4(p:Pw)(d:Dd)(k:Nat)(W:World)(hx:WX W k (GY p))(hT:VQ W)(h:ND p)(hn:p.n<300)(hc:0<=d.c/\d.c<16)(hp:d.q.p.length<=140737488355328)(hd:d.q.d.length<=140737488355328):Calls prog 76 #[wP k,ddV d] W (Did W k 1 (LH (GY p) d)):=by
 rcases UA p.r with⟨e,_⟩|⟨b,hb,_,hr⟩
 .rw[LH,if_pos (show ldP (GY p).r=-1 from e)];exact AJ2 _ d k W hx e
 .have hl:=(YG h hb hr).2.2;by_cases hE:wE p d=0
  .have w:Wr p d b:=⟨hb,hr,hn,hE⟩;exact AJ3 p d k b W hx hT h w hc hp hd
  .rw[LH,if_neg (by show ¬ldP p.r=-1;rw[hl];omega),if_pos (show wE (GY p) d≠0 from hE)];exact B38 p d k b W hx hT h hn hb hr hc hp hd hE
