/-
  Part.
-/
import Derived.Test.YtkpojhhfjddegaaGreatDoorLOAB
import Derived.Test.YtkpojhhfjddegaaGreatDoorLOAC
import Derived.Test.YtkpojhhfjddegaaGreatDoorLOAE
set_option maxRecDepth 20000
set_option maxHeartbeats 8000000
namespace Go.Proofs.YtkpojhhfjddegaaGreatDoor
open Go.RowKit Go.Proofs.Tryz
theorem CT1(x:GU):gdE x≠16:=by
 unfold gdE
 repeat' split
 all_goals decide
theorem BX1(l:List UInt8):vW l≠16:=by
 unfold vW
 split<;>decide
theorem BX2(d l:List UInt8):eY d l≠16:=by
 unfold eY
 repeat' split
 all_goals decide
theorem CT3(t:Tr)(r:Rq):nJ t r≠16:=by
 unfold nJ AB8 AB6 AU8 oO
 repeat' split
 all_goals first|decide|exact BX1 _|exact BX2 _ _
theorem CT4(t:Tr)(x:GU):WY t x≠16:=by
 unfold WY
 repeat' split
 all_goals first|decide|exact CT1 _
theorem CT5(t:Tr)(x:GU):nI t x≠16:=by
 unfold nI AK6 BJ2 CI5
 repeat' split
 all_goals decide
theorem CT6(t:Tr)(x:GU):Z7 t x≠16:=by
 unfold Z7
 repeat' split
 all_goals first|decide|exact CT4 _ _|exact CT5 _ _
theorem CT7(p:Pw)(d:Dd):wE p d≠16:=by
 unfold wE iL
 repeat' split
 all_goals first|decide|exact CT3 _ _|exact CT6 _ _
theorem CG9{E:Int}(h:E≠0)(h2:E≠16):PO 1 E=false:=by simp[PO,h,h2]
theorem TAt.turn{W V:World}{k g:Nat}{x:GU}(h:TAt W g x)(ht:Touch (· =k) W V)(hk:k≠g):TAt V g x:=(ht.block g h.lt (fun e=>hk e.symm)).trans h
theorem AU0(p:Pw)(d:Dd)(k:Nat)(W:World)(hx:WX W k p)(hl:ldP p.r=-1):Calls prog 36 #[wP k,ddV d] W (Did W k 1 (OJ 14,p)):=by
 have D0:=G9 (DB.start W d);have CL:=G9 (fun V (hV:B0 W V)=>NZ p k V (hx.next hV));rw[hl]at CL;have CR:=G9 (fun W=>KQ 14 W);unfold VJ at CR;clear hx hl;unfold wP ddV;go_enter func36,ntmps36;go_upto_region 1 with fail;generalize ((W.alloc _).alloc _)=W0 at*;go_wp2_with fail;refine(G8 CL _ (G8 D0).b).mono ?_;rintro e w1 ⟨rfl,hb1⟩;have D1:=G9 ((G8 D0).next hb1);clear hb1 D0;go_wp2_with fail;refine(G8 CR _).mono ?_;rintro e w2 ⟨rfl,hb2⟩;have D2:=(G8 D1).next hb2;have b0:=D2.r.cells;have g0:=D2.r.GX;have X1:Hid (Did W k 1 (OJ 14,p) (.returned (VJ 14)) (iP w2 (W.heap.size+1) (I0 14) (I0 0) (.string ⟨#[]⟩) (.string ⟨#[]⟩) (I0 0) (I0 0) (I0 0) (I0 0) (I0 0) (I0 0) (I0 0) (N0))):=G9 (WH rfl (KH (Touch.of_below D2.b) (by omega) _ _ _ _ _ _ _ _ _ _ _ _) (by decide));clear hb2 D2 D1;unfold VJ at X1;go_wp2_with fail;exact bodyPost_ret (v:=.agg #[I0 14,I0 0,.string ⟨#[]⟩,.string ⟨#[]⟩,I0 0,I0 0,I0 0,I0 0,I0 0,I0 0,I0 0,N0]) (by simp[results,results36,go_sem,b0]) rfl (G8 X1)
theorem BE9(p:Pw)(d:Dd)(k b:Nat)(W:World)(hx:WX W k (LQ p))(hT:WZ W)(h:QE p)(hn:p.n<300)(hb:b<3)(hr:p.r b=2)(hc:0<=d.c/\d.c<16)(hp:d.q.p.length<=140737488355328)(hd:d.q.d.length<=140737488355328)(hE:wE p d≠0):Calls prog 36 #[wP k,ddV d] W (Did W k 1 (OJ (wE p d),LQ p)):=by
 have D0:=G9 (DB.start W d);have hl:=(dL h hb hr).2.2;have CL:=G9 (fun V (hV:B0 W V)=>NZ (LQ p) k V (hx.next hV));have CP:=G9 (fun V (hV:B0 W V)=>iJ (LQ p) d k b V (hx.next hV) (hT.next hV) hb hl (h.rup b hb (by rw[hr];decide)) ((h.s b hb).more (by omega)) (BB5 h hn hb hr).1 hc hp hd);have e1:wE (LQ p) d=wE p d:=rfl;rw[e1]at CP;simp only[show (LQ p).r=p.r from rfl,hl]at CL;have CR:=G9 (fun W=>KQ (wE p d) W);have HL:=G9 (CG9 hE (CT7 p d));have hE2:(wE p d==0)=false:=beq_eq_false_iff_ne.2 hE;unfold VJ at CR;unfold JA at CP;clear hx hl h hr hT hc hp hd e1;generalize wE p d=E at*;generalize wX (LQ p) d=x at*;unfold wP ddV;unfold ddV at CP;go_enter func36,ntmps36;go_upto_region 1 with fail;generalize ((W.alloc _).alloc _)=W0 at*;go_wp2_with fail;refine(G8 CL _ (G8 D0).b).mono ?_;rintro e w1 ⟨rfl,hb1⟩;have D1:=G9 ((G8 D0).next hb1);clear hb1 D0;obtain⟨⟨d0,d1,d2,d3,d4,d5,d6⟩,d7,d8,d9,d10,d11,d12⟩:=(G8 D1).cells;have hbn:((b:Int)==-1)=false:=beq_eq_false_iff_ne.2 (by omega);go_wp2_with fail;refine(G8 CP _ (G8 D1).b).mono ?_;rintro e w2 ⟨rfl,hb2⟩;have D2:=G9 (((G8 D1).next hb2).next (GH w2 (.cells #[I0 x.z,I0 x.o,I0 x.s,S0 x.p,S0 x.d,I0 x.v,I0 x.w] 83)));clear d0 d1 d2 d3 d4 d5 d6 d7 d8 d9 d10 d11 d12 hb2 D1 CP CL;go_wp2_with fail;refine(G8 CR _).mono ?_;rintro e w3 ⟨rfl,hb3⟩;have D3:=(G8 D2).next hb3;have b0:=D3.r.cells;have g0:=D3.r.GX;have X1:Hid (Did W k 1 (OJ E,LQ p) (.returned (VJ E)) (iP w3 (W.heap.size+1) (I0 E) (I0 0) (.string ⟨#[]⟩) (.string ⟨#[]⟩) (I0 0) (I0 0) (I0 0) (I0 0) (I0 0) (I0 0) (I0 0) (N0))):=G9 (WH rfl (KH (Touch.of_below D3.b) (by omega) _ _ _ _ _ _ _ _ _ _ _ _) (G8 HL));clear hb3 D3 D2;unfold VJ at X1;go_wp2_with fail;exact bodyPost_ret (v:=.agg #[I0 E,I0 0,.string ⟨#[]⟩,.string ⟨#[]⟩,I0 0,I0 0,I0 0,I0 0,I0 0,I0 0,I0 0,N0]) (by simp[results,results36,go_sem,b0]) rfl (G8 X1)
theorem AU1(p:Pw)(d:Dd)(k b:Nat)(W:World)(hx:WX W k (LQ p))(hT:WZ W)(h:QE p)(w:Wr p d b)(hc:0<=d.c/\d.c<16)(hp:d.q.p.length<=140737488355328)(hd:d.q.d.length<=140737488355328):Calls prog 36 #[wP k,ddV d] W (Did W k 1 (P9 (LQ p) d)):=by
 have D0:=G9 (DB.start W d);have hl:=(dL h w.lt w.two).2.2;have hk0:=hx.lt;have CL:=G9 (fun V (hV:B0 W V)=>NZ (LQ p) k V (hx.next hV));have CP:=G9 (fun V (hV:B0 W V)=>iJ (LQ p) d k b V (hx.next hV) (hT.next hV) w.lt hl (h.rup b w.lt (by rw[w.two];decide)) ((h.s b w.lt).more (by have:=w.n;omega)) (BB5 h w.n w.lt w.two).1 hc hp hd);have e1:wE (LQ p) d=0:=w.e;have e2:wX (LQ p) d=wX p d:=rfl;rw[e1,e2]at CP;simp only[show (LQ p).r=p.r from rfl,hl]at CL;have CS:=G9 (fun V (hV:WX V k (LQ p))=>AT0 (p.n+1) p d k b V hV h w);have hlw:(wL p d).length<=3:=Nat.le_trans (List.length_filter_le _ _) (by simp);have HX:=G9 hx;have HI:=G9 (And.intro h w);have HN:Hid (ldP p.r≠ -1/\¬wE p d≠0):=G9 ⟨by rw[hl];omega,by have:=w.e;omega⟩;have hbn:((b:Int)==-1)=false:=beq_eq_false_iff_ne.2 (by omega);unfold JA at CP CS;clear hx hl h w hT hp hd e1 e2;generalize hxx:wX p d=x at*;have HXX:=G9 hxx;clear hxx;unfold wP ddV;unfold ddV at CP CS;go_enter func36,ntmps36;go_upto_region 1 with fail;generalize ((W.alloc _).alloc _)=W0 at*;go_wp2_with fail;refine(G8 CL _ (G8 D0).b).mono ?_;rintro e w1 ⟨rfl,hb1⟩;have D1:=G9 ((G8 D0).next hb1);clear hb1 D0;obtain⟨⟨d0,d1,d2,d3,d4,d5,d6⟩,d7,d8,d9,d10,d11,d12⟩:=(G8 D1).cells;go_wp2_with fail;refine(G8 CP _ (G8 D1).b).mono ?_;rintro e w2 ⟨rfl,hb2⟩;have D2:=G9 (((G8 D1).next hb2).next (GH w2 (.cells #[I0 x.z,I0 x.o,I0 x.s,S0 x.p,S0 x.d,I0 x.v,I0 x.w] 83)));have A2:=G9 (TAt.new w2 x);have hg2:W.heap.size+2<=w2.heap.size:=((G8 D1).next hb2).r.lt;clear d0 d1 d2 d3 d4 d5 d6 d7 d8 d9 d10 d11 d12 hb2 D1 CP CL hbn;go_upto_region 6 with fail;generalize w2.alloc _=W2 at*;generalize w2.heap.size=g at*;obtain⟨⟨d0,d1,d2,d3,d4,d5,d6⟩,d7,d8,d9,d10,d11,d12⟩:=(G8 D2).cells;have x0:=(G8 A2).c0;have x1:=(G8 A2).c1;have x2:=(G8 A2).c2;have x3:=(G8 A2).c3;have x4:=(G8 A2).c4;have x5:=(G8 A2).c5;have x6:=(G8 A2).c6;go_wp2_with fail;refine(G8 CS _ ((G8 HX).next (G8 D2).b)).mono ?_;rintro e w3 ⟨vs,rfl,ho3,hx3,ht3⟩;obtain⟨sa,sc,rfl⟩:=IU ho3;rw[List.length_map]at ho3⊢;have D3:=G9 (((G8 D2).dt k).touch hk0 ht3);have A3:=G9 ((G8 A2).turn ht3 (show k≠g by omega));have X3:=G9 hx3;have O3:=G9 ho3;have hw3:=Nat.le_trans (G8 D2).r.lt (Nat.le_refl _);clear d0 d1 d2 d3 d4 d5 d6 d7 d8 d9 d10 d11 d12 x0 x1 x2 x3 x4 x5 x6 ho3 hx3 ht3 CS A2;by_cases hq:(wL p d).length<2
 .have HP:Hid (P9 (LQ p) d=(⟨16,x.z,[],[],nd0,[]⟩,⟨p.n+1,wSv p d,fun _=>0,p.c,p.D,p.H++[x],p.h⟩)):=G9 (by
   rw[<-G8 HXX,P9,if_neg (show ¬ldP (LQ p).r=-1 from(G8 HN).1),if_neg (show ¬wE (LQ p) d≠0 from(G8 HN).2),if_pos (show (wL (LQ p) d).length<2 from hq)];rfl)
  have CQ:=G9 (fun V=>fZ V);have CD:=G9 (aI _ k w3 (G8 X3));have hq4:((wL p d).length:Int)<2:=by omega
  go_wp2_with fail;refine(G8 CQ _).mono ?_;rintro e w4 ⟨rfl,hw4⟩;obtain rfl:=hw4.symm;go_wp2_with fail;refine(G8 CD).mono ?_;rintro e w5 ⟨rfl,hx5,ht5⟩;have E9:=G9 ((G8 D3).touch hk0 ht5);have x0:=((G8 A3).turn ht5 (show k≠g by omega)).c0;have OK:∀i,i<3->MO 300 (wSv p d i):=fun i hi=>((G8 HI).2.ok (G8 HI).1 hi).more (by have:=(G8 HI).2.n;omega);have X1:=G9 (jM (kd:=1) (B:=W.heap.size+2) (r:=⟨16,x.z,[],[],nd0,[]⟩) (vn:=N0) (G8 E9).t (G8 E9).r (by omega) (by omega) (hx5.hist (p.H++[x])) OK (.inl ⟨rfl,rfl⟩) (by omega));have b0:=(G8 E9).r.cells;have g0:=(G8 E9).r.GX;simp only[rpV,iP,nd0]at X1;clear CQ CD hx5 ht5 E9 A3 D3 X3 O3 OK HX HI HN D2;go_wp2_with fail;exact bodyPost_ret (v:=.agg #[I0 16,I0 x.z,.string ⟨#[]⟩,.string ⟨#[]⟩,I0 0,I0 0,I0 0,I0 0,I0 0,I0 0,I0 0,N0]) (by simp[results,results36,go_sem,b0]) rfl (by rw[G8 HP];exact G8 X1)
 .have HP:Hid (P9 (LQ p) d=(⟨0,x.z,x.p,[],(nY (TG ((p.s b).m++[x]) ((p.s b).m.length+1)) x.p).getD nd0,(MB (wSv p d) (wL p d)).2⟩,⟨p.n+1,(MB (wSv p d) (wL p d)).1,wRo p d,wCl p d (MB (wSv p d) (wL p d)).2,p.D++[x],p.H++[x],p.h⟩)):=G9 (by
   rw[<-G8 HXX,P9,if_neg (show ¬ldP (LQ p).r=-1 from(G8 HN).1),if_neg (show ¬wE (LQ p) d≠0 from(G8 HN).2),if_neg (show ¬ (wL (LQ p) d).length<2 from hq)];simp only[show ldN (LQ p).r=b from(G8 HI).2.ld (G8 HI).1];rfl)
  have CQ:=G9 (fun V=>fZ V);have hq4:¬ ((wL p d).length:Int)<2:=by omega
  have hn:=(G8 HI).2.n;have OK:∀i,i<3->MO 300 (wSv p d i):=fun i hi=>((G8 HI).2.ok (G8 HI).1 hi).more (by omega);have HW:=G9 (yV (G8 HI).2 (G8 HI).1 hq);have CC:=G9 (mW ⟨p.n+1,wSv p d,wRo p d,p.c,p.D,p.H,p.h⟩ k w3 _ (wL p d) (G8 X3) (Row.own (G8 O3) (by omega)) (fun i hi=>(iI.1 hi).1) (uG p d) hlw OK (fun i hi=>(G8 HI).2.up (G8 HI).1 (iI.1 hi).1 (CZ9 (iI.1 hi).2)) (fun i hi=>((G8 HI).1.c i hi).more (by omega) (fun _ hx=>hx)));have CA:=G9 (fun V T a1 c1 (hV:WX V k ⟨p.n+1,(MB (wSv p d) (wL p d)).1,wRo p d,aC p.c T,p.D,p.H,p.h⟩)=>CG3 ⟨p.n+1,(MB (wSv p d) (wL p d)).1,wRo p d,aC p.c T,p.D,p.H,p.h⟩ x d.c.toNat k b T a1 c1 V hV (by omega) (G8 HI).2.lt (jG (G8 HI).2.lt (mO.2 (G8 HI).2.two) (G8 HW).one) (fun i hi=>((G8 HW).s i hi).more (by show p.n+1<=300;omega)) (by
   show ((MB (wSv p d) (wL p d)).1 b).up=true;rw[BB7]
   split
   .exact(G8 HI).2.up (G8 HI).1 (G8 HI).2.lt (aJ (G8 HI).2.two).1
   .exact(G8 HI).2.up (G8 HI).1 (G8 HI).2.lt (aJ (G8 HI).2.two).1) (A78 (((G8 HI).1.c d.c.toNat (by omega)).more (by omega) (fun _ hx=>hx)) T) (by
   show (p.c d.c.toNat).z<=x.z;have hz:=(G8 HI).1.c d.c.toNat (by omega);have hx0:=((G8 HI).2.zs (G8 HI).1).2.1;rw[G8 HXX]at hx0;rcases hz.z with e|⟨y,hy,e⟩
   .omega
   .have:=QI (G8 HI).1.a ((G8 HI).2.wr (G8 HI).1) y hy;rw[G8 HXX]at this;omega) (by have:=(G8 HI).1.few;show (p.D.length:Int)<=300;omega))
  have HM:Hid (TG ((MB (wSv p d) (wL p d)).1 b).m ((MB (wSv p d) (wL p d)).1 b).dn=TG ((p.s b).m++[x]) ((p.s b).m.length+1)):=G9 (by
   have e1:=(aJ (p:=p) (d:=d) (G8 HI).2.two);rw[BB7,if_pos ⟨(G8 HI).2.lt,e1.2⟩,wSv,if_pos e1.1,G8 HXX];show TG ((p.s b).m++[x]) ((p.s b).m++[x]).length=_;rw[List.length_append];rfl)
  obtain⟨cn,hcn,hc16⟩:∃cn:Nat,d.c=cn/\cn<16:=⟨d.c.toNat,by omega,by omega⟩;go_wp2_with fail;refine(G8 CQ _).mono ?_;rintro e w4 ⟨rfl,hw4⟩;obtain rfl:=hw4.symm;go_wp2_with fail;refine(G8 CC).mono ?_;rintro e w5 ⟨vn,rfl,ho5,hx5,ht5⟩;obtain⟨na,nc,rfl⟩:=IU ho5;generalize hNN:(MB (wSv p d) (wL p d)).2=NN at*;generalize hRR:(MB (wSv p d) (wL p d)).1=RR at*;have C5:=G9 (G8 CA w5 NN na nc hx5);have A5:=(G8 A3).turn ht5 (show k≠g by omega);have D5:=G9 ((G8 D3).touch hk0 ht5);have O5:=G9 ho5;have x0:=A5.c0;have x1:=A5.c1;have x2:=A5.c2;have x3:=A5.c3;have x4:=A5.c4;have x5:=A5.c5;have x6:=A5.c6;obtain⟨⟨_,y1,_,_,_,_,_⟩,_,_,_,_,_,_⟩:=(G8 D5).cells;rw[hcn,Int.toNat_natCast]at C5;rw[hcn]at y1;unfold JA wP at C5;have HNN:=G9 (And.intro hNN hRR);have hs3:W.heap.size+2<=w3.heap.size:=by have:=(G8 D3).r.lt;omega
  clear CQ CC CA A5 hx5 ht5 ho5 A3 D3 X3 O3 OK HX D2 hNN hRR;go_wp2_with fail;refine(G8 C5).mono ?_;rintro e w6 ⟨rfl,hx6,ht6⟩;have E9:=G9 ((G8 D5).touch hk0 ht6);have X1:=G9 (jM (kd:=1) (B:=w3.heap.size) (r:=⟨0,x.z,x.p,[],(nY (TG (RR b).m (RR b).dn) x.p).getD nd0,NN⟩) (vn:=.slice na NN.length nc) (G8 E9).t (G8 E9).r (by omega) (by omega) (hx6.hist (p.H++[x])) (fun i hi=>((G8 HW).s i hi).more (by show p.n+1<=300;omega)) (KF (G8 O5) ht6 (fun q e=>by have:=Q8 (G8 O5) e;omega)) (by omega));have b0:=(G8 E9).r.cells;have g0:=(G8 E9).r.GX;unfold rpV;simp only[rpV,iP]at X1;generalize hst:(nY (TG (RR b).m (RR b).dn) x.p).getD nd0=st at*;have HST:=G9 hst;clear hst x0 x1 x2 x3 x4 x5 x6 y1 C5 D5 O5 hx6 ht6 E9;go_wp2_with fail;refine bodyPost_ret (v:=.agg #[I0 0,I0 x.z,S0 x.p,.string ⟨#[]⟩,I0 st.c,I0 st.m,I0 st.q,I0 st.v,I0 st.k,I0 st.o,I0 st.n,.slice na NN.length nc]) (by simp[results,results36,go_sem,b0]) rfl ?_;have hst:=G8 HST;rw[G8 HM]at hst;have hz:=((G8 HI).2.fit (G8 HI).1).z;rw[G8 HXX]at hz;rw[G8 HP,hst,wCl,hcn,Int.toNat_natCast,<-hz];exact G8 X1
theorem AU2(p:Pw)(d:Dd)(k:Nat)(W:World)(hx:WX W k (LQ p))(hT:WZ W)(h:QE p)(hn:p.n<300)(hc:0<=d.c/\d.c<16)(hp:d.q.p.length<=140737488355328)(hd:d.q.d.length<=140737488355328):Calls prog 36 #[wP k,ddV d] W (Did W k 1 (P9 (LQ p) d)):=by
 rcases YG p.r with⟨e,_⟩|⟨b,hb,_,hr⟩
 .rw[P9,if_pos (show ldP (LQ p).r=-1 from e)];exact AU0 _ d k W hx e
 .have hl:=(dL h hb hr).2.2;by_cases hE:wE p d=0
  .have w:Wr p d b:=⟨hb,hr,hn,hE⟩;exact AU1 p d k b W hx hT h w hc hp hd
  .rw[P9,if_neg (by show ¬ldP p.r=-1;rw[hl];omega),if_pos (show wE (LQ p) d≠0 from hE)];exact BE9 p d k b W hx hT h hn hb hr hc hp hd hE
