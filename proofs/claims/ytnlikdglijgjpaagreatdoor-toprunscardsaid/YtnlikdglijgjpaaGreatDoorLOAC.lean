/-
  Part.
-/
import Derived.Test.YtnlikdglijgjpaaGreatDoorLOY
import Derived.Test.YtnlikdglijgjpaaGreatDoorLOZ
import Derived.Test.YtnlikdglijgjpaaGreatDoorLOAB
set_option maxRecDepth 20000
set_option maxHeartbeats 8000000
namespace Go.Proofs.YtnlikdglijgjpaaGreatDoor
open Go.RowKit Go.Proofs.Tryz
theorem CO3(x:GK):gdE x≠16:=by
 unfold gdE
 repeat' split
 all_goals decide
theorem BS4(l:List UInt8):tX l≠16:=by
 unfold tX
 split<;>decide
theorem BS5(d l:List UInt8):bZ d l≠16:=by
 unfold bZ
 repeat' split
 all_goals decide
theorem CO4(t:Tr)(r:Rq):lC t r≠16:=by
 unfold lC A81 A79 AR3 mQ
 repeat' split
 all_goals first|decide|exact BS4 _|exact BS5 _ _
theorem CO5(t:Tr)(x:GK):VO t x≠16:=by
 unfold VO
 repeat' split
 all_goals first|decide|exact CO3 _
theorem CO6(t:Tr)(x:GK):l9 t x≠16:=by
 unfold l9 AG5 BF2 CE1
 repeat' split
 all_goals decide
theorem CO7(t:Tr)(x:GK):Y7 t x≠16:=by
 unfold Y7
 repeat' split
 all_goals first|decide|exact CO5 _ _|exact CO6 _ _
theorem CW3(p:Pw)(d:Dd):wE p d≠16:=by
 unfold wE fG
 repeat' split
 all_goals first|decide|exact CO4 _ _|exact CO7 _ _
theorem CC5{E:Int}(h:E≠0)(h2:E≠16):TN 1 E=false:=by simp[TN,h,h2]
theorem TAt.turn{W V:World}{k g:Nat}{x:GK}(h:TAt W g x)(ht:Touch (· =k) W V)(hk:k≠g):TAt V g x:=(ht.block g h.lt (fun e=>hk e.symm)).trans h
theorem AP8(p:Pw)(d:Dd)(k:Nat)(W:World)(hx:WX W k p)(hl:ldP p.r=-1):Calls prog 37 #[wP k,ddV d] W (Did W k 1 (SV 14,p)):=by
 have D0:=G7 (DB.start W d);have CL:=G7 (fun V (hV:B0 W V)=>S9 p k V (hx.next hV));rw[hl]at CL;have CR:=G7 (fun W=>KP 14 W);unfold UC at CR;clear hx hl;unfold wP ddV;go_enter func37,ntmps37;go_upto_region 1 with fail;generalize ((W.alloc _).alloc _)=W0 at*;go_wp2_with fail;refine(G6 CL _ (G6 D0).b).mono ?_;rintro e w1 ⟨rfl,hb1⟩;have D1:=G7 ((G6 D0).next hb1);clear hb1 D0;go_wp2_with fail;refine(G6 CR _).mono ?_;rintro e w2 ⟨rfl,hb2⟩;have D2:=(G6 D1).next hb2;have b0:=D2.r.cells;have g0:=D2.r.GX;have X1:Hid (Did W k 1 (SV 14,p) (.returned (UC 14)) (fK w2 (W.heap.size+1) (I0 14) (I0 0) (.string ⟨#[]⟩) (.string ⟨#[]⟩) (I0 0) (I0 0) (I0 0) (I0 0) (I0 0) (I0 0) (I0 0) (N0))):=G7 (VA rfl (KD (Touch.of_below D2.b) (by omega) _ _ _ _ _ _ _ _ _ _ _ _) (by decide));clear hb2 D2 D1;unfold UC at X1;go_wp2_with fail;exact bodyPost_ret (v:=.agg #[I0 14,I0 0,.string ⟨#[]⟩,.string ⟨#[]⟩,I0 0,I0 0,I0 0,I0 0,I0 0,I0 0,I0 0,N0]) (by simp[results,results37,go_sem,b0]) rfl (G6 X1)
theorem BA2(p:Pw)(d:Dd)(k b:Nat)(W:World)(hx:WX W k (O9 p))(hT:Z5 W)(h:RS p)(hn:p.n<300)(hb:b<3)(hr:p.r b=2)(hc:0<=d.c/\d.c<16)(hp:d.q.p.length<=140737488355328)(hd:d.q.d.length<=140737488355328)(hE:wE p d≠0):Calls prog 37 #[wP k,ddV d] W (Did W k 1 (SV (wE p d),O9 p)):=by
 have D0:=G7 (DB.start W d);have hl:=(eY h hb hr).2.2;have CL:=G7 (fun V (hV:B0 W V)=>S9 (O9 p) k V (hx.next hV));have CP:=G7 (fun V (hV:B0 W V)=>fC (O9 p) d k b V (hx.next hV) (hT.next hV) hb hl (h.rup b hb (by rw[hr];decide)) ((h.s b hb).more (by omega)) (B62 h hn hb hr).1 hc hp hd);have e1:wE (O9 p) d=wE p d:=rfl;rw[e1]at CP;simp only[show (O9 p).r=p.r from rfl,hl]at CL;have CR:=G7 (fun W=>KP (wE p d) W);have HL:=G7 (CC5 hE (CW3 p d));have hE2:(wE p d==0)=false:=beq_eq_false_iff_ne.2 hE;unfold UC at CR;unfold J7 at CP;clear hx hl h hr hT hc hp hd e1;generalize wE p d=E at*;generalize wX (O9 p) d=x at*;unfold wP ddV;unfold ddV at CP;go_enter func37,ntmps37;go_upto_region 1 with fail;generalize ((W.alloc _).alloc _)=W0 at*;go_wp2_with fail;refine(G6 CL _ (G6 D0).b).mono ?_;rintro e w1 ⟨rfl,hb1⟩;have D1:=G7 ((G6 D0).next hb1);clear hb1 D0;obtain⟨⟨d0,d1,d2,d3,d4,d5,d6⟩,d7,d8,d9,d10,d11,d12⟩:=(G6 D1).cells;have hbn:((b:Int)==-1)=false:=beq_eq_false_iff_ne.2 (by omega);go_wp2_with fail;refine(G6 CP _ (G6 D1).b).mono ?_;rintro e w2 ⟨rfl,hb2⟩;have D2:=G7 (((G6 D1).next hb2).next (G8 w2 (.cells #[I0 x.z,I0 x.o,I0 x.s,S0 x.p,S0 x.d,I0 x.v,I0 x.w] 65)));clear d0 d1 d2 d3 d4 d5 d6 d7 d8 d9 d10 d11 d12 hb2 D1 CP CL;go_wp2_with fail;refine(G6 CR _).mono ?_;rintro e w3 ⟨rfl,hb3⟩;have D3:=(G6 D2).next hb3;have b0:=D3.r.cells;have g0:=D3.r.GX;have X1:Hid (Did W k 1 (SV E,O9 p) (.returned (UC E)) (fK w3 (W.heap.size+1) (I0 E) (I0 0) (.string ⟨#[]⟩) (.string ⟨#[]⟩) (I0 0) (I0 0) (I0 0) (I0 0) (I0 0) (I0 0) (I0 0) (N0))):=G7 (VA rfl (KD (Touch.of_below D3.b) (by omega) _ _ _ _ _ _ _ _ _ _ _ _) (G6 HL));clear hb3 D3 D2;unfold UC at X1;go_wp2_with fail;exact bodyPost_ret (v:=.agg #[I0 E,I0 0,.string ⟨#[]⟩,.string ⟨#[]⟩,I0 0,I0 0,I0 0,I0 0,I0 0,I0 0,I0 0,N0]) (by simp[results,results37,go_sem,b0]) rfl (G6 X1)
theorem AP9(p:Pw)(d:Dd)(k b:Nat)(W:World)(hx:WX W k (O9 p))(hT:Z5 W)(h:RS p)(w:Wr p d b)(hc:0<=d.c/\d.c<16)(hp:d.q.p.length<=140737488355328)(hd:d.q.d.length<=140737488355328):Calls prog 37 #[wP k,ddV d] W (Did W k 1 (P9 (O9 p) d)):=by
 have D0:=G7 (DB.start W d);have hl:=(eY h w.lt w.two).2.2;have hk0:=hx.lt;have CL:=G7 (fun V (hV:B0 W V)=>S9 (O9 p) k V (hx.next hV));have CP:=G7 (fun V (hV:B0 W V)=>fC (O9 p) d k b V (hx.next hV) (hT.next hV) w.lt hl (h.rup b w.lt (by rw[w.two];decide)) ((h.s b w.lt).more (by have:=w.n;omega)) (B62 h w.n w.lt w.two).1 hc hp hd);have e1:wE (O9 p) d=0:=w.e;have e2:wX (O9 p) d=wX p d:=rfl;rw[e1,e2]at CP;simp only[show (O9 p).r=p.r from rfl,hl]at CL;have CS:=G7 (fun V (hV:WX V k (O9 p))=>AO8 (p.n+1) p d k b V hV h w);have hlw:(wL p d).length<=3:=Nat.le_trans (List.length_filter_le _ _) (by simp);have HX:=G7 hx;have HI:=G7 (And.intro h w);have HN:Hid (ldP p.r≠ -1/\¬wE p d≠0):=G7 ⟨by rw[hl];omega,by have:=w.e;omega⟩;have hbn:((b:Int)==-1)=false:=beq_eq_false_iff_ne.2 (by omega);unfold J7 at CP CS;clear hx hl h w hT hp hd e1 e2;generalize hxx:wX p d=x at*;have HXX:=G7 hxx;clear hxx;unfold wP ddV;unfold ddV at CP CS;go_enter func37,ntmps37;go_upto_region 1 with fail;generalize ((W.alloc _).alloc _)=W0 at*;go_wp2_with fail;refine(G6 CL _ (G6 D0).b).mono ?_;rintro e w1 ⟨rfl,hb1⟩;have D1:=G7 ((G6 D0).next hb1);clear hb1 D0;obtain⟨⟨d0,d1,d2,d3,d4,d5,d6⟩,d7,d8,d9,d10,d11,d12⟩:=(G6 D1).cells;go_wp2_with fail;refine(G6 CP _ (G6 D1).b).mono ?_;rintro e w2 ⟨rfl,hb2⟩;have D2:=G7 (((G6 D1).next hb2).next (G8 w2 (.cells #[I0 x.z,I0 x.o,I0 x.s,S0 x.p,S0 x.d,I0 x.v,I0 x.w] 65)));have A2:=G7 (TAt.new w2 x);have hg2:W.heap.size+2<=w2.heap.size:=((G6 D1).next hb2).r.lt;clear d0 d1 d2 d3 d4 d5 d6 d7 d8 d9 d10 d11 d12 hb2 D1 CP CL hbn;go_upto_region 6 with fail;generalize w2.alloc _=W2 at*;generalize w2.heap.size=g at*;obtain⟨⟨d0,d1,d2,d3,d4,d5,d6⟩,d7,d8,d9,d10,d11,d12⟩:=(G6 D2).cells;have x0:=(G6 A2).c0;have x1:=(G6 A2).c1;have x2:=(G6 A2).c2;have x3:=(G6 A2).c3;have x4:=(G6 A2).c4;have x5:=(G6 A2).c5;have x6:=(G6 A2).c6;go_wp2_with fail;refine(G6 CS _ ((G6 HX).next (G6 D2).b)).mono ?_;rintro e w3 ⟨vs,rfl,ho3,hx3,ht3⟩;obtain⟨sa,sc,rfl⟩:=IU ho3;rw[List.length_map]at ho3⊢;have D3:=G7 (((G6 D2).dt k).touch hk0 ht3);have A3:=G7 ((G6 A2).turn ht3 (show k≠g by omega));have X3:=G7 hx3;have O3:=G7 ho3;have hw3:=Nat.le_trans (G6 D2).r.lt (Nat.le_refl _);clear d0 d1 d2 d3 d4 d5 d6 d7 d8 d9 d10 d11 d12 x0 x1 x2 x3 x4 x5 x6 ho3 hx3 ht3 CS A2;by_cases hq:(wL p d).length<2
 .have HP:Hid (P9 (O9 p) d=(⟨16,x.z,[],[],nd0,[]⟩,⟨p.n+1,wSv p d,fun _=>0,p.c,p.D,p.H++[x],p.h⟩)):=G7 (by
   rw[<-G6 HXX,P9,if_neg (show ¬ldP (O9 p).r=-1 from(G6 HN).1),if_neg (show ¬wE (O9 p) d≠0 from(G6 HN).2),if_pos (show (wL (O9 p) d).length<2 from hq)];rfl)
  have CQ:=G7 (fun V=>dQ V);have CD:=G7 (ZE _ k w3 (G6 X3));have hq4:((wL p d).length:Int)<2:=by omega
  go_wp2_with fail;refine(G6 CQ _).mono ?_;rintro e w4 ⟨rfl,hw4⟩;obtain rfl:=hw4.symm;go_wp2_with fail;refine(G6 CD).mono ?_;rintro e w5 ⟨rfl,hx5,ht5⟩;have E9:=G7 ((G6 D3).touch hk0 ht5);have x0:=((G6 A3).turn ht5 (show k≠g by omega)).c0;have OK:∀i,i<3->MN 300 (wSv p d i):=fun i hi=>((G6 HI).2.ok (G6 HI).1 hi).more (by have:=(G6 HI).2.n;omega);have X1:=G7 (iD (kd:=1) (B:=W.heap.size+2) (r:=⟨16,x.z,[],[],nd0,[]⟩) (vn:=N0) (G6 E9).t (G6 E9).r (by omega) (by omega) (hx5.hist (p.H++[x])) OK (.inl ⟨rfl,rfl⟩) (by omega));have b0:=(G6 E9).r.cells;have g0:=(G6 E9).r.GX;simp only[rpV,fK,nd0]at X1;clear CQ CD hx5 ht5 E9 A3 D3 X3 O3 OK HX HI HN D2;go_wp2_with fail;exact bodyPost_ret (v:=.agg #[I0 16,I0 x.z,.string ⟨#[]⟩,.string ⟨#[]⟩,I0 0,I0 0,I0 0,I0 0,I0 0,I0 0,I0 0,N0]) (by simp[results,results37,go_sem,b0]) rfl (by rw[G6 HP];exact G6 X1)
 .have HP:Hid (P9 (O9 p) d=(⟨0,x.z,x.p,[],(lT (RZ ((p.s b).m++[x]) ((p.s b).m.length+1)) x.p).getD nd0,(ML (wSv p d) (wL p d)).2⟩,⟨p.n+1,(ML (wSv p d) (wL p d)).1,wRo p d,wCl p d (ML (wSv p d) (wL p d)).2,p.D++[x],p.H++[x],p.h⟩)):=G7 (by
   rw[<-G6 HXX,P9,if_neg (show ¬ldP (O9 p).r=-1 from(G6 HN).1),if_neg (show ¬wE (O9 p) d≠0 from(G6 HN).2),if_neg (show ¬ (wL (O9 p) d).length<2 from hq)];simp only[show ldN (O9 p).r=b from(G6 HI).2.ld (G6 HI).1];rfl)
  have CQ:=G7 (fun V=>dQ V);have hq4:¬ ((wL p d).length:Int)<2:=by omega
  have hn:=(G6 HI).2.n;have OK:∀i,i<3->MN 300 (wSv p d i):=fun i hi=>((G6 HI).2.ok (G6 HI).1 hi).more (by omega);have HW:=G7 (wY (G6 HI).2 (G6 HI).1 hq);have CC:=G7 (kY ⟨p.n+1,wSv p d,wRo p d,p.c,p.D,p.H,p.h⟩ k w3 _ (wL p d) (G6 X3) (Row.own (G6 O3) (by omega)) (fun i hi=>(fA.1 hi).1) (qX p d) hlw OK (fun i hi=>(G6 HI).2.up (G6 HI).1 (fA.1 hi).1 (CV1 (fA.1 hi).2)) (fun i hi=>((G6 HI).1.c i hi).more (by omega) (fun _ hx=>hx)));have CA:=G7 (fun V T a1 c1 (hV:WX V k ⟨p.n+1,(ML (wSv p d) (wL p d)).1,wRo p d,Z7 p.c T,p.D,p.H,p.h⟩)=>CB8 ⟨p.n+1,(ML (wSv p d) (wL p d)).1,wRo p d,Z7 p.c T,p.D,p.H,p.h⟩ x d.c.toNat k b T a1 c1 V hV (by omega) (G6 HI).2.lt (gV (G6 HI).2.lt (kN.2 (G6 HI).2.two) (G6 HW).one) (fun i hi=>((G6 HW).s i hi).more (by show p.n+1<=300;omega)) (by
   show ((ML (wSv p d) (wL p d)).1 b).up=true;rw[B64]
   split
   .exact(G6 HI).2.up (G6 HI).1 (G6 HI).2.lt (Z9 (G6 HI).2.two).1
   .exact(G6 HI).2.up (G6 HI).1 (G6 HI).2.lt (Z9 (G6 HI).2.two).1) (A32 (((G6 HI).1.c d.c.toNat (by omega)).more (by omega) (fun _ hx=>hx)) T) (by
   show (p.c d.c.toNat).z<=x.z;have hz:=(G6 HI).1.c d.c.toNat (by omega);have hx0:=((G6 HI).2.zs (G6 HI).1).2.1;rw[G6 HXX]at hx0;rcases hz.z with e|⟨y,hy,e⟩
   .omega
   .have:=UM (G6 HI).1.a ((G6 HI).2.wr (G6 HI).1) y hy;rw[G6 HXX]at this;omega) (by have:=(G6 HI).1.few;show (p.D.length:Int)<=300;omega))
  have HM:Hid (RZ ((ML (wSv p d) (wL p d)).1 b).m ((ML (wSv p d) (wL p d)).1 b).dn=RZ ((p.s b).m++[x]) ((p.s b).m.length+1)):=G7 (by
   have e1:=(Z9 (p:=p) (d:=d) (G6 HI).2.two);rw[B64,if_pos ⟨(G6 HI).2.lt,e1.2⟩,wSv,if_pos e1.1,G6 HXX];show RZ ((p.s b).m++[x]) ((p.s b).m++[x]).length=_;rw[List.length_append];rfl)
  obtain⟨cn,hcn,hc16⟩:∃cn:Nat,d.c=cn/\cn<16:=⟨d.c.toNat,by omega,by omega⟩;go_wp2_with fail;refine(G6 CQ _).mono ?_;rintro e w4 ⟨rfl,hw4⟩;obtain rfl:=hw4.symm;go_wp2_with fail;refine(G6 CC).mono ?_;rintro e w5 ⟨vn,rfl,ho5,hx5,ht5⟩;obtain⟨na,nc,rfl⟩:=IU ho5;generalize hNN:(ML (wSv p d) (wL p d)).2=NN at*;generalize hRR:(ML (wSv p d) (wL p d)).1=RR at*;have C5:=G7 (G6 CA w5 NN na nc hx5);have A5:=(G6 A3).turn ht5 (show k≠g by omega);have D5:=G7 ((G6 D3).touch hk0 ht5);have O5:=G7 ho5;have x0:=A5.c0;have x1:=A5.c1;have x2:=A5.c2;have x3:=A5.c3;have x4:=A5.c4;have x5:=A5.c5;have x6:=A5.c6;obtain⟨⟨_,y1,_,_,_,_,_⟩,_,_,_,_,_,_⟩:=(G6 D5).cells;rw[hcn,Int.toNat_natCast]at C5;rw[hcn]at y1;unfold J7 wP at C5;have HNN:=G7 (And.intro hNN hRR);have hs3:W.heap.size+2<=w3.heap.size:=by have:=(G6 D3).r.lt;omega
  clear CQ CC CA A5 hx5 ht5 ho5 A3 D3 X3 O3 OK HX D2 hNN hRR;go_wp2_with fail;refine(G6 C5).mono ?_;rintro e w6 ⟨rfl,hx6,ht6⟩;have E9:=G7 ((G6 D5).touch hk0 ht6);have X1:=G7 (iD (kd:=1) (B:=w3.heap.size) (r:=⟨0,x.z,x.p,[],(lT (RZ (RR b).m (RR b).dn) x.p).getD nd0,NN⟩) (vn:=.slice na NN.length nc) (G6 E9).t (G6 E9).r (by omega) (by omega) (hx6.hist (p.H++[x])) (fun i hi=>((G6 HW).s i hi).more (by show p.n+1<=300;omega)) (JZ (G6 O5) ht6 (fun q e=>by have:=PI (G6 O5) e;omega)) (by omega));have b0:=(G6 E9).r.cells;have g0:=(G6 E9).r.GX;unfold rpV;simp only[rpV,fK]at X1;generalize hst:(lT (RZ (RR b).m (RR b).dn) x.p).getD nd0=st at*;have HST:=G7 hst;clear hst x0 x1 x2 x3 x4 x5 x6 y1 C5 D5 O5 hx6 ht6 E9;go_wp2_with fail;refine bodyPost_ret (v:=.agg #[I0 0,I0 x.z,S0 x.p,.string ⟨#[]⟩,I0 st.c,I0 st.m,I0 st.q,I0 st.v,I0 st.k,I0 st.o,I0 st.n,.slice na NN.length nc]) (by simp[results,results37,go_sem,b0]) rfl ?_;have hst:=G6 HST;rw[G6 HM]at hst;have hz:=((G6 HI).2.fit (G6 HI).1).z;rw[G6 HXX]at hz;rw[G6 HP,hst,wCl,hcn,Int.toNat_natCast,<-hz];exact G6 X1
theorem AQ0(p:Pw)(d:Dd)(k:Nat)(W:World)(hx:WX W k (O9 p))(hT:Z5 W)(h:RS p)(hn:p.n<300)(hc:0<=d.c/\d.c<16)(hp:d.q.p.length<=140737488355328)(hd:d.q.d.length<=140737488355328):Calls prog 37 #[wP k,ddV d] W (Did W k 1 (P9 (O9 p) d)):=by
 rcases kK p.r with⟨e,_⟩|⟨b,hb,_,hr⟩
 .rw[P9,if_pos (show ldP (O9 p).r=-1 from e)];exact AP8 _ d k W hx e
 .have hl:=(eY h hb hr).2.2;by_cases hE:wE p d=0
  .have w:Wr p d b:=⟨hb,hr,hn,hE⟩;exact AP9 p d k b W hx hT h w hc hp hd
  .rw[P9,if_neg (by show ¬ldP p.r=-1;rw[hl];omega),if_pos (show wE (O9 p) d≠0 from hE)];exact BA2 p d k b W hx hT h hn hb hr hc hp hd hE
