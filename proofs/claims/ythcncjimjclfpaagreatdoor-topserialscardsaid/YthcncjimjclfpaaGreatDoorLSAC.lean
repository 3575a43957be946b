/-
  Part.
-/
import Derived.Test.YthcncjimjclfpaaGreatDoorLSY
import Derived.Test.YthcncjimjclfpaaGreatDoorLSZ
import Derived.Test.YthcncjimjclfpaaGreatDoorLSAB
set_option maxRecDepth 20000
set_option maxHeartbeats 8000000
namespace Go.Proofs.YthcncjimjclfpaaGreatDoor
open Go.RowKit Go.Proofs.Tryz
theorem CP9(x:GI):gdE x≠16:=by
 unfold gdE
 repeat' split
 all_goals decide
theorem BU1(l:List UInt8):vK l≠16:=by
 unfold vK
 split<;>decide
theorem BU2(d l:List UInt8):dW d l≠16:=by
 unfold dW
 repeat' split
 all_goals decide
theorem CQ0(t:Tr)(r:Rq):mO t r≠16:=by
 unfold mO A09 AA7 AA9 mZ
 repeat' split
 all_goals first|decide|exact BU1 _|exact BU2 _ _
theorem CQ1(t:Tr)(x:GI):UZ t x≠16:=by
 unfold UZ
 repeat' split
 all_goals first|decide|exact CP9 _
theorem CQ2(t:Tr)(x:GI):iF t x≠16:=by
 unfold iF A98 BH2 CF6
 repeat' split
 all_goals decide
theorem CQ3(t:Tr)(x:GI):WG t x≠16:=by
 unfold WG
 repeat' split
 all_goals first|decide|exact CQ1 _ _|exact CQ2 _ _
theorem CX6(p:Pw)(d:Dd):wE p d≠16:=by
 unfold wE fM
 repeat' split
 all_goals first|decide|exact CQ0 _ _|exact CQ3 _ _
theorem CD7{E:Int}(h:E≠0)(h2:E≠16):U0 1 E=false:=by simp[U0,h,h2]
theorem TAt.turn{W V:World}{k g:Nat}{x:GI}(h:TAt W g x)(ht:Touch (· =k) W V)(hk:k≠g):TAt V g x:=(ht.block g h.lt (fun e=>hk e.symm)).trans h
theorem AS3(p:Pw)(d:Dd)(k:Nat)(W:World)(hx:WX W k p)(hl:ldP p.r=-1):Calls prog 47 #[wP k,ddV d] W (Did W k 1 (TQ 14,p)):=by
 have D0:=G6 (DB.start W d);have CL:=G6 (fun V (hV:B0 W V)=>SI p k V (hx.next hV));rw[hl]at CL;have CR:=G6 (fun W=>KP 14 W);unfold UQ at CR;clear hx hl;unfold wP ddV;go_enter func47,ntmps47;go_upto_region 1 with fail;generalize ((W.alloc _).alloc _)=W0 at*;go_wp2_with fail;refine(G5 CL _ (G5 D0).b).mono ?_;rintro e w1 ⟨rfl,hb1⟩;have D1:=G6 ((G5 D0).next hb1);clear hb1 D0;go_wp2_with fail;refine(G5 CR _).mono ?_;rintro e w2 ⟨rfl,hb2⟩;have D2:=(G5 D1).next hb2;have b0:=D2.r.cells;have g0:=D2.r.GN;have X1:Hid (Did W k 1 (TQ 14,p) (.returned (UQ 14)) (gY w2 (W.heap.size+1) (I0 14) (I0 0) (.string ⟨#[]⟩) (.string ⟨#[]⟩) (I0 0) (I0 0) (I0 0) (I0 0) (I0 0) (I0 0) (I0 0) (N0))):=G6 (VT rfl (JZ (Touch.of_below D2.b) (by omega) _ _ _ _ _ _ _ _ _ _ _ _) (by decide));clear hb2 D2 D1;unfold UQ at X1;go_wp2_with fail;exact bodyPost_ret (v:=.agg #[I0 14,I0 0,.string ⟨#[]⟩,.string ⟨#[]⟩,I0 0,I0 0,I0 0,I0 0,I0 0,I0 0,I0 0,N0]) (by simp[results,results47,go_sem,b0]) rfl (G5 X1)
theorem BB5(p:Pw)(d:Dd)(k b:Nat)(W:World)(hx:WX W k (MR p))(hT:ZV W)(h:PX p)(hn:p.n<300)(hb:b<3)(hr:p.r b=2)(hc:0<=d.c/\d.c<16)(hp:d.q.p.length<=140737488355328)(hd:d.q.d.length<=140737488355328)(hE:wE p d≠0):Calls prog 47 #[wP k,ddV d] W (Did W k 1 (TQ (wE p d),MR p)):=by
 have D0:=G6 (DB.start W d);have hl:=(cZ h hb hr).2.2;have CL:=G6 (fun V (hV:B0 W V)=>SI (MR p) k V (hx.next hV));have CP:=G6 (fun V (hV:B0 W V)=>gK (MR p) d k b V (hx.next hV) (hT.next hV) hb hl (h.rup b hb (by rw[hr];decide)) ((h.s b hb).more (by omega)) (AG4 h hn hb hr).1 hc hp hd);have e1:wE (MR p) d=wE p d:=rfl;rw[e1]at CP;simp only[show (MR p).r=p.r from rfl,hl]at CL;have CR:=G6 (fun W=>KP (wE p d) W);have HL:=G6 (CD7 hE (CX6 p d));have hE2:(wE p d==0)=false:=beq_eq_false_iff_ne.2 hE;unfold UQ at CR;unfold J8 at CP;clear hx hl h hr hT hc hp hd e1;generalize wE p d=E at*;generalize wX (MR p) d=x at*;unfold wP ddV;unfold ddV at CP;go_enter func47,ntmps47;go_upto_region 1 with fail;generalize ((W.alloc _).alloc _)=W0 at*;go_wp2_with fail;refine(G5 CL _ (G5 D0).b).mono ?_;rintro e w1 ⟨rfl,hb1⟩;have D1:=G6 ((G5 D0).next hb1);clear hb1 D0;obtain⟨⟨d0,d1,d2,d3,d4,d5,d6⟩,d7,d8,d9,d10,d11,d12⟩:=(G5 D1).cells;have hbn:((b:Int)==-1)=false:=beq_eq_false_iff_ne.2 (by omega);go_wp2_with fail;refine(G5 CP _ (G5 D1).b).mono ?_;rintro e w2 ⟨rfl,hb2⟩;have D2:=G6 (((G5 D1).next hb2).next (G7 w2 (.cells #[I0 x.z,I0 x.o,I0 x.s,S0 x.p,S0 x.d,I0 x.v,I0 x.w] 93)));clear d0 d1 d2 d3 d4 d5 d6 d7 d8 d9 d10 d11 d12 hb2 D1 CP CL;go_wp2_with fail;refine(G5 CR _).mono ?_;rintro e w3 ⟨rfl,hb3⟩;have D3:=(G5 D2).next hb3;have b0:=D3.r.cells;have g0:=D3.r.GN;have X1:Hid (Did W k 1 (TQ E,MR p) (.returned (UQ E)) (gY w3 (W.heap.size+1) (I0 E) (I0 0) (.string ⟨#[]⟩) (.string ⟨#[]⟩) (I0 0) (I0 0) (I0 0) (I0 0) (I0 0) (I0 0) (I0 0) (N0))):=G6 (VT rfl (JZ (Touch.of_below D3.b) (by omega) _ _ _ _ _ _ _ _ _ _ _ _) (G5 HL));clear hb3 D3 D2;unfold UQ at X1;go_wp2_with fail;exact bodyPost_ret (v:=.agg #[I0 E,I0 0,.string ⟨#[]⟩,.string ⟨#[]⟩,I0 0,I0 0,I0 0,I0 0,I0 0,I0 0,I0 0,N0]) (by simp[results,results47,go_sem,b0]) rfl (G5 X1)
theorem AS4(p:Pw)(d:Dd)(k b:Nat)(W:World)(hx:WX W k (MR p))(hT:ZV W)(h:PX p)(w:Wr p d b)(hc:0<=d.c/\d.c<16)(hp:d.q.p.length<=140737488355328)(hd:d.q.d.length<=140737488355328):Calls prog 47 #[wP k,ddV d] W (Did W k 1 (PU (MR p) d)):=by
 have D0:=G6 (DB.start W d);have hl:=(cZ h w.lt w.two).2.2;have hk0:=hx.lt;have CL:=G6 (fun V (hV:B0 W V)=>SI (MR p) k V (hx.next hV));have CP:=G6 (fun V (hV:B0 W V)=>gK (MR p) d k b V (hx.next hV) (hT.next hV) w.lt hl (h.rup b w.lt (by rw[w.two];decide)) ((h.s b w.lt).more (by have:=w.n;omega)) (AG4 h w.n w.lt w.two).1 hc hp hd);have e1:wE (MR p) d=0:=w.e;have e2:wX (MR p) d=wX p d:=rfl;rw[e1,e2]at CP;simp only[show (MR p).r=p.r from rfl,hl]at CL;have CS:=G6 (fun V (hV:WX V k (MR p))=>AR3 (p.n+1) p d k b V hV h w);have hlw:(wL p d).length<=3:=Nat.le_trans (List.length_filter_le _ _) (by simp);have HX:=G6 hx;have HI:=G6 (And.intro h w);have HN:Hid (ldP p.r≠ -1/\¬wE p d≠0):=G6 ⟨by rw[hl];omega,by have:=w.e;omega⟩;have hbn:((b:Int)==-1)=false:=beq_eq_false_iff_ne.2 (by omega);unfold J8 at CP CS;clear hx hl h w hT hp hd e1 e2;generalize hxx:wX p d=x at*;have HXX:=G6 hxx;clear hxx;unfold wP ddV;unfold ddV at CP CS;go_enter func47,ntmps47;go_upto_region 1 with fail;generalize ((W.alloc _).alloc _)=W0 at*;go_wp2_with fail;refine(G5 CL _ (G5 D0).b).mono ?_;rintro e w1 ⟨rfl,hb1⟩;have D1:=G6 ((G5 D0).next hb1);clear hb1 D0;obtain⟨⟨d0,d1,d2,d3,d4,d5,d6⟩,d7,d8,d9,d10,d11,d12⟩:=(G5 D1).cells;go_wp2_with fail;refine(G5 CP _ (G5 D1).b).mono ?_;rintro e w2 ⟨rfl,hb2⟩;have D2:=G6 (((G5 D1).next hb2).next (G7 w2 (.cells #[I0 x.z,I0 x.o,I0 x.s,S0 x.p,S0 x.d,I0 x.v,I0 x.w] 93)));have A2:=G6 (TAt.new w2 x);have hg2:W.heap.size+2<=w2.heap.size:=((G5 D1).next hb2).r.lt;clear d0 d1 d2 d3 d4 d5 d6 d7 d8 d9 d10 d11 d12 hb2 D1 CP CL hbn;go_upto_region 6 with fail;generalize w2.alloc _=W2 at*;generalize w2.heap.size=g at*;obtain⟨⟨d0,d1,d2,d3,d4,d5,d6⟩,d7,d8,d9,d10,d11,d12⟩:=(G5 D2).cells;have x0:=(G5 A2).c0;have x1:=(G5 A2).c1;have x2:=(G5 A2).c2;have x3:=(G5 A2).c3;have x4:=(G5 A2).c4;have x5:=(G5 A2).c5;have x6:=(G5 A2).c6;go_wp2_with fail;refine(G5 CS _ ((G5 HX).next (G5 D2).b)).mono ?_;rintro e w3 ⟨vs,rfl,ho3,hx3,ht3⟩;obtain⟨sa,sc,rfl⟩:=IY ho3;rw[List.length_map]at ho3⊢;have D3:=G6 (((G5 D2).dt k).touch hk0 ht3);have A3:=G6 ((G5 A2).turn ht3 (show k≠g by omega));have X3:=G6 hx3;have O3:=G6 ho3;have hw3:=Nat.le_trans (G5 D2).r.lt (Nat.le_refl _);clear d0 d1 d2 d3 d4 d5 d6 d7 d8 d9 d10 d11 d12 x0 x1 x2 x3 x4 x5 x6 ho3 hx3 ht3 CS A2;by_cases hq:(wL p d).length<2
 .have HP:Hid (PU (MR p) d=(⟨16,x.z,[],[],nd0,[]⟩,⟨p.n+1,wSv p d,fun _=>0,p.c,p.D,p.H++[x],p.h⟩)):=G6 (by
   rw[<-G5 HXX,PU,if_neg (show ¬ldP (MR p).r=-1 from(G5 HN).1),if_neg (show ¬wE (MR p) d≠0 from(G5 HN).2),if_pos (show (wL (MR p) d).length<2 from hq)];rfl)
  have CQ:=G6 (fun V=>fG V);have CD:=G6 (aA _ k w3 (G5 X3));have hq4:((wL p d).length:Int)<2:=by omega
  go_wp2_with fail;refine(G5 CQ _).mono ?_;rintro e w4 ⟨rfl,hw4⟩;obtain rfl:=hw4.symm;go_wp2_with fail;refine(G5 CD).mono ?_;rintro e w5 ⟨rfl,hx5,ht5⟩;have E9:=G6 ((G5 D3).touch hk0 ht5);have x0:=((G5 A3).turn ht5 (show k≠g by omega)).c0;have OK:∀i,i<3->ML 300 (wSv p d i):=fun i hi=>((G5 HI).2.ok (G5 HI).1 hi).more (by have:=(G5 HI).2.n;omega);have X1:=G6 (iW (kd:=1) (B:=W.heap.size+2) (r:=⟨16,x.z,[],[],nd0,[]⟩) (vn:=N0) (G5 E9).t (G5 E9).r (by omega) (by omega) (hx5.hist (p.H++[x])) OK (.inl ⟨rfl,rfl⟩) (by omega));have b0:=(G5 E9).r.cells;have g0:=(G5 E9).r.GN;simp only[rpV,gY,nd0]at X1;clear CQ CD hx5 ht5 E9 A3 D3 X3 O3 OK HX HI HN D2;go_wp2_with fail;exact bodyPost_ret (v:=.agg #[I0 16,I0 x.z,.string ⟨#[]⟩,.string ⟨#[]⟩,I0 0,I0 0,I0 0,I0 0,I0 0,I0 0,I0 0,N0]) (by simp[results,results47,go_sem,b0]) rfl (by rw[G5 HP];exact G5 X1)
 .have HP:Hid (PU (MR p) d=(⟨0,x.z,x.p,[],(nM (OE ((p.s b).m++[x]) ((p.s b).m.length+1)) x.p).getD nd0,(LV (wSv p d) (wL p d)).2⟩,⟨p.n+1,(LV (wSv p d) (wL p d)).1,wRo p d,wCl p d (LV (wSv p d) (wL p d)).2,p.D++[x],p.H++[x],p.h⟩)):=G6 (by
   rw[<-G5 HXX,PU,if_neg (show ¬ldP (MR p).r=-1 from(G5 HN).1),if_neg (show ¬wE (MR p) d≠0 from(G5 HN).2),if_neg (show ¬ (wL (MR p) d).length<2 from hq)];simp only[show ldN (MR p).r=b from(G5 HI).2.ld (G5 HI).1];rfl)
  have CQ:=G6 (fun V=>fG V);have hq4:¬ ((wL p d).length:Int)<2:=by omega
  have hn:=(G5 HI).2.n;have OK:∀i,i<3->ML 300 (wSv p d i):=fun i hi=>((G5 HI).2.ok (G5 HI).1 hi).more (by omega);have HW:=G6 (yO (G5 HI).2 (G5 HI).1 hq);have CC:=G6 (mD ⟨p.n+1,wSv p d,wRo p d,p.c,p.D,p.H,p.h⟩ k w3 _ (wL p d) (G5 X3) (Row.own (G5 O3) (by omega)) (fun i hi=>(gJ.1 hi).1) (sV p d) hlw OK (fun i hi=>(G5 HI).2.up (G5 HI).1 (gJ.1 hi).1 (CW4 (gJ.1 hi).2)) (fun i hi=>((G5 HI).1.c i hi).more (by omega) (fun _ hx=>hx)));have CA:=G6 (fun V T a1 c1 (hV:WX V k ⟨p.n+1,(LV (wSv p d) (wL p d)).1,wRo p d,ZW p.c T,p.D,p.H,p.h⟩)=>CD1 ⟨p.n+1,(LV (wSv p d) (wL p d)).1,wRo p d,ZW p.c T,p.D,p.H,p.h⟩ x d.c.toNat k b T a1 c1 V hV (by omega) (G5 HI).2.lt (iQ (G5 HI).2.lt (lW.2 (G5 HI).2.two) (G5 HW).one) (fun i hi=>((G5 HW).s i hi).more (by show p.n+1<=300;omega)) (by
   show ((LV (wSv p d) (wL p d)).1 b).up=true;rw[yN]
   split
   .exact(G5 HI).2.up (G5 HI).1 (G5 HI).2.lt (aB (G5 HI).2.two).1
   .exact(G5 HI).2.up (G5 HI).1 (G5 HI).2.lt (aB (G5 HI).2.two).1) (A62 (((G5 HI).1.c d.c.toNat (by omega)).more (by omega) (fun _ hx=>hx)) T) (by
   show (p.c d.c.toNat).z<=x.z;have hz:=(G5 HI).1.c d.c.toNat (by omega);have hx0:=((G5 HI).2.zs (G5 HI).1).2.1;rw[G5 HXX]at hx0;rcases hz.z with e|⟨y,hy,e⟩
   .omega
   .have:=VA (G5 HI).1.a ((G5 HI).2.wr (G5 HI).1) y hy;rw[G5 HXX]at this;omega) (by have:=(G5 HI).1.few;show (p.D.length:Int)<=300;omega))
  have HM:Hid (OE ((LV (wSv p d) (wL p d)).1 b).m ((LV (wSv p d) (wL p d)).1 b).dn=OE ((p.s b).m++[x]) ((p.s b).m.length+1)):=G6 (by
   have e1:=(aB (p:=p) (d:=d) (G5 HI).2.two);rw[yN,if_pos ⟨(G5 HI).2.lt,e1.2⟩,wSv,if_pos e1.1,G5 HXX];show OE ((p.s b).m++[x]) ((p.s b).m++[x]).length=_;rw[List.length_append];rfl)
  obtain⟨cn,hcn,hc16⟩:∃cn:Nat,d.c=cn/\cn<16:=⟨d.c.toNat,by omega,by omega⟩;go_wp2_with fail;refine(G5 CQ _).mono ?_;rintro e w4 ⟨rfl,hw4⟩;obtain rfl:=hw4.symm;go_wp2_with fail;refine(G5 CC).mono ?_;rintro e w5 ⟨vn,rfl,ho5,hx5,ht5⟩;obtain⟨na,nc,rfl⟩:=IY ho5;generalize hNN:(LV (wSv p d) (wL p d)).2=NN at*;generalize hRR:(LV (wSv p d) (wL p d)).1=RR at*;have C5:=G6 (G5 CA w5 NN na nc hx5);have A5:=(G5 A3).turn ht5 (show k≠g by omega);have D5:=G6 ((G5 D3).touch hk0 ht5);have O5:=G6 ho5;have x0:=A5.c0;have x1:=A5.c1;have x2:=A5.c2;have x3:=A5.c3;have x4:=A5.c4;have x5:=A5.c5;have x6:=A5.c6;obtain⟨⟨_,y1,_,_,_,_,_⟩,_,_,_,_,_,_⟩:=(G5 D5).cells;rw[hcn,Int.toNat_natCast]at C5;rw[hcn]at y1;unfold J8 wP at C5;have HNN:=G6 (And.intro hNN hRR);have hs3:W.heap.size+2<=w3.heap.size:=by have:=(G5 D3).r.lt;omega
  clear CQ CC CA A5 hx5 ht5 ho5 A3 D3 X3 O3 OK HX D2 hNN hRR;go_wp2_with fail;refine(G5 C5).mono ?_;rintro e w6 ⟨rfl,hx6,ht6⟩;have E9:=G6 ((G5 D5).touch hk0 ht6);have X1:=G6 (iW (kd:=1) (B:=w3.heap.size) (r:=⟨0,x.z,x.p,[],(nM (OE (RR b).m (RR b).dn) x.p).getD nd0,NN⟩) (vn:=.slice na NN.length nc) (G5 E9).t (G5 E9).r (by omega) (by omega) (hx6.hist (p.H++[x])) (fun i hi=>((G5 HW).s i hi).more (by show p.n+1<=300;omega)) (KU (G5 O5) ht6 (fun q e=>by have:=QU (G5 O5) e;omega)) (by omega));have b0:=(G5 E9).r.cells;have g0:=(G5 E9).r.GN;unfold rpV;simp only[rpV,gY]at X1;generalize hst:(nM (OE (RR b).m (RR b).dn) x.p).getD nd0=st at*;have HST:=G6 hst;clear hst x0 x1 x2 x3 x4 x5 x6 y1 C5 D5 O5 hx6 ht6 E9;go_wp2_with fail;refine bodyPost_ret (v:=.agg #[I0 0,I0 x.z,S0 x.p,.string ⟨#[]⟩,I0 st.c,I0 st.m,I0 st.q,I0 st.v,I0 st.k,I0 st.o,I0 st.n,.slice na NN.length nc]) (by simp[results,results47,go_sem,b0]) rfl ?_;have hst:=G5 HST;rw[G5 HM]at hst;have hz:=((G5 HI).2.fit (G5 HI).1).z;rw[G5 HXX]at hz;rw[G5 HP,hst,wCl,hcn,Int.toNat_natCast,<-hz];exact G5 X1
theorem AS5(p:Pw)(d:Dd)(k:Nat)(W:World)(hx:WX W k (MR p))(hT:ZV W)(h:PX p)(hn:p.n<300)(hc:0<=d.c/\d.c<16)(hp:d.q.p.length<=140737488355328)(hd:d.q.d.length<=140737488355328):Calls prog 47 #[wP k,ddV d] W (Did W k 1 (PU (MR p) d)):=by
 rcases Y8 p.r with⟨e,_⟩|⟨b,hb,_,hr⟩
 .rw[PU,if_pos (show ldP (MR p).r=-1 from e)];exact AS3 _ d k W hx e
 .have hl:=(cZ h hb hr).2.2;by_cases hE:wE p d=0
  .have w:Wr p d b:=⟨hb,hr,hn,hE⟩;exact AS4 p d k b W hx hT h w hc hp hd
  .rw[PU,if_neg (by show ¬ldP p.r=-1;rw[hl];omega),if_pos (show wE (MR p) d≠0 from hE)];exact BB5 p d k b W hx hT h hn hb hr hc hp hd hE
