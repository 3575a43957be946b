/-
  Part.
-/
import Derived.Test.YtbaacalmgfkojaaGreatDoorLOK
import Derived.Test.YtbaacalmgfkojaaGreatDoorLOU
import Derived.Test.YtbaacalmgfkojaaGreatDoorLOQ
set_option maxRecDepth 20000
set_option maxHeartbeats 8000000
namespace Go.Proofs.YtbaacalmgfkojaaGreatDoor
open Go.RowKit Go.Proofs.Tryz
open _root_.Nat renaming le_refl->A8,le_trans->BM
open Go.RowKit.Below renaming refl->AA,heap_setCell->BF
open Go.Value renaming ownBlock->D8,slice->FQ
open Go.Obj renaming cells->FT
open Go renaming World->FU,Value->FV,Calls->FW
open _root_.Option renaming none->FX,some->FZ
variable{α:Type}{W w V:FU}{B k:Nat}{v:FV}{fs:List DF}{F:Nat->Prop}
structure BR6(s:Sv):Prop where
 d:s.fs.length*48<=140737488355328
 df:l7 s.fs
 l:s.ts.length*72<=140737488355328
 lf:∀x∈s.ts,x.p.length<=140737488355328/\x.d.length<=140737488355328
 n:s.tr.ns.length*88<=140737488355328
 nf:∀x∈s.tr.ns,x.p.length<=140737488355328/\x.d.length<=140737488355328
 si:s.tr.ss.length<=2147483647
 wa:s.ws.length*32<=140737488355328
 wf:∀x∈s.ws,x.p.length<=140737488355328
structure CB(w W:FU)(up:Bool)(vd:FV)(id ep:Int)(vl:FV)(dn z:Int)(vn vs vw:FV):Prop where
 below:B0 w W
 s:IC W w.heap.size up vd id ep vl dn z vn vs vw
 r:IC W (w.heap.size+1) false (N0) 0 0 (N0) 0 0 (N0) (N0) (N0)
section
variable {w W V:FU} {up:Bool} {id ep dn z:Int} {vd vl vn vs vw:FV}
theorem CB.next(h:CB w W up vd id ep vl dn z vn vs vw)(hb:B0 W V):CB w V up vd id ep vl dn z vn vs vw:=⟨G8 h.below hb,h.s.next hb,h.r.next hb⟩
theorem CB.lt(h:CB w W up vd id ep vl dn z vn vs vw):w.heap.size+2<=W.heap.size:=h.r.lt
theorem CB.put(h:CB w W up vd id ep vl dn z vn vs vw)(j:Nat)(u:FV){vd' vl' vn' vs' vw':FV}(e:(#[.bool up,vd,I0 id,I0 ep,vl,I0 dn,I0 z,vn,vs,vw]:Array FV).setIfInBounds j u=#[.bool up,vd',I0 id,I0 ep,vl',I0 dn,I0 z,vn',vs',vw']):CB w (W.setCell ⟨w.heap.size,j,FX⟩ u) up vd' id ep vl' dn z vn' vs' vw':=by
 refine⟨h.below.setCell (by simp) u,?_,h.r.other (by omega)⟩;unfold IC;rw[GL u h.s,e]
theorem CB.start(w:FU)(up:Bool)(id ep dn z:Int)(vd vl vn vs vw:FV):CB w ((w.alloc (FT #[.bool up,vd,I0 id,I0 ep,vl,I0 dn,I0 z,vn,vs,vw] 49)).alloc (FT #[.bool false,N0,I0 0,I0 0,N0,I0 0,I0 0,N0,N0,N0] 49)) up vd id ep vl dn z vn vs vw:=by
 refine⟨G8 (G7 _ _) (G7 _ _),(IC.new w up id ep dn z vd vl vn vs vw).next (G7 _ _),?_⟩;have h:=IC.new (w.alloc (FT #[.bool up,vd,I0 id,I0 ep,vl,I0 dn,I0 z,vn,vs,vw] 49)) false 0 0 0 0 (N0) (N0) (N0) (N0) (N0);rw[show (w.alloc (FT #[.bool up,vd,I0 id,I0 ep,vl,I0 dn,I0 z,vn,vs,vw] 49)).heap.size=w.heap.size+1 by simp]at h;exact h
end
theorem CC4[Lay α]{xs:List α}(h:GZ W B v xs)(hk:k<B):v.ownBlock≠FZ k:=by
 rcases h with⟨rfl,_⟩|⟨g,cap,rfl,hB,_⟩
 .simp[D8]
 .simp[D8];omega
theorem J3[Lay α]{j:Nat}{u:FV}{xs:List α}(h:GZ W B v xs)(hk:k<B):GZ (W.setCell ⟨k,j,FX⟩ u) B v xs:=h.other (CC4 h hk) u
theorem NZ[Lay α]{xs:List α}(h:GZ W B v xs)(hk:k<B)(x0 x1 x2 x3 x4 x5 x6 x7 x8 x9:FV):GZ (OY W k x0 x1 x2 x3 x4 x5 x6 x7 x8 x9) B v xs:=
 J3 (J3 (J3 (J3 (J3 (J3 (J3 (J3 (J3 (J3 h hk) hk) hk) hk) hk) hk) hk) hk) hk) hk
def CC5(w:FU)(s:Sv)(e:Ending)(w':FU):Prop:=
 ∃ad nd cd al cl an cn ai ci aw cw B1 B2,e=.returned (.agg #[.bool s.up,FQ ad nd cd,I0 s.id,I0 s.ep,FQ al s.ts.length cl,I0 s.dn,I0 s.tr.z,FQ an s.tr.ns.length cn,FQ ai s.tr.ss.length ci,FQ aw s.ws.length cw])/\
  w.heap.size<=B1/\B1<=B2/\GZ w' w.heap.size (FQ ad nd cd) s.fs/\(∀k,(Value.slice ad nd cd).ownBlock=FZ k->k<B1)/\GZ w' B1 (FQ al s.ts.length cl) s.ts/\(∀k,(Value.slice al s.ts.length cl).ownBlock=FZ k->k<B2)/\
  GZ w' B2 (FQ an s.tr.ns.length cn) s.tr.ns/\GZ w' B2 (FQ ai s.tr.ss.length ci) s.tr.ss/\GZ w' B2 (FQ aw s.ws.length cw) s.ws/\B0 w w'
theorem YQ(s:Sv)(v:FV)(w:FU)(hv:SvV w v s)(hf:BR6 s):
  FW prog 112 #[v] w (CC5 w s):=by
 obtain⟨ad,nd,cd,al,cl,an,cn,ai,ci,aw,cw,rfl,d1,l1,n1,s1,k1⟩:=hv.five;have CD:=fun W (hW:B0 w W)=>AW4 _ s.fs W (TA.2 (d1.next hW)) hf.d hf.df;have CL:=fun W (hW:B0 w W)=>AW5 _ s.ts W (OB.2 (l1.next hW)) hf.l hf.lf;have CN:=fun W (hW:B0 w W)=>AW6 _ s.tr.ns W (n1.next hW) hf.n hf.nf;have CI:=fun W (hW:B0 w W)=>bT _ s.tr.ss W (s1.next hW) (hf.si);have CW:=fun W (hW:B0 w W)=>AW7 _ s.ws W (k1.next hW) hf.wa hf.wf;have HD:=G6 CD;have HL:=G6 CL;have HN:=G6 CN;have HI:=G6 CI;have HW:=G6 CW;clear CD CL CN CI CW hv d1 l1 n1 s1 k1 hf;obtain⟨up,fs,id,ep,ts,dn,⟨tz,tns,tss⟩,ws⟩:=s;simp only at*;go_enter func112,ntmps112;go_wp2_with fail;have X0:=CB.start w up id ep dn tz (FQ ad nd cd) (FQ al ts.length cl) (FQ an tns.length cn) (FQ ai tss.length ci) (FQ aw ws.length cw);generalize (w.alloc (FT #[.bool up,FQ ad nd cd,I0 id,I0 ep,FQ al ts.length cl,I0 dn,I0 tz,FQ an tns.length cn,FQ ai tss.length ci,FQ aw ws.length cw] 49)).alloc (FT #[.bool false,N0,I0 0,I0 0,N0,I0 0,I0 0,N0,N0,N0] 49)=W0 at*;have HX0:=G6 X0;obtain⟨x0,x1,x2,x3,x4,x5,x6,x7,x8,x9⟩:=X0.s.cells;clear X0;refine(G5 HD _ (G5 HX0).below).mono ?_;rintro e w1 ⟨v1,rfl,o1,hb1⟩;obtain⟨a1,c1,rfl,_⟩:=o1.slice;have z1:=(G5 HX0).lt;have X1:=(G5 HX0).next hb1;have Y1:=X1.put 1 (FQ a1 fs.length c1) rfl;obtain⟨y0,y1,y2,y3,y4,y5,y6,y7,y8,y9⟩:=X1.s.cells;have g1:=X1.s.GN 1;have O1:=G6 (J3 (j:=1) (u:=FQ a1 fs.length c1) o1 (by omega:w.heap.size<_));have b1:=G6 (fun k hk=>GZ.low o1 k hk);have S1:=G6 (show w.heap.size+1<W0.heap.size by omega);have Z1:=G6 (show w.heap.size<=W0.heap.size by omega);have K1:=G6 (show W0.heap.size<=(w1.setCell ⟨w.heap.size,1,FX⟩ (FQ a1 fs.length c1)).heap.size by have:=hb1.size;simp[World.setCell]at*;omega);have L1:=G6 (show w1.heap.size=(w1.setCell ⟨w.heap.size,1,FX⟩ (FQ a1 fs.length c1)).heap.size by simp[World.setCell]);clear X1 o1 hb1 z1 HX0 HD x0 x1 x2 x3 x4 x5 x6 x7 x8 x9;have HX1:=G6 Y1;obtain⟨x0,x1,x2,x3,x4,x5,x6,x7,x8,x9⟩:=Y1.s.cells;clear Y1;go_wp2_with fail;generalize w1.setCell ⟨w.heap.size,1,FX⟩ (FQ a1 fs.length c1)=V1 at*;clear y0 y1 y2 y3 y4 y5 y6 y7 y8 y9 g1;refine(G5 HL _ (G5 HX1).below).mono ?_;rintro e w2 ⟨v2,rfl,o2,hb2⟩;obtain⟨a2,c2,rfl,_⟩:=o2.slice;have z2:=(G5 HX1).lt;have X2:=(G5 HX1).next hb2;have Y2:=X2.put 4 (FQ a2 ts.length c2) rfl;obtain⟨y0,y1,y2,y3,y4,y5,y6,y7,y8,y9⟩:=X2.s.cells;have g2:=X2.s.GN 4;have O2:=G6 (J3 (j:=4) (u:=FQ a2 ts.length c2) o2 (by omega:w.heap.size<_));have b2:=G6 (fun k hk=>GZ.low o2 k hk);have P1:=G6 (J3 (j:=4) (u:=FQ a2 ts.length c2) ((G5 O1).next hb2) (Nat.lt_of_succ_lt (G5 S1)));have S2:=G6 (show w.heap.size+1<V1.heap.size by omega);have K2:=G6 (show V1.heap.size<=(w2.setCell ⟨w.heap.size,4,FX⟩ (FQ a2 ts.length c2)).heap.size by have:=hb2.size;simp[World.setCell]at*;omega);have L2:=G6 (show w2.heap.size=(w2.setCell ⟨w.heap.size,4,FX⟩ (FQ a2 ts.length c2)).heap.size by simp[World.setCell]);clear X2 o2 hb2 z2 HX1 HL x0 x1 x2 x3 x4 x5 x6 x7 x8 x9 O1;have O1:=P1;clear P1;have HX2:=G6 Y2;obtain⟨x0,x1,x2,x3,x4,x5,x6,x7,x8,x9⟩:=Y2.s.cells;clear Y2;go_wp2_with fail;generalize w2.setCell ⟨w.heap.size,4,FX⟩ (FQ a2 ts.length c2)=V2 at*;clear y0 y1 y2 y3 y4 y5 y6 y7 y8 y9 g2;refine(G5 HN _ (G5 HX2).below).mono ?_;rintro e w3 ⟨v3,rfl,o3,hb3⟩;obtain⟨a3,c3,rfl,_⟩:=o3.slice;have z3:=(G5 HX2).lt;have X3:=(G5 HX2).next hb3;have Y3:=X3.put 7 (FQ a3 tns.length c3) rfl;obtain⟨y0,y1,y2,y3,y4,y5,y6,y7,y8,y9⟩:=X3.s.cells;have g3:=X3.s.GN 7;have O3:=G6 (J3 (j:=7) (u:=FQ a3 tns.length c3) o3 (by omega:w.heap.size<_));have P1:=G6 (J3 (j:=7) (u:=FQ a3 tns.length c3) ((G5 O1).next hb3) (Nat.lt_of_succ_lt (G5 S1)));have P2:=G6 (J3 (j:=7) (u:=FQ a3 tns.length c3) ((G5 O2).next hb3) (Nat.lt_of_succ_lt (G5 S2)));have S3:=G6 (show w.heap.size+1<V2.heap.size by omega);have K3:=G6 (show V2.heap.size<=(w3.setCell ⟨w.heap.size,7,FX⟩ (FQ a3 tns.length c3)).heap.size by have:=hb3.size;simp[World.setCell]at*;omega);have L3:=G6 (show w3.heap.size=(w3.setCell ⟨w.heap.size,7,FX⟩ (FQ a3 tns.length c3)).heap.size by simp[World.setCell])
 clear X3 o3 hb3 z3 HX2 HN x0 x1 x2 x3 x4 x5 x6 x7 x8 x9 O1 O2;have O1:=P1;have O2:=P2;clear P1 P2;have HX3:=G6 Y3;obtain⟨x0,x1,x2,x3,x4,x5,x6,x7,x8,x9⟩:=Y3.s.cells;clear Y3;go_wp2_with fail;generalize w3.setCell ⟨w.heap.size,7,FX⟩ (FQ a3 tns.length c3)=V3 at*;clear y0 y1 y2 y3 y4 y5 y6 y7 y8 y9 g3;refine(G5 HI _ (G5 HX3).below).mono ?_;rintro e w4 ⟨v4,rfl,o4,hb4⟩;obtain⟨a4,c4,rfl,_⟩:=o4.slice;have z4:=(G5 HX3).lt;have X4:=(G5 HX3).next hb4;have Y4:=X4.put 8 (FQ a4 tss.length c4) rfl;obtain⟨y0,y1,y2,y3,y4,y5,y6,y7,y8,y9⟩:=X4.s.cells;have g4:=X4.s.GN 8;have O4:=G6 (J3 (j:=8) (u:=FQ a4 tss.length c4) o4 (by omega:w.heap.size<_));have P1:=G6 (J3 (j:=8) (u:=FQ a4 tss.length c4) ((G5 O1).next hb4) (Nat.lt_of_succ_lt (G5 S1)));have P2:=G6 (J3 (j:=8) (u:=FQ a4 tss.length c4) ((G5 O2).next hb4) (Nat.lt_of_succ_lt (G5 S2)));have P3:=G6 (J3 (j:=8) (u:=FQ a4 tss.length c4) ((G5 O3).next hb4) (Nat.lt_of_succ_lt (G5 S3)));have S4:=G6 (show w.heap.size+1<V3.heap.size by omega);have K4:=G6 (show V3.heap.size<=(w4.setCell ⟨w.heap.size,8,FX⟩ (FQ a4 tss.length c4)).heap.size by have:=hb4.size;simp[World.setCell]at*;omega);have L4:=G6 (show w4.heap.size=(w4.setCell ⟨w.heap.size,8,FX⟩ (FQ a4 tss.length c4)).heap.size by simp[World.setCell]);clear X4 o4 hb4 z4 HX3 HI x0 x1 x2 x3 x4 x5 x6 x7 x8 x9 O1 O2 O3;have O1:=P1;have O2:=P2;have O3:=P3;clear P1 P2 P3;have HX4:=G6 Y4;obtain⟨x0,x1,x2,x3,x4,x5,x6,x7,x8,x9⟩:=Y4.s.cells;clear Y4;go_wp2_with fail;generalize w4.setCell ⟨w.heap.size,8,FX⟩ (FQ a4 tss.length c4)=V4 at*;clear y0 y1 y2 y3 y4 y5 y6 y7 y8 y9 g4;refine(G5 HW _ (G5 HX4).below).mono ?_;rintro e w5 ⟨v5,rfl,o5,hb5⟩;obtain⟨a5,c5,rfl,_⟩:=o5.slice;have z5:=(G5 HX4).lt;have X5:=(G5 HX4).next hb5;have Y5:=X5.put 9 (FQ a5 ws.length c5) rfl;obtain⟨y0,y1,y2,y3,y4,y5,y6,y7,y8,y9⟩:=X5.s.cells;have g5:=X5.s.GN 9;have O5:=G6 (J3 (j:=9) (u:=FQ a5 ws.length c5) o5 (by omega:w.heap.size<_));have P1:=G6 (J3 (j:=9) (u:=FQ a5 ws.length c5) ((G5 O1).next hb5) (Nat.lt_of_succ_lt (G5 S1)));have P2:=G6 (J3 (j:=9) (u:=FQ a5 ws.length c5) ((G5 O2).next hb5) (Nat.lt_of_succ_lt (G5 S2)));have P3:=G6 (J3 (j:=9) (u:=FQ a5 ws.length c5) ((G5 O3).next hb5) (Nat.lt_of_succ_lt (G5 S3)));have P4:=G6 (J3 (j:=9) (u:=FQ a5 ws.length c5) ((G5 O4).next hb5) (Nat.lt_of_succ_lt (G5 S4)));have S5:=G6 (show w.heap.size+1<V4.heap.size by omega);have K5:=G6 (show V4.heap.size<=(w5.setCell ⟨w.heap.size,9,FX⟩ (FQ a5 ws.length c5)).heap.size by have:=hb5.size;simp[World.setCell]at*;omega);have L5:=G6 (show w5.heap.size=(w5.setCell ⟨w.heap.size,9,FX⟩ (FQ a5 ws.length c5)).heap.size by simp[World.setCell]);clear X5 o5 hb5 z5 HX4 HW x0 x1 x2 x3 x4 x5 x6 x7 x8 x9 O1 O2 O3 O4;have O1:=P1;have O2:=P2;have O3:=P3;have O4:=P4;clear P1 P2 P3 P4;have HX5:=G6 Y5;obtain⟨x0,x1,x2,x3,x4,x5,x6,x7,x8,x9⟩:=Y5.s.cells;obtain⟨r0,r1,r2,r3,r4,r5,r6,r7,r8,r9⟩:=Y5.r.cells;have rf0:=Y5.r.GN 0;have rf1:=Y5.r.GN 1;have rf2:=Y5.r.GN 2;have rf3:=Y5.r.GN 3;have rf4:=Y5.r.GN 4;have rf5:=Y5.r.GN 5;have rf6:=Y5.r.GN 6;have rf7:=Y5.r.GN 7;have rf8:=Y5.r.GN 8;have rf9:=Y5.r.GN 9;have Y5b:=Y5.below;clear Y5;have HF:=G6 (JJ Y5b (by omega:w.heap.size<=w.heap.size+1) (.bool up) (FQ a1 fs.length c1) (I0 id) (I0 ep) (FQ a2 ts.length c2) (I0 dn) (I0 tz) (FQ a3 tns.length c3) (FQ a4 tss.length c4) (FQ a5 ws.length c5));have Q1:=G6 (NZ (G5 O1) (G5 S1) (.bool up) (FQ a1 fs.length c1) (I0 id) (I0 ep) (FQ a2 ts.length c2) (I0 dn) (I0 tz) (FQ a3 tns.length c3) (FQ a4 tss.length c4) (FQ a5 ws.length c5));have Q2:=G6 (NZ (G5 O2) (G5 S2) (.bool up) (FQ a1 fs.length c1) (I0 id) (I0 ep) (FQ a2 ts.length c2) (I0 dn) (I0 tz) (FQ a3 tns.length c3) (FQ a4 tss.length c4) (FQ a5 ws.length c5));have Q3:=G6 (NZ (G5 O3) (G5 S3) (.bool up) (FQ a1 fs.length c1) (I0 id) (I0 ep) (FQ a2 ts.length c2) (I0 dn) (I0 tz) (FQ a3 tns.length c3) (FQ a4 tss.length c4) (FQ a5 ws.length c5));have Q4:=G6 (NZ (G5 O4) (G5 S4) (.bool up) (FQ a1 fs.length c1) (I0 id) (I0 ep) (FQ a2 ts.length c2) (I0 dn) (I0 tz) (FQ a3 tns.length c3) (FQ a4 tss.length c4) (FQ a5 ws.length c5))
 have Q5:=G6 (NZ (G5 O5) (G5 S5) (.bool up) (FQ a1 fs.length c1) (I0 id) (I0 ep) (FQ a2 ts.length c2) (I0 dn) (I0 tz) (FQ a3 tns.length c3) (FQ a4 tss.length c4) (FQ a5 ws.length c5));clear Y5b O1 O2 O3 O4 O5;go_wp2_with fail;refine bodyPost_ret (v:=.agg #[.bool up,FQ a1 fs.length c1,I0 id,I0 ep,FQ a2 ts.length c2,I0 dn,I0 tz,FQ a3 tns.length c3,FQ a4 tss.length c4,FQ a5 ws.length c5]) (by simp[results,results112,go_sem,r0,r1,r2,r3,r4,r5,r6,r7,r8,r9]) rfl ?_;have k1:=G5 K1;have k2:=G5 K2;have k3:=G5 K3;have k4:=G5 K4;have z1:=G5 Z1;exact⟨a1,fs.length,c1,a2,c2,a3,c3,a4,c4,a5,c5,V1.heap.size,V2.heap.size,rfl,by omega,k2,(G5 Q1).lower z1,fun k hk=>(G5 L1) ▸ G5 b1 k hk,G5 Q2,fun k hk=>(G5 L2) ▸ G5 b2 k hk,G5 Q3,(G5 Q4).lower k3,(G5 Q5).lower (BM k3 k4),G5 HF⟩
noncomputable def YD(fs:List DF):Int:=IW (eY (VI fs JF).1)
theorem B00(fs:List DF)(name:List UInt8)(h:(VI fs name).2≠0):(VI fs name).1=[]:=by
 rcases iT fs name with⟨E,h'⟩|⟨g,A,f,B,T⟩
 .cases hg:UQ fs with
  |false=>rw[iY hg]
  |true=>
   cases hl:zG fs name with
   |none=>simp[VI,hg,hl]
   |some f=>simp[VI,hg,hl]at h
 .rw[UW g T]at h;exact absurd rfl h
theorem AJ9(h:(VI fs JF).2≠0):YD fs=0:=by
 rw[YD,B00 fs JF h,uD,UU]
theorem AK0(v:FV)(fs:List DF)(w:FU)(hv:IK w v fs)(hs:l7 fs):
  FW prog 47 #[.agg #[v]] w (R0 w (I0 (YD fs))):=by
 have CR:=fun W (h:IK W v fs)=>(show FW prog 56 #[.agg #[v],.string ⟨#[101,112,111,99,104]⟩] W _ from BD7 v fs JF W h hs);have hl:=AV3 fs JF;unfold YD;generalize VI fs JF=R at*;obtain⟨s,E⟩:=R;simp only at CR hl⊢;have CZ:=fun W=>AZ9 s W (by omega);have CE:=fun W=>PS (eY s) W;generalize eY s=z at*;generalize iP s=ze at*;have HV:=G6 hv;obtain⟨a,n,c,rfl⟩:=IU hv;clear hv hs hl;go_enter func47,ntmps47;go_wp2_with fail;refine(CR _ ((G5 HV).next (G7 _ _))).mono ?_;rintro e w1 ⟨rfl,hb1⟩;have hB1:=GU hb1;clear hb1 CR;go_wp2_with fail;refine(CZ _).mono ?_;rintro e w2 ⟨rfl,hb2⟩;have hB2:=G8 hB1 hb2;clear hb2 hB1 CZ;go_wp2_with fail;refine(CE _).mono ?_;rintro e w3 ⟨rfl,rfl⟩;go_wp2_with fail;go_ret;exact⟨rfl,hB2⟩
structure C87(w W:FU)(v:FV):Prop where
 below:B0 w W
 d:KG W w.heap.size v
 r:IC W (w.heap.size+1) false (N0) 0 0 (N0) 0 0 (N0) (N0) (N0)
theorem C87.next(h:C87 w W v)(hb:B0 W V):C87 w V v:=⟨G8 h.below hb,h.d.next hb,h.r.next hb⟩
theorem C87.start(w:FU)(v:FV):C87 w ((w.alloc (FT #[v] 42)).alloc (FT #[.bool false,N0,I0 0,I0 0,N0,I0 0,I0 0,N0,N0,N0] 49)) v:=by
 refine⟨G8 (G7 _ _) (G7 _ _),(KG.new w v).next (G7 _ _),?_⟩;have h:=IC.new (w.alloc (FT #[v] 42)) false 0 0 0 0 (N0) (N0) (N0) (N0) (N0);rw[show (w.alloc (FT #[v] 42)).heap.size=w.heap.size+1 by simp]at h;exact h
def CE4(w:FU)(e:Ending)(w':FU):Prop:=
 ∃an cn ai ci,e=.returned (.agg #[I0 0,FQ an 1 cn,FQ ai 0 ci])/\Hid (IL w' (FQ an 1 cn) QE.ns)/\Hid (GZ w' w.heap.size (FQ ai 0 ci) QE.ss)/\B0 w w'
theorem vP{w':FU}{e:Ending}(h:AY6 w QE e w'):CE4 w e w':=by
 obtain⟨vn,vs,rfl,h1,h2,h3⟩:=h;obtain⟨an,cn,rfl,_⟩:=h1.slice;obtain⟨ai,ci,rfl,_⟩:=h2.slice;exact⟨an,cn,ai,ci,rfl,h1.seq,h2,h3⟩
theorem A94(v:FV)(fs d:List DF)(ts:List GI)(id:Int)(w:FU)(hv:IK w v fs)(hs:l7 fs)(h0:0<=id)(h1:id<3)(G:nG 46 (fun x=>#[x]) fs ts d 0):
  FW prog 33 #[I0 id,.agg #[v]] w (ZV w ⟨true,d,id,YD fs,ts,0,QE,[]⟩ 0):=by
 have CE:=fun W (hW:B0 w W)=>AK0 v fs W (hv.next hW) hs;generalize YD fs=ep at*;have HV:=G6 hv;have HG:=G6 G;obtain⟨a,n,c,rfl⟩:=IU hv;clear hv G hs;go_enter func33,ntmps33;go_upto_region 2 with fail;have X:=G6 (C87.start w (FQ a n c));generalize (w.alloc (FT #[FQ a n c] 42)).alloc (FT #[.bool false,N0,I0 0,I0 0,N0,I0 0,I0 0,N0,N0,N0] 49)=W0 at*;go_wp2_with fail;refine(G5 HG _ _ ((G5 HV).next (G5 X).below)).mono ?_;rintro e w1 ⟨al,kl,cl,a1,n1,c1,rfl,HL1,HD1,hb1⟩;have X1:=G6 (((G5 X).next hb1).next (G7 w1 (FT #[FQ a1 n1 c1] 42)));have A1:=G6 (KG.new w1 (FQ a1 n1 c1));have L1:=G6 ((G5 HL1).next (G7 w1 (FT #[FQ a1 n1 c1] 42)));have D1:=G6 ((G5 HD1).next (G7 w1 (FT #[FQ a1 n1 c1] 42)));have cd1:=(G5 X1).d.c;clear hb1 X HL1 HD1 HG;go_wp2_with fail;generalize w1.alloc (FT #[FQ a1 n1 c1] 42)=W1 at*;refine(CE _ (G5 X1).below).mono ?_;rintro e w2 ⟨rfl,hb2⟩;have hal:=G7 w2 (FT #[I0 id,I0 ep,FQ al kl cl,I0 0] 39);have X2:=G6 (((G5 X1).next hb2).next hal);have A2:=G6 (((G5 A1).next hb2).next hal);have L2:=G6 (((G5 L1).next hb2).next hal);have D2:=G6 (((G5 D1).next hb2).next hal);have P2:=G6 (heap_alloc_new w2 (FT #[I0 id,I0 ep,FQ al kl cl,I0 0] 39));clear hb2 hal X1 A1 L1 D1 CE cd1 HV;go_upto_region 7 with fail;generalize w1.heap.size=q1 at*;generalize w2.heap.size=q2 at*;generalize w2.alloc (FT #[I0 id,I0 ep,FQ al kl cl,I0 0] 39)=W2 at*;have keep:∀V,B0 W2 V->V.cell? ⟨q1,0,FX⟩=FZ (FQ a1 n1 c1)/\V.cell? ⟨q2,0,FX⟩=FZ (I0 id)/\V.cell? ⟨q2,1,FX⟩=FZ (I0 ep)/\V.cell? ⟨q2,2,FX⟩=FZ (FQ al kl cl)/\V.cell? ⟨q2,3,FX⟩=FZ (I0 0):=by
  intro V hV;have h2:=G5 P2;have h3:V.heap[q2]?=FZ (FT #[I0 id,I0 ep,FQ al kl cl,I0 0] 39):=(hV.block q2 (Array.getElem?_eq_some_iff.1 h2).1).trans h2;refine⟨((G5 A2).next hV).c,?_,?_,?_,?_⟩<;>simp[World.cell?,h3]
 have HK:=G6 keep;have HT:=G6 (fun W=>(A84 W).mono fun _ _ h=>vP h);clear keep;obtain⟨k0,k1,k2,k3,k4⟩:=G5 HK _ (AA _ _)
 go_region_with (first
  |(go_at_call 48;refine(G5 HT _).mono ?_;rintro e w3 ⟨an,cn,ai,ci,rfl,ON,OI,hb3⟩;have B3:=G6 (I8 hb3);have X3:=G6 ((G5 X2).next (G5 B3));obtain⟨r0,r1,r2,r3,r4,r5,r6,r7,r8,r9⟩:=(G5 X3).r.cells;have rf0:=(G5 X3).r.GN 0;have rf1:=(G5 X3).r.GN 1;have rf2:=(G5 X3).r.GN 2;have rf3:=(G5 X3).r.GN 3;have rf4:=(G5 X3).r.GN 4;have rf5:=(G5 X3).r.GN 5;have rf6:=(G5 X3).r.GN 6;have rf7:=(G5 X3).r.GN 7;have rf8:=(G5 X3).r.GN 8;have rf9:=(G5 X3).r.GN 9;obtain⟨m0,m1,m2,m3,m4⟩:=G5 HK _ (G5 B3);clear hb3))
 all_goals
  go_wp2_with fail;refine bodyPost_ret (v:=.tuple #[.agg #[.bool true,FQ a1 n1 c1,I0 id,I0 ep,FQ al kl cl,I0 0,I0 0,FQ an 1 cn,FQ ai 0 ci,N0],I0 0]) (by simp[results,results33,go_sem,r0,r1,r2,r3,r4,r5,r6,r7,r8,r9]) rfl ⟨_,rfl,?_,JJ (G5 X3).below (by omega) _ _ _ _ _ _ _ _ _ _⟩;exact ZX (s:=⟨true,d,id,ep,ts,0,QE,[]⟩) (G5 X3).r.fA ((G5 D2).next (G5 B3)) ((G5 L2).next (G5 B3)) (G5 ON) (G5 OI).seq (XQ (G5 OI) (G5 X2).r.lt) (IL.nil _)
theorem CB.zero{up:Bool}{id ep dn z:Int}{vd vl vn vs vw:FV}(h:CB w W up vd id ep vl dn z vn vs vw):B0 w (OY W (w.heap.size+1) (.bool false) (N0) (I0 0) (I0 0) (N0) (I0 0) (I0 0) (N0) (N0) (N0)):=JJ h.below (by omega) _ _ _ _ _ _ _ _ _ _
theorem AK4(s:Sv)(v:FV)(d:List DF)(keep E:Int)(w:FU)(hv:SvV w v s)(hE:E≠0)(G:MX 105 (fun x=>#[x,I0 keep]) s.fs d E):
  FW prog 71 #[v,I0 keep] w (ZV w sv0 E):=by
 obtain⟨ad,nd,cd,al,cl,an,cn,ai,ci,aw,cw,rfl,d1,l1,n1,s1,k1⟩:=hv.five;have HD:=G6 (fun W (hW:B0 w W)=>G _ W (d1.next hW));clear hv d1 l1 n1 s1 k1 G;obtain⟨up,fs,id,ep,ts,dn,⟨tz,tns,tss⟩,ws⟩:=s;simp only at*;have hne:(E !=0)=true:=by simpa using hE
 clear hE;go_enter func71,ntmps71;go_wp2_with fail;have X0:=CB.start w up id ep dn tz (FQ ad nd cd) (FQ al ts.length cl) (FQ an tns.length cn) (FQ ai tss.length ci) (FQ aw ws.length cw);generalize (w.alloc (FT #[.bool up,FQ ad nd cd,I0 id,I0 ep,FQ al ts.length cl,I0 dn,I0 tz,FQ an tns.length cn,FQ ai tss.length ci,FQ aw ws.length cw] 49)).alloc (FT #[.bool false,N0,I0 0,I0 0,N0,I0 0,I0 0,N0,N0,N0] 49)=W0 at*;have HX0:=G6 X0;obtain⟨x0,x1,x2,x3,x4,x5,x6,x7,x8,x9⟩:=X0.s.cells;clear X0;refine(G5 HD _ (G5 HX0).below).mono ?_;rintro e w1 ⟨a1,n1,c1,rfl,D1,hb1⟩;have hal:=G7 w1 (FT #[FQ a1 n1 c1] 42);have X1:=G6 (((G5 HX0).next hb1).next hal);have A1:=G6 (KG.new w1 (FQ a1 n1 c1));have F1:=G6 ((G5 D1).next hal);clear hb1 hal HX0 HD D1 x0 x1 x2 x3 x4 x5 x6 x7 x8 x9;go_upto_region 3 with fail;generalize w1.alloc (FT #[FQ a1 n1 c1] 42)=W1 at*;obtain⟨r0,r1,r2,r3,r4,r5,r6,r7,r8,r9⟩:=(G5 X1).r.cells;have rf0:=(G5 X1).r.GN 0;have rf1:=(G5 X1).r.GN 1;have rf2:=(G5 X1).r.GN 2;have rf3:=(G5 X1).r.GN 3;have rf4:=(G5 X1).r.GN 4;have rf5:=(G5 X1).r.GN 5;have rf6:=(G5 X1).r.GN 6;have rf7:=(G5 X1).r.GN 7;have rf8:=(G5 X1).r.GN 8;have rf9:=(G5 X1).r.GN 9;go_wp2_with fail;exact bodyPost_ret (v:=.tuple #[.agg #[.bool false,N0,I0 0,I0 0,N0,I0 0,I0 0,N0,N0,N0],I0 E]) (by simp[results,results71,go_sem,r0,r1,r2,r3,r4,r5,r6,r7,r8,r9]) rfl (AG7 rfl (G5 X1).zero)
theorem B08(s:Sv)(v:FV)(d:List DF)(keep:Int)(w:FU)(hv:SvV w v s)(G:MX 105 (fun x=>#[x,I0 keep]) s.fs d 0):
  FW prog 71 #[v,I0 keep] w (ZV w ⟨false,d,s.id,0,[],0,QE,[]⟩ 0):=by
 obtain⟨ad,nd,cd,al,cl,an,cn,ai,ci,aw,cw,rfl,d1,l1,n1,s1,k1⟩:=hv.five;have HD:=G6 (fun W (hW:B0 w W)=>G _ W (d1.next hW));clear hv d1 l1 n1 s1 k1 G;obtain⟨up,fs,id,ep,ts,dn,⟨tz,tns,tss⟩,ws⟩:=s;simp only at*;go_enter func71,ntmps71;go_wp2_with fail;have X0:=CB.start w up id ep dn tz (FQ ad nd cd) (FQ al ts.length cl) (FQ an tns.length cn) (FQ ai tss.length ci) (FQ aw ws.length cw);generalize (w.alloc (FT #[.bool up,FQ ad nd cd,I0 id,I0 ep,FQ al ts.length cl,I0 dn,I0 tz,FQ an tns.length cn,FQ ai tss.length ci,FQ aw ws.length cw] 49)).alloc (FT #[.bool false,N0,I0 0,I0 0,N0,I0 0,I0 0,N0,N0,N0] 49)=W0 at*;have HX0:=G6 X0;obtain⟨x0,x1,x2,x3,x4,x5,x6,x7,x8,x9⟩:=X0.s.cells;clear X0;refine(G5 HD _ (G5 HX0).below).mono ?_;rintro e w1 ⟨a1,n1,c1,rfl,D1,hb1⟩;have hal:=G7 w1 (FT #[FQ a1 n1 c1] 42);have X1:=G6 (((G5 HX0).next hb1).next hal);have A1:=G6 (KG.new w1 (FQ a1 n1 c1));have F1:=G6 ((G5 D1).next hal);clear hb1 hal HX0 HD D1 x0 x1 x2 x3 x4 x5 x6 x7 x8 x9;go_upto_region 4 with fail;generalize w1.heap.size=q1 at*;generalize w1.alloc (FT #[FQ a1 n1 c1] 42)=W1 at*;have keep:∀V,B0 W1 V->V.cell? ⟨q1,0,FX⟩=FZ (FQ a1 n1 c1)/\V.cell? ⟨w.heap.size,2,FX⟩=FZ (I0 id):=fun V hV=>⟨((G5 A1).next hV).c,((G5 X1).s.next hV).cells.2.2.1⟩;have HK:=G6 keep;have HT:=G6 (fun W=>(A84 W).mono fun _ _ h=>vP h);clear keep;obtain⟨k0,k1⟩:=G5 HK _ (AA _ _)
 go_region_with (first
  |(go_at_call 48;refine(G5 HT _).mono ?_;rintro e w3 ⟨bn,en,bi,ei,rfl,ON,OI,hb3⟩;have B3:=G6 (I8 hb3);have X3:=G6 ((G5 X1).next (G5 B3));obtain⟨r0,r1,r2,r3,r4,r5,r6,r7,r8,r9⟩:=(G5 X3).r.cells;have rf0:=(G5 X3).r.GN 0;have rf1:=(G5 X3).r.GN 1;have rf2:=(G5 X3).r.GN 2;have rf3:=(G5 X3).r.GN 3;have rf4:=(G5 X3).r.GN 4;have rf5:=(G5 X3).r.GN 5;have rf6:=(G5 X3).r.GN 6;have rf7:=(G5 X3).r.GN 7;have rf8:=(G5 X3).r.GN 8;have rf9:=(G5 X3).r.GN 9;obtain⟨m0,m1⟩:=G5 HK _ (G5 B3);clear hb3))
 all_goals
  go_wp2_with fail;refine bodyPost_ret (v:=.tuple #[.agg #[.bool false,FQ a1 n1 c1,I0 id,I0 0,N0,I0 0,I0 0,FQ bn 1 en,FQ bi 0 ei,N0],I0 0]) (by simp[results,results71,go_sem,r0,r1,r2,r3,r4,r5,r6,r7,r8,r9]) rfl ⟨_,rfl,?_,JJ (G5 X3).below (by omega) _ _ _ _ _ _ _ _ _ _⟩;exact ZX (s:=⟨false,d,id,0,[],0,QE,[]⟩) (G5 X3).r.fA ((G5 F1).next (G5 B3)) (NI.nil _) (G5 ON) (G5 OI).seq (XQ (G5 OI) (G5 X1).r.lt) (IL.nil _)
def O7(B:Nat)(v:FV):Prop:=∀b off n c,v=FQ (FZ ⟨b,off,FX⟩) n c->B<=b
theorem O7.lower{C:Nat}(h:O7 B v)(hc:C<=B):O7 C v:=fun b off n c e=>BM hc (h b off n c e)
theorem U9(B n c:Nat):O7 B (FQ FX n c):=fun b off n' c' e=>by simp at e
theorem B09(h:XL W B v fs):O7 B v:=by
 intro b off n c e;rcases h with⟨rfl,_⟩|⟨g,cap,rfl,hB,_⟩
 .simp at e
 .simp only[Value.slice.injEq,Option.some.injEq,Addr.mk.injEq]at e;omega
def YF(f:FuncId)(args:FV->Array FV)(fs d:List DF)(E:Int):Prop:=∀v W,IK W v fs->FW prog f (args (.agg #[v])) W fun e w'=>∃a n c,e=.returned (.tuple #[.agg #[FQ a n c],.int .i64 E])/\Hid (IK w' (FQ a n c) d/\O7 W.heap.size (FQ a n c))/\Below W.heap.size W w'
theorem cZ{f:FuncId}{args:FV->Array FV}{d:List DF}(h:∀v W,IK W v fs->FW prog f (args (.agg #[v])) W fun e w'=>∃v',e=.returned (.tuple #[.agg #[v'],.int .i64 0])/\XL w' W.heap.size v' d/\Below W.heap.size W w'):YF f args fs d 0:=
 fun v W hv=>(h v W hv).mono fun _ w' ⟨v',he,ho,hb⟩=>by
  obtain⟨a,n,c,rfl⟩:=IU ho.disk;exact⟨a,n,c,he,⟨ho.disk,B09 ho⟩,hb⟩
theorem AK5(fs d1:List DF)(t:GI)(hg:gdE t=0)(W1:YF 57 (fun x=>#[x,.string ⟨NK.toArray⟩,.string ⟨(QK t).toArray⟩]) fs d1 0):YF 157 (fun x=>#[x,J7 t,.bool false]) fs d1 0:=by
 intro v w hv;have C:=fun W=>cO t W hg;have CW:=fun W (h:Below w.heap.size w W)=>W1 v W (hv.next h);simp only[show NK.toArray=#[108,111,103]from rfl]at CW;generalize QK t=rb at*;obtain⟨a,n,c,rfl⟩:=IU hv;obtain⟨z,o,s,p,d,y,u⟩:=t;unfold J7 at C⊢;clear hv hg W1;go_enter func157,ntmps157;go_wp2_with fail;have X:=G6 (C03.start w (FQ a n c) (FT #[.int .i64 z,.int .i64 o,.int .i64 s,.string ⟨p.toArray⟩,.string ⟨d.toArray⟩,.int .i64 y,.int .i64 u] 52));generalize ((w.alloc (FT #[FQ a n c] 42)).alloc (FT #[.int .i64 z,.int .i64 o,.int .i64 s,.string ⟨p.toArray⟩,.string ⟨d.toArray⟩,.int .i64 y,.int .i64 u] 52)).alloc (FT #[FQ FX 0 0] 42)=W0 at*;refine(C _).mono ?_;rintro e w1 ⟨rfl,hb1⟩;have X1:=(G5 X).next hb1;have cd:=X1.d.c;have HX1:=G6 X1;clear hb1 X C X1;go_wp2_with fail;refine(CW _ (G5 HX1).below).mono ?_;rintro e w2 ⟨a2,n2,c2,rfl,HF2,hb2⟩;have HD2:=G6 (G5 HF2).1;have FR2:=G6 ((G5 HF2).2.lower (G5 HX1).below.size);clear HF2;have hal:=(AA w2.heap.size w2).alloc (A8 _) (FT #[FQ a2 n2 c2] 42);have X2:=((G5 HX1).next hb2).next hal;have HD3:=G6 ((G5 HD2).next hal);have hz2:=((G5 HX1).next hb2).r.lt;have hnz:w.heap.size+1+1≠w2.heap.size:=by omega
 have cr2:=X2.r.c;have fr2:=X2.r.f;have X1b:=(G5 HX1).next hb2;have hS:=X1b.below.setCell (p:=⟨w.heap.size+1+1,0,FX⟩) (by show w.heap.size<=w.heap.size+1+1;omega) (FQ a2 n2 c2);have hF1:=hS.alloc (by have:=hS.size;exact this) (FT #[FQ a2 n2 c2] 42);have cw:=(((X1b.r.set (FQ a2 n2 c2)).next ((AA _ _).alloc (A8 _) (FT #[FQ a2 n2 c2] 42)))).c;have HF:=G6 (And.intro hF1 ((Q8 (G5 HD2) X1b.r (FQ a2 n2 c2)).alloc (FT #[FQ a2 n2 c2] 42)));have HCw:=G6 cw;clear hb2 hal X2 HX1 HD2 CW cd X1b hS hF1 cw;go_wp2_with fail;exact bodyPost_ret (v:=.tuple #[.agg #[FQ a2 n2 c2],.int .i64 0]) (by simp[results,results157,go_sem,G5 HCw]) rfl ⟨_,_,_,rfl,G6 ⟨(G5 HF).2,G5 FR2⟩,(G5 HF).1⟩
theorem nH(fs d1 d2:List DF)(t:GI)(E2:Int)(hg:gdE t=0)(W1:MX 57 (fun x=>#[x,.string ⟨NK.toArray⟩,.string ⟨(QK t).toArray⟩]) fs d1 0)(S1:YF 148 (fun x=>#[x,.string ⟨NK.toArray⟩]) d1 d2 E2):YF 157 (fun x=>#[x,J7 t,.bool true]) fs d2 E2:=by
 intro v w hv;have C:=fun W=>cO t W hg;have CW:=fun W (h:Below w.heap.size w W)=>W1 v W (hv.next h);have HCS:=G6 S1;simp only[show NK.toArray=#[108,111,103]from rfl]at CW;generalize QK t=rb at*;simp only[show NK.toArray=#[108,111,103]from rfl]at HCS;obtain⟨a,n,c,rfl⟩:=IU hv;obtain⟨z,o,s,p,d,y,u⟩:=t;unfold J7 at C⊢;clear hv hg W1 S1;go_enter func157,ntmps157;go_wp2_with fail;have X:=G6 (C03.start w (FQ a n c) (FT #[.int .i64 z,.int .i64 o,.int .i64 s,.string ⟨p.toArray⟩,.string ⟨d.toArray⟩,.int .i64 y,.int .i64 u] 52));generalize ((w.alloc (FT #[FQ a n c] 42)).alloc (FT #[.int .i64 z,.int .i64 o,.int .i64 s,.string ⟨p.toArray⟩,.string ⟨d.toArray⟩,.int .i64 y,.int .i64 u] 52)).alloc (FT #[FQ FX 0 0] 42)=W0 at*;refine(C _).mono ?_;rintro e w1 ⟨rfl,hb1⟩;have X1:=(G5 X).next hb1;have cd:=X1.d.c;have HX1:=G6 X1;clear hb1 X C X1;go_wp2_with fail;refine(CW _ (G5 HX1).below).mono ?_;rintro e w2 ⟨a2,n2,c2,rfl,HD2,hb2⟩;have hal:=(AA w2.heap.size w2).alloc (A8 _) (FT #[FQ a2 n2 c2] 42);have X2:=((G5 HX1).next hb2).next hal;have HD3:=G6 ((G5 HD2).next hal);have hz2:=((G5 HX1).next hb2).r.lt;have hnz:w.heap.size+1+1≠w2.heap.size:=by omega
 have cr2:=X2.r.c;have fr2:=X2.r.f;have HX2:=G6 X2;clear hb2 hal X2 HX1 HD2 CW cd;go_wp2_with fail;refine(G5 HCS _ _ (G5 HD3)).mono ?_;rintro e w4 ⟨a4,n4,c4,rfl,HF4,hb4⟩;have HD4:=G6 (G5 HF4).1;have FR4:=G6 ((G5 HF4).2.lower (G5 HX2).below.size);clear HF4;have X4:=(G5 HX2).next hb4;have cr4:=X4.r.c;have fr4:=X4.r.f;have HF:=G6 (And.intro (X4.below.setCell (p:=⟨w.heap.size+1+1,0,FX⟩) (by show w.heap.size<=w.heap.size+1+1;omega) (FQ a4 n4 c4)) (Q8 (G5 HD4) X4.r (FQ a4 n4 c4)));clear hb4 X4 HX2 HD3 HD4 HCS;go_wp2_with fail;exact bodyPost_ret (v:=.tuple #[.agg #[FQ a4 n4 c4],.int .i64 E2]) (by simp[results,results157,go_sem,cr4]) rfl ⟨_,_,_,rfl,G6 ⟨(G5 HF).2,G5 FR4⟩,(G5 HF).1⟩
def nI(w:FU)(E:Int)(e:Ending)(w':FU):Prop:=e=.returned (.tuple #[svZ,I0 E])/\B0 w w'
theorem jO{w':FU}{E:Int}{e:Ending}(he:e=.returned (.tuple #[svZ,I0 E]))(hb:B0 w w'):nI w E e w':=⟨he,hb⟩
structure EB(w W:FU)(up:Bool)(vd:FV)(id ep:Int)(vl:FV)(dn z:Int)(vn vs vw:FV)(x:GI):Prop where
 s:IC W w.heap.size up vd id ep vl dn z vn vs vw
 x:TAt W (w.heap.size+1) x
 r:IC W (w.heap.size+1+1) false (N0) 0 0 (N0) 0 0 (N0) (N0) (N0)
section
variable {w W V:FU} {up:Bool} {id ep dn z:Int} {vd vl vn vs vw:FV} {x:GI}
theorem EB.next(h:EB w W up vd id ep vl dn z vn vs vw x)(hb:B0 W V):EB w V up vd id ep vl dn z vn vs vw x:=⟨h.s.next hb,h.x.next hb,h.r.next hb⟩
theorem EB.lt(h:EB w W up vd id ep vl dn z vn vs vw x):w.heap.size+3<=W.heap.size:=h.r.lt
theorem EB.put(h:EB w W up vd id ep vl dn z vn vs vw x)(j:Nat)(u:FV){vd' vl' vn' vs' vw':FV}(e:(#[.bool up,vd,I0 id,I0 ep,vl,I0 dn,I0 z,vn,vs,vw]:Array FV).setIfInBounds j u=#[.bool up,vd',I0 id,I0 ep,vl',I0 dn,I0 z,vn',vs',vw']):EB w (W.setCell ⟨w.heap.size,j,FX⟩ u) up vd' id ep vl' dn z vn' vs' vw' x:=by
 refine⟨?_,(BF W ⟨w.heap.size,j,FX⟩ u _ (by simp)).trans h.x,h.r.other (by omega)⟩;unfold IC;rw[GL u h.s,e]
theorem EB.touch(h:EB w W up vd id ep vl dn z vn vs vw x)(ht:Touch F W V)(hF:∀k,w.heap.size<=k->k<w.heap.size+3->¬F k):EB w V up vd id ep vl dn z vn vs vw x:=by
 have hl:=h.lt;exact⟨(ht.block _ (by omega) (hF _ (by omega) (by omega))).trans h.s,(ht.block _ (by omega) (hF _ (by omega) (by omega))).trans h.x,(ht.block _ (by omega) (hF _ (by omega) (by omega))).trans h.r⟩
theorem EB.start(w:FU)(up:Bool)(id ep dn z:Int)(vd vl vn vs vw:FV)(x:GI):EB w (((w.alloc (FT #[.bool up,vd,I0 id,I0 ep,vl,I0 dn,I0 z,vn,vs,vw] 49)).alloc (FT #[I0 x.z,I0 x.o,I0 x.s,S0 x.p,S0 x.d,I0 x.v,I0 x.w] 52)).alloc (FT #[.bool false,N0,I0 0,I0 0,N0,I0 0,I0 0,N0,N0,N0] 49)) up vd id ep vl dn z vn vs vw x:=by
 refine⟨((IC.new w up id ep dn z vd vl vn vs vw).next (G7 _ _)).next (G7 _ _),?_,?_⟩
 .have h:=(TAt.new (w.alloc (FT #[.bool up,vd,I0 id,I0 ep,vl,I0 dn,I0 z,vn,vs,vw] 49)) x).next (G7 _ (FT #[.bool false,N0,I0 0,I0 0,N0,I0 0,I0 0,N0,N0,N0] 49));rw[show (w.alloc (FT #[.bool up,vd,I0 id,I0 ep,vl,I0 dn,I0 z,vn,vs,vw] 49)).heap.size=w.heap.size+1 by simp]at h;exact h
 .have h:=IC.new ((w.alloc (FT #[.bool up,vd,I0 id,I0 ep,vl,I0 dn,I0 z,vn,vs,vw] 49)).alloc (FT #[I0 x.z,I0 x.o,I0 x.s,S0 x.p,S0 x.d,I0 x.v,I0 x.w] 52)) false 0 0 0 0 (N0) (N0) (N0) (N0) (N0);rw[show ((w.alloc (FT #[.bool up,vd,I0 id,I0 ep,vl,I0 dn,I0 z,vn,vs,vw] 49)).alloc (FT #[I0 x.z,I0 x.o,I0 x.s,S0 x.p,S0 x.d,I0 x.v,I0 x.w] 52)).heap.size=w.heap.size+1+1 by simp]at h;exact h
theorem EB.A95(w:FU)(a b c:Obj):B0 w (((w.alloc a).alloc b).alloc c):=G8 (G8 (G7 _ _) (G7 _ _)) (G7 _ _)
end
theorem Touch.WU(h:Touch F w W){j:Nat}(hk:w.heap.size<=k)(u:FV):Touch F w (W.setCell ⟨k,j,FX⟩ u):=
 ⟨h.os,h.tape,h.output,by simpa [World.setCell]using h.size,fun i hi hf=>(BF W ⟨k,j,FX⟩ u i (by simp only;omega)).trans (h.block i hi hf)⟩
theorem IB.touch{b off:Nat}{cs:List FV}(h:IB W b off cs)(ht:Touch F W V)(hb:b<W.heap.size)(hf:¬F b):IB V b off cs:=fun i v hi=>by
 rw[World.cell?,ht.block b hb hf];exact h i v hi
theorem AK6(h:IK W v fs)(ht:Touch F W V)(hf:∀b off n c,v=FQ (FZ ⟨b,off,FX⟩) n c->¬F b):IK V v fs:=by
 rcases h with h|⟨b,off,cap,rfl,h1,h2,h3,h0,h4⟩
 .exact .inl h
 .exact .inr ⟨b,off,cap,rfl,h1,h2,Nat.lt_of_lt_of_le h3 ht.size,h0,h4.touch ht h3 (hf b off _ cap rfl)⟩
theorem nJ(hk:bC W k){up:Bool}{id ep dn z:Int}{ad al an ai aw:Option Addr}{nd cd nl cl nn cn ni ci nw cw:Nat}(h:IK W v fs):
  IK (OY W k (.bool up) (FQ ad nd cd) (I0 id) (I0 ep) (FQ al nl cl) (I0 dn) (I0 z) (FQ an nn cn) (FQ ai ni ci) (FQ aw nw cw)) v fs:=by
 have one:∀ {W:FU} {j:Nat} {u:FV},(∀t,u≠ .string t)->bC W k->IK W v fs->bC (W.setCell ⟨k,j,FX⟩ u) k/\IK (W.setCell ⟨k,j,FX⟩ u) v fs:=fun hu hk h=>⟨hk.set hu,RY h hk _⟩;obtain⟨k0,h0⟩:=one (j:=0) (u:=.bool up) (by simp) hk h;obtain⟨k1,h1⟩:=one (j:=1) (u:=FQ ad nd cd) (by simp) k0 h0;obtain⟨k2,h2⟩:=one (j:=2) (u:=I0 id) (by simp) k1 h1;obtain⟨k3,h3⟩:=one (j:=3) (u:=I0 ep) (by simp) k2 h2;obtain⟨k4,h4⟩:=one (j:=4) (u:=FQ al nl cl) (by simp) k3 h3;obtain⟨k5,h5⟩:=one (j:=5) (u:=I0 dn) (by simp) k4 h4;obtain⟨k6,h6⟩:=one (j:=6) (u:=I0 z) (by simp) k5 h5;obtain⟨k7,h7⟩:=one (j:=7) (u:=FQ an nn cn) (by simp) k6 h6;obtain⟨k8,h8⟩:=one (j:=8) (u:=FQ ai ni ci) (by simp) k7 h7;exact(one (j:=9) (u:=FQ aw nw cw) (by simp) k8 h8).2
theorem WV[Lay α]{xs:List α}(h:GZ W B v xs)(hk:v.ownBlock≠FZ k)(x0 x1 x2 x3 x4 x5 x6 x7 x8 x9:FV):GZ (OY W k x0 x1 x2 x3 x4 x5 x6 x7 x8 x9) B v xs:=
 (((((((((h.other hk x0).other hk x1).other hk x2).other hk x3).other hk x4).other hk x5).other hk x6).other hk x7).other hk x8).other hk x9
theorem A06(h:Touch F w W)(hk:w.heap.size<=k)(x0 x1 x2 x3 x4 x5 x6 x7 x8 x9:FV):Touch F w (OY W k x0 x1 x2 x3 x4 x5 x6 x7 x8 x9):=
 (((((((((h.WU hk x0).WU hk x1).WU hk x2).WU hk x3).WU hk x4).WU hk x5).WU hk x6).WU hk x7).WU hk x8).WU hk x9
theorem UZ{w:FU}{ops:Array Oper}{o:Oper}{a:Act}{K:Act->FU->Prop}{Q:Exit->Act->FU->Prop}{E:Prop}(hgd:Region.wanted o (yielded ops a.tmps)=true)(s x:Operand)
  (ho:o.op=.call {callee:=.builtin .append,args:=#[s,x],argTypes:=#[37,37]})
  (B:Nat) (hB:B<=w.heap.size) (v:FV) (es:List GI) (hs:a.eval s=v) (hown:GZ w B v es)
  (q:Nat) (hx:a.eval x=FQ (FZ ⟨q,0,FX⟩) 1 1) (t:GI) (hnews:JM w q t) (hl:es.length<=1000000000)
  (h:∀a' c' w',GZ w' B (FQ a' (es.length+1) c') (es++[t])->w.grownBy w' v.ownBlock->((Value.slice a' (es.length+1) c').ownBlock=v.ownBlock\/(Value.slice a' (es.length+1) c').ownBlock=FZ w.heap.size)->K (a.put o.dst (FQ a' (es.length+1) c')) w'):
  if Region.wanted o (yielded ops a.tmps)=true then Oper.wp prog o a w K Q else E:=by
 rw[if_pos hgd];obtain⟨i0,hi0,hz0,hz1,hz2⟩:=pI;obtain⟨v',w',hr,h2,h3,_,h5⟩:=run_append_own_at (P:=prog) w B 37 o.type 52 i0 _ 7 72 underlying37 hi0 hz0 hz1 hz2 rfl (by decide) v es.length (G9 es) hown.row ⟨q,0,FX⟩ 1 1 (MR t) rfl (QX hnews) (Lay.one t) (by simp only[maxLen];omega) (by omega) hB;have h2':GZ w' B v' (es++[t]):=GZ.KY (by rw[List.length_append,JE];exact h2);obtain⟨a',c',rfl,_⟩:=h2'.slice;have hlen:(es++[t]).length=es.length+1:=by simp
 rw[hlen]at h2' hr h5;unfold Oper.wp execOp;simp only[ho,resolve,invoke,builtin,Sem.run_bind,Sem.run_pure,Result.andThen_ok,List.map_toArray,List.map_cons,List.map_nil,hs,hx,hr];exact h a' c' w' h2' h3 h5
theorem fP(w:FU)(t:GI):JM (w.alloc (FT #[I0 t.z,I0 t.o,I0 t.s,S0 t.p,S0 t.d,I0 t.v,I0 t.w] 52)) w.heap.size t:=heap_alloc_new w _
theorem B12(up:Bool)(id ep dn tz:Int)(fs:List DF)(ts:List GI)(t:GI)(safe:Bool)(vd vl:FV)(an ai aw:Option Addr)(nn cn ni ci nw cw:Nat)(w:FU)(hd:IK w vd fs)(hl:NI w vl ts)(hz:t.z<=IZ ts):
  FW prog 113 #[.agg #[.bool up,vd,I0 id,I0 ep,vl,I0 dn,I0 tz,FQ an nn cn,FQ ai ni ci,FQ aw nw cw],J7 t,.bool safe] w (nI w 13):=by
 have CL:=G6 (fun W (hW:B0 w W)=>RH vl ts W (hl.next hW));generalize IZ ts=lz at*;obtain⟨ad,nd,cd,rfl⟩:=IU hd;obtain⟨al,cl,rfl⟩:=MB hl;clear hl;obtain⟨z,o,s,p,d,y,u⟩:=t;unfold J7 at*;simp only at*;go_enter func113,ntmps113;go_upto_region 1 with fail;have X:=G6 (EB.start w up id ep dn tz (FQ ad nd cd) (FQ al ts.length cl) (FQ an nn cn) (FQ ai ni ci) (FQ aw nw cw) ⟨z,o,s,p,d,y,u⟩);have HB0:=G6 (EB.A95 w (FT #[.bool up,FQ ad nd cd,I0 id,I0 ep,FQ al ts.length cl,I0 dn,I0 tz,FQ an nn cn,FQ ai ni ci,FQ aw nw cw] 49) (FT #[I0 z,I0 o,I0 s,S0 p,S0 d,I0 y,I0 u] 52) (FT #[.bool false,N0,I0 0,I0 0,N0,I0 0,I0 0,N0,N0,N0] 49));simp only at X;generalize ((w.alloc (FT #[.bool up,FQ ad nd cd,I0 id,I0 ep,FQ al ts.length cl,I0 dn,I0 tz,FQ an nn cn,FQ ai ni ci,FQ aw nw cw] 49)).alloc (FT #[I0 z,I0 o,I0 s,S0 p,S0 d,I0 y,I0 u] 52)).alloc (FT #[.bool false,N0,I0 0,I0 0,N0,I0 0,I0 0,N0,N0,N0] 49)=W0 at*
 go_cut [16]from 10 (fun t16 wx=>t16=.bool true/\Hid (B0 W0 wx))
 case first=>
  obtain⟨x0,x1,x2,x3,x4,x5,x6,x7,x8,x9⟩:=(G5 X).s.cells;have t0:=(G5 X).x.c0;simp only at t0
  go_region_with (first
   |(go_at_call 76;refine(G5 CL _ (by first|with_reducible exact(G5 HB0).drew|with_reducible exact G5 HB0)).mono ?_;rintro e w1 ⟨rfl,rfl⟩))
  all_goals go_wp2_with fail
  all_goals go_meet
  all_goals first
   |exact⟨rfl,G6 (AA _ _).drew⟩
   |exact⟨rfl,G6 (AA _ _)⟩
   |exact⟨by simp;omega,G6 (AA _ _).drew⟩
   |exact⟨by simp;omega,G6 (AA _ _)⟩
 case rest=>
  obtain⟨rfl,hbc⟩:=hcut;have X1:=G6 ((G5 X).next (G5 hbc));have HB1:=G6 (G8 (G5 HB0) (G5 hbc));clear X HB0 hbc CL;go_upto_region 2 with fail;obtain⟨r0,r1,r2,r3,r4,r5,r6,r7,r8,r9⟩:=(G5 X1).r.cells;have rf0:=(G5 X1).r.GN 0;have rf1:=(G5 X1).r.GN 1;have rf2:=(G5 X1).r.GN 2;have rf3:=(G5 X1).r.GN 3;have rf4:=(G5 X1).r.GN 4;have rf5:=(G5 X1).r.GN 5;have rf6:=(G5 X1).r.GN 6;have rf7:=(G5 X1).r.GN 7;have rf8:=(G5 X1).r.GN 8;have rf9:=(G5 X1).r.GN 9;go_wp2_with fail;exact bodyPost_ret (v:=.tuple #[.agg #[.bool false,N0,I0 0,I0 0,N0,I0 0,I0 0,N0,N0,N0],I0 13]) (by simp[results,results113,go_sem,r0,r1,r2,r3,r4,r5,r6,r7,r8,r9]) rfl (jO rfl (JJ (G5 HB1) (by omega) _ _ _ _ _ _ _ _ _ _))
theorem C04(up:Bool)(id ep dn tz:Int)(fs:List DF)(ts:List GI)(t:GI)(safe:Bool)(vd vl:FV)(an ai aw:Option Addr)(nn cn ni ci nw cw:Nat)(w:FU)(hd:IK w vd fs)(hl:NI w vl ts)(hz:¬t.z<=IZ ts)(E:Int)(d1:List DF)(hE:E≠0)(G:MX 157 (fun x=>#[x,J7 t,.bool safe]) fs d1 E):
  FW prog 113 #[.agg #[.bool up,vd,I0 id,I0 ep,vl,I0 dn,I0 tz,FQ an nn cn,FQ ai ni ci,FQ aw nw cw],J7 t,.bool safe] w (nI w E):=by
 have HG:=G6 (fun W (hW:B0 w W)=>G _ W (hd.next hW));have hne:(E !=0)=true:=by simpa using hE
 clear G hE;have CL:=G6 (fun W (hW:B0 w W)=>RH vl ts W (hl.next hW));generalize IZ ts=lz at*;obtain⟨ad,nd,cd,rfl⟩:=IU hd;obtain⟨al,cl,rfl⟩:=MB hl;clear hl;obtain⟨z,o,s,p,d,y,u⟩:=t;unfold J7 at*;simp only at*;go_enter func113,ntmps113;go_upto_region 1 with fail;have X:=G6 (EB.start w up id ep dn tz (FQ ad nd cd) (FQ al ts.length cl) (FQ an nn cn) (FQ ai ni ci) (FQ aw nw cw) ⟨z,o,s,p,d,y,u⟩);have HB0:=G6 (EB.A95 w (FT #[.bool up,FQ ad nd cd,I0 id,I0 ep,FQ al ts.length cl,I0 dn,I0 tz,FQ an nn cn,FQ ai ni ci,FQ aw nw cw] 49) (FT #[I0 z,I0 o,I0 s,S0 p,S0 d,I0 y,I0 u] 52) (FT #[.bool false,N0,I0 0,I0 0,N0,I0 0,I0 0,N0,N0,N0] 49));simp only at X;generalize ((w.alloc (FT #[.bool up,FQ ad nd cd,I0 id,I0 ep,FQ al ts.length cl,I0 dn,I0 tz,FQ an nn cn,FQ ai ni ci,FQ aw nw cw] 49)).alloc (FT #[I0 z,I0 o,I0 s,S0 p,S0 d,I0 y,I0 u] 52)).alloc (FT #[.bool false,N0,I0 0,I0 0,N0,I0 0,I0 0,N0,N0,N0] 49)=W0 at*
 go_cut [16]from 10 (fun t16 wx=>t16=.bool false/\Hid (B0 W0 wx))
 case first=>
  obtain⟨x0,x1,x2,x3,x4,x5,x6,x7,x8,x9⟩:=(G5 X).s.cells;have t0:=(G5 X).x.c0;simp only at t0
  go_region_with (first
   |(go_at_call 76;refine(G5 CL _ (by first|with_reducible exact(G5 HB0).drew|with_reducible exact G5 HB0)).mono ?_;rintro e w1 ⟨rfl,rfl⟩))
  all_goals go_wp2_with fail
  all_goals go_meet
  all_goals first
   |exact⟨rfl,G6 (AA _ _).drew⟩
   |exact⟨rfl,G6 (AA _ _)⟩
   |exact⟨by simp;omega,G6 (AA _ _).drew⟩
   |exact⟨by simp;omega,G6 (AA _ _)⟩
 case rest=>
  obtain⟨rfl,hbc⟩:=hcut;have X1:=G6 ((G5 X).next (G5 hbc));have HB1:=G6 (G8 (G5 HB0) (G5 hbc));clear X HB0 hbc CL;obtain⟨x0,x1,x2,x3,x4,x5,x6,x7,x8,x9⟩:=(G5 X1).s.cells;have t0:=(G5 X1).x.c0;have t1:=(G5 X1).x.c1;have t2:=(G5 X1).x.c2;have t3:=(G5 X1).x.c3;have t4:=(G5 X1).x.c4;have t5:=(G5 X1).x.c5;have t6:=(G5 X1).x.c6;simp only at t0 t1 t2 t3 t4 t5 t6;go_wp2_with fail;refine(G5 HG _ (G5 HB1)).mono ?_;rintro e w2 ⟨a2,n2,c2,rfl,D2,hb2⟩;clear x0 x1 x2 x3 x4 x5 x6 x7 x8 x9 t0 t1 t2 t3 t4 t5 t6;have hal:=G7 w2 (FT #[FQ a2 n2 c2] 42);have X2:=G6 (((G5 X1).next hb2).next hal);have HB2:=G6 (G8 (G8 (G5 HB1) hb2) hal);clear X1 HB1 hb2 hal D2 HG;go_upto_region 5 with fail;generalize w2.alloc (FT #[FQ a2 n2 c2] 42)=W2 at*;obtain⟨r0,r1,r2,r3,r4,r5,r6,r7,r8,r9⟩:=(G5 X2).r.cells;have rf0:=(G5 X2).r.GN 0;have rf1:=(G5 X2).r.GN 1;have rf2:=(G5 X2).r.GN 2;have rf3:=(G5 X2).r.GN 3;have rf4:=(G5 X2).r.GN 4;have rf5:=(G5 X2).r.GN 5;have rf6:=(G5 X2).r.GN 6;have rf7:=(G5 X2).r.GN 7;have rf8:=(G5 X2).r.GN 8;have rf9:=(G5 X2).r.GN 9;go_wp2_with fail;exact bodyPost_ret (v:=.tuple #[.agg #[.bool false,N0,I0 0,I0 0,N0,I0 0,I0 0,N0,N0,N0],I0 E]) (by simp[results,results113,go_sem,r0,r1,r2,r3,r4,r5,r6,r7,r8,r9]) rfl (jO rfl (JJ (G5 HB2) (by omega) _ _ _ _ _ _ _ _ _ _))
def B13(w:FU)(B:Nat)(vl:FV)(up:Bool)(id ep dn tz:Int)(vn vs vw:FV)(d:List DF)(ts:List GI)(e:Ending)(w':FU):Prop:=
 ∃a n c a2 c2,e=.returned (.tuple #[.agg #[.bool up,FQ a n c,I0 id,I0 ep,FQ a2 ts.length c2,I0 dn,I0 tz,vn,vs,vw],I0 0])/\IK w' (FQ a n c) d/\GZ w' B (FQ a2 ts.length c2) ts/\
  ((Value.slice a2 ts.length c2).ownBlock=vl.ownBlock\/∃k,(Value.slice a2 ts.length c2).ownBlock=FZ k/\w.heap.size<=k)/\Touch (fun k=>vl.ownBlock=FZ k) w w'
def FrD(w:FU)(e:Ending):Prop:=∀x0 x1 x2 x3 x4 x5 x6 x7 x8 x9 z:FV,e=.returned (.tuple #[.agg #[x0,x1,x2,x3,x4,x5,x6,x7,x8,x9],z])->O7 w.heap.size x1
theorem CE5{x0 x1 x2 x3 x4 x5 x6 x7 x8 x9 z:FV}(h:O7 w.heap.size x1):FrD w (.returned (.tuple #[.agg #[x0,x1,x2,x3,x4,x5,x6,x7,x8,x9],z])):=by
 intro u0 u1 u2 u3 u4 u5 u6 u7 u8 u9 t e;simp only[Ending.returned.injEq,Value.tuple.injEq,Value.agg.injEq,Array.mk.injEq,List.cons.injEq]at e;obtain⟨⟨_,rfl,_⟩,_⟩:=e;exact h
theorem B14(up:Bool)(id ep dn tz:Int)(fs:List DF)(ts:List GI)(t:GI)(safe:Bool)(vd vl:FV)(an ai aw:Option Addr)(nn cn ni ci nw cw:Nat)(w:FU)(hd:IK w vd fs)(hl:NI w vl ts)(hz:¬t.z<=IZ ts)(d1:List DF)(B:Nat)(hB:B<=w.heap.size)(ho:GZ w B vl ts)(hn:ts.length<=1000000000)(hp:t.p.length<=140737488355328)(hdl:t.d.length<=140737488355328)(G:YF 157 (fun x=>#[x,J7 t,.bool safe]) fs d1 0):
  FW prog 113 #[.agg #[.bool up,vd,I0 id,I0 ep,vl,I0 dn,I0 tz,FQ an nn cn,FQ ai ni ci,FQ aw nw cw],J7 t,.bool safe] w fun e w'=>B13 w B vl up id ep dn tz (FQ an nn cn) (FQ ai ni ci) (FQ aw nw cw) d1 (ts++[t]) e w'/\FrD w e:=by
 have HG:=G6 (fun W (hW:B0 w W)=>G _ W (hd.next hW));have HO:=G6 (fun W (hW:B0 w W)=>ho.next hW);have CX:=G6 (fun W=>A74 t W hp hdl);have hlow:=ho.low;clear G ho hp hdl;have CL:=G6 (fun W (hW:B0 w W)=>RH vl ts W (hl.next hW));generalize IZ ts=lz at*;obtain⟨ad,nd,cd,rfl⟩:=IU hd;obtain⟨al,cl,rfl⟩:=MB hl;clear hl;obtain⟨z,o,s,p,d,y,u⟩:=t;unfold J7 at*;simp only at*;go_enter func113,ntmps113;go_upto_region 1 with fail;have X:=G6 (EB.start w up id ep dn tz (FQ ad nd cd) (FQ al ts.length cl) (FQ an nn cn) (FQ ai ni ci) (FQ aw nw cw) ⟨z,o,s,p,d,y,u⟩);have HB0:=G6 (EB.A95 w (FT #[.bool up,FQ ad nd cd,I0 id,I0 ep,FQ al ts.length cl,I0 dn,I0 tz,FQ an nn cn,FQ ai ni ci,FQ aw nw cw] 49) (FT #[I0 z,I0 o,I0 s,S0 p,S0 d,I0 y,I0 u] 52) (FT #[.bool false,N0,I0 0,I0 0,N0,I0 0,I0 0,N0,N0,N0] 49));simp only at X;generalize ((w.alloc (FT #[.bool up,FQ ad nd cd,I0 id,I0 ep,FQ al ts.length cl,I0 dn,I0 tz,FQ an nn cn,FQ ai ni ci,FQ aw nw cw] 49)).alloc (FT #[I0 z,I0 o,I0 s,S0 p,S0 d,I0 y,I0 u] 52)).alloc (FT #[.bool false,N0,I0 0,I0 0,N0,I0 0,I0 0,N0,N0,N0] 49)=W0 at*
 go_cut [16]from 10 (fun t16 wx=>t16=.bool false/\Hid (B0 W0 wx))
 case first=>
  obtain⟨x0,x1,x2,x3,x4,x5,x6,x7,x8,x9⟩:=(G5 X).s.cells;have t0:=(G5 X).x.c0;simp only at t0
  go_region_with (first
   |(go_at_call 76;refine(G5 CL _ (by first|with_reducible exact(G5 HB0).drew|with_reducible exact G5 HB0)).mono ?_;rintro e w1 ⟨rfl,rfl⟩))
  all_goals go_wp2_with fail
  all_goals go_meet
  all_goals first
   |exact⟨rfl,G6 (AA _ _).drew⟩
   |exact⟨rfl,G6 (AA _ _)⟩
   |exact⟨by simp;omega,G6 (AA _ _).drew⟩
   |exact⟨by simp;omega,G6 (AA _ _)⟩
 case rest=>
  obtain⟨rfl,hbc⟩:=hcut;have X1:=G6 ((G5 X).next (G5 hbc));have HB1:=G6 (G8 (G5 HB0) (G5 hbc));clear X HB0 hbc CL;obtain⟨x0,x1,x2,x3,x4,x5,x6,x7,x8,x9⟩:=(G5 X1).s.cells;have t0:=(G5 X1).x.c0;have t1:=(G5 X1).x.c1;have t2:=(G5 X1).x.c2;have t3:=(G5 X1).x.c3;have t4:=(G5 X1).x.c4;have t5:=(G5 X1).x.c5;have t6:=(G5 X1).x.c6;simp only at t0 t1 t2 t3 t4 t5 t6;go_wp2_with fail;refine(G5 HG _ (G5 HB1)).mono ?_;rintro e w2 ⟨a2,n2,c2,rfl,D2,hb2⟩;clear x0 x1 x2 x3 x4 x5 x6 x7 x8 x9 t0 t1 t2 t3 t4 t5 t6;have hal:=G7 w2 (FT #[FQ a2 n2 c2] 42);have X2:=G6 (((G5 X1).next hb2).next hal);have HB2:=G6 (G8 (G8 (G5 HB1) hb2) hal);have A2:=G6 (KG.new w2 (FQ a2 n2 c2));have F2:=G6 ((G5 D2).1.next hal);have R2:=G6 ((G5 D2).2.lower (G5 HB1).size);have RF:=R2;clear X1 HB1 hb2 hal D2 HG;go_upto_region 6 with fail;generalize w2.heap.size=q2 at*;generalize w2.alloc (FT #[FQ a2 n2 c2] 42)=W2 at*;have ca:=(G5 A2).c;have fx:=(G5 X2).s.GN 1;obtain⟨x0,x1,x2,x3,x4,x5,x6,x7,x8,x9⟩:=(G5 X2).s.cells;go_upto_region 7 with fail;have Y3:=(G5 X2).put 1 (FQ a2 n2 c2) rfl;have B3:=(G5 HB2).setCell (p:=⟨w.heap.size,1,FX⟩) (by simp) (FQ a2 n2 c2);have D3:=RY (G5 F2) (j:=1) (G5 X2).s.fA (FQ a2 n2 c2);clear x0 x1 x2 x3 x4 x5 x6 x7 x8 x9 fx ca A2;generalize W2.setCell ⟨w.heap.size,1,FX⟩ (FQ a2 n2 c2)=W3 at*;have K1:∀V,B0 W3 V->V.cell? ⟨w.heap.size,4,FX⟩=FZ (FQ al ts.length cl)/\w.heap.size<V.heap.size/\(V.alloc (FT #[I0 z,I0 o,I0 s,S0 p,S0 d,I0 y,I0 u] 52)).cell? ⟨w.heap.size,4,FX⟩=FZ (FQ al ts.length cl):=fun V hV=>by
   have h1:=Y3.next hV;have h2:=h1.next (G7 V (FT #[I0 z,I0 o,I0 s,S0 p,S0 d,I0 y,I0 u] 52));exact⟨h1.s.cells.2.2.2.2.1,by have:=h1.lt;omega,h2.s.cells.2.2.2.2.1⟩
  have KE:∀V,B0 W3 V->GZ (V.alloc (FT #[I0 z,I0 o,I0 s,S0 p,S0 d,I0 y,I0 u] 52)) B (FQ al ts.length cl) ts/\B<=(V.alloc (FT #[I0 z,I0 o,I0 s,S0 p,S0 d,I0 y,I0 u] 52)).heap.size:=fun V hV=>by
   have hb:=G8 (G8 B3 hV) (G7 V (FT #[I0 z,I0 o,I0 s,S0 p,S0 d,I0 y,I0 u] 52));exact⟨G5 HO _ hb,BM hB hb.size⟩
  have K2:∀ (w4 w5:FU) (a5:Option Addr) (c5:Nat),B0 W3 w4->GZ w5 B (FQ a5 (ts.length+1) c5) (ts++[⟨z,o,s,p,d,y,u⟩])->(w4.alloc (FT #[I0 z,I0 o,I0 s,S0 p,S0 d,I0 y,I0 u] 52)).grownBy w5 (Value.slice al ts.length cl).ownBlock->
    ((Value.slice a5 (ts.length+1) c5).ownBlock=(Value.slice al ts.length cl).ownBlock\/(Value.slice a5 (ts.length+1) c5).ownBlock=FZ (w4.alloc (FT #[I0 z,I0 o,I0 s,S0 p,S0 d,I0 y,I0 u] 52)).heap.size)->
    w5.cell? ⟨w.heap.size,4,FX⟩=FZ (FQ al ts.length cl)/\w5.frozen? ⟨w.heap.size,4,FX⟩=false/\
    Hid (EB w (w5.setCell ⟨w.heap.size,4,FX⟩ (FQ a5 (ts.length+1) c5)) up (FQ a2 n2 c2) id ep (FQ a5 (ts.length+1) c5) dn tz (FQ an nn cn) (FQ ai ni ci) (FQ aw nw cw) ⟨z,o,s,p,d,y,u⟩/\IK (w5.setCell ⟨w.heap.size,4,FX⟩ (FQ a5 (ts.length+1) c5)) (FQ a2 n2 c2) d1/\GZ (w5.setCell ⟨w.heap.size,4,FX⟩ (FQ a5 (ts.length+1) c5)) B (FQ a5 (ts.length+1) c5) (ts++[⟨z,o,s,p,d,y,u⟩])/\
     ((Value.slice a5 (ts.length+1) c5).ownBlock=(Value.slice al ts.length cl).ownBlock\/∃k,(Value.slice a5 (ts.length+1) c5).ownBlock=FZ k/\w.heap.size<=k)/\Touch (fun k=>(Value.slice al ts.length cl).ownBlock=FZ k) w (w5.setCell ⟨w.heap.size,4,FX⟩ (FQ a5 (ts.length+1) c5))/\(Value.slice a5 (ts.length+1) c5).ownBlock≠FZ (w.heap.size+1+1)):=by
   intro w4 w5 a5 c5 hb4 ho5 hg5 hl5;have b5:=G8 (G8 B3 hb4) (G7 w4 (FT #[I0 z,I0 o,I0 s,S0 p,S0 d,I0 y,I0 u] 52));have t5:Touch (fun k=>(Value.slice al ts.length cl).ownBlock=FZ k) (w4.alloc (FT #[I0 z,I0 o,I0 s,S0 p,S0 d,I0 y,I0 u] 52)) w5:=Touch.UR hg5 (fun k e=>e);have T5:=(Touch.of_below b5 (F:=fun k=>(Value.slice al ts.length cl).ownBlock=FZ k)).trans t5;have X4:=(Y3.next hb4).next (G7 w4 (FT #[I0 z,I0 o,I0 s,S0 p,S0 d,I0 y,I0 u] 52));have X5:=X4.touch t5 (fun k h1 _ hf=>by have:=hlow k hf;omega);have z4:=X4.lt;have ne:∀k,w.heap.size<=k->k<w.heap.size+3->(Value.slice a5 (ts.length+1) c5).ownBlock≠FZ k:=by
    intro k h1 h2 e;rcases hl5 with h|h
    .rw[h]at e;have:=hlow k e;omega
    .rw[h]at e;simp only[Option.some.injEq]at e;omega
   refine⟨X5.s.cells.2.2.2.2.1,X5.s.GN 4,G6 ⟨X5.put 4 (FQ a5 (ts.length+1) c5) rfl,RY (AK6 ((D3.next hb4).next (G7 w4 (FT #[I0 z,I0 o,I0 s,S0 p,S0 d,I0 y,I0 u] 52))) t5 (fun b off n c e hf=>?_)) X5.s.fA _,ho5.other (ne _ (by simp) (by simp)) _,?_,T5.WU (by omega) _,ne _ (by omega) (by omega)⟩⟩
   .have h1:=G5 R2 b off n c e;have h2:=hlow b hf;omega
   .rcases hl5 with h|h
    .exact .inl h
    .exact .inr ⟨_,h,b5.size⟩
  have HK1:=G6 K1;have HKE:=G6 KE;have HK2:=G6 K2;obtain⟨x4,_,_⟩:=K1 W3 (AA _ _);obtain⟨e0,e1,e2,e3,e4,e5,e6⟩:W3.cell? ⟨w.heap.size+1,0,FX⟩=FZ (I0 z)/\W3.cell? ⟨w.heap.size+1,1,FX⟩=FZ (I0 o)/\W3.cell? ⟨w.heap.size+1,2,FX⟩=FZ (I0 s)/\W3.cell? ⟨w.heap.size+1,3,FX⟩=FZ (S0 p)/\W3.cell? ⟨w.heap.size+1,4,FX⟩=FZ (S0 d)/\W3.cell? ⟨w.heap.size+1,5,FX⟩=FZ (I0 y)/\W3.cell? ⟨w.heap.size+1,6,FX⟩=FZ (I0 u):=⟨Y3.x.c0,Y3.x.c1,Y3.x.c2,Y3.x.c3,Y3.x.c4,Y3.x.c5,Y3.x.c6⟩;clear K1 KE K2 Y3 B3 D3 HO hlow X2 HB2 F2 R2 hd
  go_cut [5]from 10 (fun _ wx=>∃a5 c5,Hid (EB w wx up (FQ a2 n2 c2) id ep (FQ a5 (ts.length+1) c5) dn tz (FQ an nn cn) (FQ ai ni ci) (FQ aw nw cw) ⟨z,o,s,p,d,y,u⟩/\IK wx (FQ a2 n2 c2) d1/\GZ wx B (FQ a5 (ts.length+1) c5) (ts++[⟨z,o,s,p,d,y,u⟩])/\
     ((Value.slice a5 (ts.length+1) c5).ownBlock=(Value.slice al ts.length cl).ownBlock\/∃k,(Value.slice a5 (ts.length+1) c5).ownBlock=FZ k/\w.heap.size<=k)/\Touch (fun k=>(Value.slice al ts.length cl).ownBlock=FZ k) w wx/\(Value.slice a5 (ts.length+1) c5).ownBlock≠FZ (w.heap.size+1+1)))
  case first=>
   go_region_law (first
    |(refine UZ (by kernel_rfl) _ _ (by rfl) B (G5 HKE w4 (G5 HB4)).2 (FQ al ts.length cl) ts (by rfl) (G5 HKE w4 (G5 HB4)).1 w4.heap.size (by rfl) ⟨z,o,s,p,d,y,u⟩ (fP w4 ⟨z,o,s,p,d,y,u⟩) hn ?_;intro a5 c5 w5 ho5 hg5 hl5;obtain⟨m4,l4,HF5⟩:=G5 HK2 w4 w5 a5 c5 (G5 HB4) ho5 hg5 hl5;clear ho5 hg5 hl5)
    |(go_simp;refine(G5 CX _).mono ?_;rintro e w4 ⟨rfl,hb4⟩;have HB4:Hid (B0 W3 w4):=(by first|exact G6 (I8 hb4)|exact G6 hb4);obtain⟨d4,k4,d4a⟩:=G5 HK1 w4 (G5 HB4);clear hb4))
   all_goals go_wp2_with fail
   all_goals go_meet
   all_goals exact⟨a5,c5,HF5⟩
  case rest=>
   obtain⟨a5,c5,HF5⟩:=hcut;obtain⟨x0,x1,x2,x3,x4,x5,x6,x7,x8,x9⟩:=(G5 HF5).1.s.cells;obtain⟨r0,r1,r2,r3,r4,r5,r6,r7,r8,r9⟩:=(G5 HF5).1.r.cells;have rf0:=(G5 HF5).1.r.GN 0;have rf1:=(G5 HF5).1.r.GN 1;have rf2:=(G5 HF5).1.r.GN 2;have rf3:=(G5 HF5).1.r.GN 3;have rf4:=(G5 HF5).1.r.GN 4;have rf5:=(G5 HF5).1.r.GN 5;have rf6:=(G5 HF5).1.r.GN 6;have rf7:=(G5 HF5).1.r.GN 7;have rf8:=(G5 HF5).1.r.GN 8;have rf9:=(G5 HF5).1.r.GN 9;clear HK1 HKE HK2 CX;go_wp2_with fail;refine bodyPost_ret (v:=.tuple #[.agg #[.bool up,FQ a2 n2 c2,I0 id,I0 ep,FQ a5 (ts.length+1) c5,I0 dn,I0 tz,FQ an nn cn,FQ ai ni ci,FQ aw nw cw],I0 0]) (by simp[results,results113,go_sem,r0,r1,r2,r3,r4,r5,r6,r7,r8,r9]) rfl ?_;obtain⟨EB5,DD5,OO5,hl5,TT5,ne5⟩:=G5 HF5;have hlen:(ts++[(⟨z,o,s,p,d,y,u⟩:GI)]).length=ts.length+1:=by simp
   unfold B13;rw[hlen];exact⟨⟨a2,n2,c2,a5,c5,rfl,nJ EB5.r.fA DD5,WV OO5 ne5 _ _ _ _ _ _ _ _ _ _,hl5,A06 TT5 (by omega) _ _ _ _ _ _ _ _ _ _⟩,CE5 (G5 RF)⟩
theorem CE6(up:Bool)(id ep dn tz:Int)(fs:List DF)(ts:List GI)(t:GI)(safe:Bool)(vd vl:FV)(an ai aw:Option Addr)(nn cn ni ci nw cw:Nat)(w:FU)(hd:IK w vd fs)(hl:NI w vl ts)(hz:¬t.z<=IZ ts)(d1:List DF)(B:Nat)(hB:B<=w.heap.size)(ho:GZ w B vl ts)(hn:ts.length<=1000000000)(hp:t.p.length<=140737488355328)(hdl:t.d.length<=140737488355328)(G:YF 157 (fun x=>#[x,J7 t,.bool safe]) fs d1 0):
  FW prog 113 #[.agg #[.bool up,vd,I0 id,I0 ep,vl,I0 dn,I0 tz,FQ an nn cn,FQ ai ni ci,FQ aw nw cw],J7 t,.bool safe] w (B13 w B vl up id ep dn tz (FQ an nn cn) (FQ ai ni ci) (FQ aw nw cw) d1 (ts++[t])):=(B14 up id ep dn tz fs ts t safe vd vl an ai aw nn cn ni ci nw cw w hd hl hz d1 B hB ho hn hp hdl G).mono fun _ _ h=>h.1
