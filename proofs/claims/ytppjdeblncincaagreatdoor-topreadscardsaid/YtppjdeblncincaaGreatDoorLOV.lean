/-
  Part.
-/
import Derived.Test.YtppjdeblncincaaGreatDoorLOJ
import Derived.Test.YtppjdeblncincaaGreatDoorLOU
import Derived.Test.YtppjdeblncincaaGreatDoorLOQ
set_option maxRecDepth 20000
set_option maxHeartbeats 8000000
namespace Go.Proofs.YtppjdeblncincaaGreatDoor
open Go.RowKit Go.Proofs.Tryz
open _root_.Nat renaming le_refl->A8,le_trans->BO
open Go.RowKit.Below renaming refl->AA,heap_setCell->BG
open Go.Value renaming ownBlock->DJ,slice->FU
open Go.Obj renaming cells->FV
open Go renaming World->FW,Value->FX,Calls->FZ
open _root_.Option renaming none->G5,some->G6
variable{α:Type}{W w V:FW}{B k:Nat}{v:FX}{fs:List DF}{F:Nat->Prop}
structure BX5(s:Sv):Prop where
 d:s.fs.length*48<=140737488355328
 df:mW s.fs
 l:s.ts.length*72<=140737488355328
 lf:∀x∈s.ts,x.p.length<=140737488355328/\x.d.length<=140737488355328
 n:s.tr.ns.length*88<=140737488355328
 nf:∀x∈s.tr.ns,x.p.length<=140737488355328/\x.d.length<=140737488355328
 si:s.tr.ss.length<=2147483647
 wa:s.ws.length*32<=140737488355328
 wf:∀x∈s.ws,x.p.length<=140737488355328
structure CB(w W:FW)(up:Bool)(vd:FX)(id ep:Int)(vl:FX)(dn z:Int)(vn vs vw:FX):Prop where
 below:B0 w W
 s:IG W w.heap.size up vd id ep vl dn z vn vs vw
 r:IG W (w.heap.size+1) false (N0) 0 0 (N0) 0 0 (N0) (N0) (N0)
section
variable {w W V:FW} {up:Bool} {id ep dn z:Int} {vd vl vn vs vw:FX}
theorem CB.next(h:CB w W up vd id ep vl dn z vn vs vw)(hb:B0 W V):CB w V up vd id ep vl dn z vn vs vw:=⟨GH h.below hb,h.s.next hb,h.r.next hb⟩
theorem CB.lt(h:CB w W up vd id ep vl dn z vn vs vw):w.heap.size+2<=W.heap.size:=h.r.lt
theorem CB.put(h:CB w W up vd id ep vl dn z vn vs vw)(j:Nat)(u:FX){vd' vl' vn' vs' vw':FX}(e:(#[.bool up,vd,I0 id,I0 ep,vl,I0 dn,I0 z,vn,vs,vw]:Array FX).setIfInBounds j u=#[.bool up,vd',I0 id,I0 ep,vl',I0 dn,I0 z,vn',vs',vw']):CB w (W.setCell ⟨w.heap.size,j,G5⟩ u) up vd' id ep vl' dn z vn' vs' vw':=by
 refine⟨h.below.setCell (by simp) u,?_,h.r.other (by omega)⟩;unfold IG;rw[GV u h.s,e]
theorem CB.start(w:FW)(up:Bool)(id ep dn z:Int)(vd vl vn vs vw:FX):CB w ((w.alloc (FV #[.bool up,vd,I0 id,I0 ep,vl,I0 dn,I0 z,vn,vs,vw] 40)).alloc (FV #[.bool false,N0,I0 0,I0 0,N0,I0 0,I0 0,N0,N0,N0] 40)) up vd id ep vl dn z vn vs vw:=by
 refine⟨GH (G9 _ _) (G9 _ _),(IG.new w up id ep dn z vd vl vn vs vw).next (G9 _ _),?_⟩;have h:=IG.new (w.alloc (FV #[.bool up,vd,I0 id,I0 ep,vl,I0 dn,I0 z,vn,vs,vw] 40)) false 0 0 0 0 (N0) (N0) (N0) (N0) (N0);rw[show (w.alloc (FV #[.bool up,vd,I0 id,I0 ep,vl,I0 dn,I0 z,vn,vs,vw] 40)).heap.size=w.heap.size+1 by simp]at h;exact h
end
theorem CI9[Lay α]{xs:List α}(h:GZ W B v xs)(hk:k<B):v.ownBlock≠G6 k:=by
 rcases h with⟨rfl,_⟩|⟨g,cap,rfl,hB,_⟩
 .simp[DJ]
 .simp[DJ];omega
theorem IW[Lay α]{j:Nat}{u:FX}{xs:List α}(h:GZ W B v xs)(hk:k<B):GZ (W.setCell ⟨k,j,G5⟩ u) B v xs:=h.other (CI9 h hk) u
theorem OA[Lay α]{xs:List α}(h:GZ W B v xs)(hk:k<B)(x0 x1 x2 x3 x4 x5 x6 x7 x8 x9:FX):GZ (OG W k x0 x1 x2 x3 x4 x5 x6 x7 x8 x9) B v xs:=
 IW (IW (IW (IW (IW (IW (IW (IW (IW (IW h hk) hk) hk) hk) hk) hk) hk) hk) hk) hk
def CJ0(w:FW)(s:Sv)(e:Ending)(w':FW):Prop:=
 ∃ad nd cd al cl an cn ai ci aw cw B1 B2,e=.returned (.agg #[.bool s.up,FU ad nd cd,I0 s.id,I0 s.ep,FU al s.ts.length cl,I0 s.dn,I0 s.tr.z,FU an s.tr.ns.length cn,FU ai s.tr.ss.length ci,FU aw s.ws.length cw])/\
  w.heap.size<=B1/\B1<=B2/\GZ w' w.heap.size (FU ad nd cd) s.fs/\(∀k,(Value.slice ad nd cd).ownBlock=G6 k->k<B1)/\GZ w' B1 (FU al s.ts.length cl) s.ts/\(∀k,(Value.slice al s.ts.length cl).ownBlock=G6 k->k<B2)/\
  GZ w' B2 (FU an s.tr.ns.length cn) s.tr.ns/\GZ w' B2 (FU ai s.tr.ss.length ci) s.tr.ss/\GZ w' B2 (FU aw s.ws.length cw) s.ws/\B0 w w'
theorem ZM(s:Sv)(v:FX)(w:FW)(hv:SvV w v s)(hf:BX5 s):
  FZ prog 97 #[v] w (CJ0 w s):=by
 obtain⟨ad,nd,cd,al,cl,an,cn,ai,ci,aw,cw,rfl,d1,l1,n1,s1,k1⟩:=hv.five;have CD:=fun W (hW:B0 w W)=>B01 _ s.fs W (P9.2 (d1.next hW)) hf.d hf.df;have CL:=fun W (hW:B0 w W)=>B02 _ s.ts W (NY.2 (l1.next hW)) hf.l hf.lf;have CN:=fun W (hW:B0 w W)=>B03 _ s.tr.ns W (n1.next hW) hf.n hf.nf;have CI:=fun W (hW:B0 w W)=>dV _ s.tr.ss W (s1.next hW) (hf.si);have CW:=fun W (hW:B0 w W)=>B04 _ s.ws W (k1.next hW) hf.wa hf.wf;have HD:=G8 CD;have HL:=G8 CL;have HN:=G8 CN;have HI:=G8 CI;have HW:=G8 CW;clear CD CL CN CI CW hv d1 l1 n1 s1 k1 hf;obtain⟨up,fs,id,ep,ts,dn,⟨tz,tns,tss⟩,ws⟩:=s;simp only at*;go_enter func97,ntmps97;go_wp2_with fail;have X0:=CB.start w up id ep dn tz (FU ad nd cd) (FU al ts.length cl) (FU an tns.length cn) (FU ai tss.length ci) (FU aw ws.length cw);generalize (w.alloc (FV #[.bool up,FU ad nd cd,I0 id,I0 ep,FU al ts.length cl,I0 dn,I0 tz,FU an tns.length cn,FU ai tss.length ci,FU aw ws.length cw] 40)).alloc (FV #[.bool false,N0,I0 0,I0 0,N0,I0 0,I0 0,N0,N0,N0] 40)=W0 at*;have HX0:=G8 X0;obtain⟨x0,x1,x2,x3,x4,x5,x6,x7,x8,x9⟩:=X0.s.cells;clear X0;refine(G7 HD _ (G7 HX0).below).mono ?_;rintro e w1 ⟨v1,rfl,o1,hb1⟩;obtain⟨a1,c1,rfl,_⟩:=o1.slice;have z1:=(G7 HX0).lt;have X1:=(G7 HX0).next hb1;have Y1:=X1.put 1 (FU a1 fs.length c1) rfl;obtain⟨y0,y1,y2,y3,y4,y5,y6,y7,y8,y9⟩:=X1.s.cells;have g1:=X1.s.GU 1;have O1:=G8 (IW (j:=1) (u:=FU a1 fs.length c1) o1 (by omega:w.heap.size<_));have b1:=G8 (fun k hk=>GZ.low o1 k hk);have S1:=G8 (show w.heap.size+1<W0.heap.size by omega);have Z1:=G8 (show w.heap.size<=W0.heap.size by omega);have K1:=G8 (show W0.heap.size<=(w1.setCell ⟨w.heap.size,1,G5⟩ (FU a1 fs.length c1)).heap.size by have:=hb1.size;simp[World.setCell]at*;omega);have L1:=G8 (show w1.heap.size=(w1.setCell ⟨w.heap.size,1,G5⟩ (FU a1 fs.length c1)).heap.size by simp[World.setCell]);clear X1 o1 hb1 z1 HX0 HD x0 x1 x2 x3 x4 x5 x6 x7 x8 x9;have HX1:=G8 Y1;obtain⟨x0,x1,x2,x3,x4,x5,x6,x7,x8,x9⟩:=Y1.s.cells;clear Y1;go_wp2_with fail;generalize w1.setCell ⟨w.heap.size,1,G5⟩ (FU a1 fs.length c1)=V1 at*;clear y0 y1 y2 y3 y4 y5 y6 y7 y8 y9 g1;refine(G7 HL _ (G7 HX1).below).mono ?_;rintro e w2 ⟨v2,rfl,o2,hb2⟩;obtain⟨a2,c2,rfl,_⟩:=o2.slice;have z2:=(G7 HX1).lt;have X2:=(G7 HX1).next hb2;have Y2:=X2.put 4 (FU a2 ts.length c2) rfl;obtain⟨y0,y1,y2,y3,y4,y5,y6,y7,y8,y9⟩:=X2.s.cells;have g2:=X2.s.GU 4;have O2:=G8 (IW (j:=4) (u:=FU a2 ts.length c2) o2 (by omega:w.heap.size<_));have b2:=G8 (fun k hk=>GZ.low o2 k hk);have P1:=G8 (IW (j:=4) (u:=FU a2 ts.length c2) ((G7 O1).next hb2) (Nat.lt_of_succ_lt (G7 S1)));have S2:=G8 (show w.heap.size+1<V1.heap.size by omega);have K2:=G8 (show V1.heap.size<=(w2.setCell ⟨w.heap.size,4,G5⟩ (FU a2 ts.length c2)).heap.size by have:=hb2.size;simp[World.setCell]at*;omega);have L2:=G8 (show w2.heap.size=(w2.setCell ⟨w.heap.size,4,G5⟩ (FU a2 ts.length c2)).heap.size by simp[World.setCell]);clear X2 o2 hb2 z2 HX1 HL x0 x1 x2 x3 x4 x5 x6 x7 x8 x9 O1;have O1:=P1;clear P1;have HX2:=G8 Y2;obtain⟨x0,x1,x2,x3,x4,x5,x6,x7,x8,x9⟩:=Y2.s.cells;clear Y2;go_wp2_with fail;generalize w2.setCell ⟨w.heap.size,4,G5⟩ (FU a2 ts.length c2)=V2 at*;clear y0 y1 y2 y3 y4 y5 y6 y7 y8 y9 g2;refine(G7 HN _ (G7 HX2).below).mono ?_;rintro e w3 ⟨v3,rfl,o3,hb3⟩;obtain⟨a3,c3,rfl,_⟩:=o3.slice;have z3:=(G7 HX2).lt;have X3:=(G7 HX2).next hb3;have Y3:=X3.put 7 (FU a3 tns.length c3) rfl;obtain⟨y0,y1,y2,y3,y4,y5,y6,y7,y8,y9⟩:=X3.s.cells;have g3:=X3.s.GU 7;have O3:=G8 (IW (j:=7) (u:=FU a3 tns.length c3) o3 (by omega:w.heap.size<_));have P1:=G8 (IW (j:=7) (u:=FU a3 tns.length c3) ((G7 O1).next hb3) (Nat.lt_of_succ_lt (G7 S1)));have P2:=G8 (IW (j:=7) (u:=FU a3 tns.length c3) ((G7 O2).next hb3) (Nat.lt_of_succ_lt (G7 S2)));have S3:=G8 (show w.heap.size+1<V2.heap.size by omega);have K3:=G8 (show V2.heap.size<=(w3.setCell ⟨w.heap.size,7,G5⟩ (FU a3 tns.length c3)).heap.size by have:=hb3.size;simp[World.setCell]at*;omega);have L3:=G8 (show w3.heap.size=(w3.setCell ⟨w.heap.size,7,G5⟩ (FU a3 tns.length c3)).heap.size by simp[World.setCell])
 clear X3 o3 hb3 z3 HX2 HN x0 x1 x2 x3 x4 x5 x6 x7 x8 x9 O1 O2;have O1:=P1;have O2:=P2;clear P1 P2;have HX3:=G8 Y3;obtain⟨x0,x1,x2,x3,x4,x5,x6,x7,x8,x9⟩:=Y3.s.cells;clear Y3;go_wp2_with fail;generalize w3.setCell ⟨w.heap.size,7,G5⟩ (FU a3 tns.length c3)=V3 at*;clear y0 y1 y2 y3 y4 y5 y6 y7 y8 y9 g3;refine(G7 HI _ (G7 HX3).below).mono ?_;rintro e w4 ⟨v4,rfl,o4,hb4⟩;obtain⟨a4,c4,rfl,_⟩:=o4.slice;have z4:=(G7 HX3).lt;have X4:=(G7 HX3).next hb4;have Y4:=X4.put 8 (FU a4 tss.length c4) rfl;obtain⟨y0,y1,y2,y3,y4,y5,y6,y7,y8,y9⟩:=X4.s.cells;have g4:=X4.s.GU 8;have O4:=G8 (IW (j:=8) (u:=FU a4 tss.length c4) o4 (by omega:w.heap.size<_));have P1:=G8 (IW (j:=8) (u:=FU a4 tss.length c4) ((G7 O1).next hb4) (Nat.lt_of_succ_lt (G7 S1)));have P2:=G8 (IW (j:=8) (u:=FU a4 tss.length c4) ((G7 O2).next hb4) (Nat.lt_of_succ_lt (G7 S2)));have P3:=G8 (IW (j:=8) (u:=FU a4 tss.length c4) ((G7 O3).next hb4) (Nat.lt_of_succ_lt (G7 S3)));have S4:=G8 (show w.heap.size+1<V3.heap.size by omega);have K4:=G8 (show V3.heap.size<=(w4.setCell ⟨w.heap.size,8,G5⟩ (FU a4 tss.length c4)).heap.size by have:=hb4.size;simp[World.setCell]at*;omega);have L4:=G8 (show w4.heap.size=(w4.setCell ⟨w.heap.size,8,G5⟩ (FU a4 tss.length c4)).heap.size by simp[World.setCell]);clear X4 o4 hb4 z4 HX3 HI x0 x1 x2 x3 x4 x5 x6 x7 x8 x9 O1 O2 O3;have O1:=P1;have O2:=P2;have O3:=P3;clear P1 P2 P3;have HX4:=G8 Y4;obtain⟨x0,x1,x2,x3,x4,x5,x6,x7,x8,x9⟩:=Y4.s.cells;clear Y4;go_wp2_with fail;generalize w4.setCell ⟨w.heap.size,8,G5⟩ (FU a4 tss.length c4)=V4 at*;clear y0 y1 y2 y3 y4 y5 y6 y7 y8 y9 g4;refine(G7 HW _ (G7 HX4).below).mono ?_;rintro e w5 ⟨v5,rfl,o5,hb5⟩;obtain⟨a5,c5,rfl,_⟩:=o5.slice;have z5:=(G7 HX4).lt;have X5:=(G7 HX4).next hb5;have Y5:=X5.put 9 (FU a5 ws.length c5) rfl;obtain⟨y0,y1,y2,y3,y4,y5,y6,y7,y8,y9⟩:=X5.s.cells;have g5:=X5.s.GU 9;have O5:=G8 (IW (j:=9) (u:=FU a5 ws.length c5) o5 (by omega:w.heap.size<_));have P1:=G8 (IW (j:=9) (u:=FU a5 ws.length c5) ((G7 O1).next hb5) (Nat.lt_of_succ_lt (G7 S1)));have P2:=G8 (IW (j:=9) (u:=FU a5 ws.length c5) ((G7 O2).next hb5) (Nat.lt_of_succ_lt (G7 S2)));have P3:=G8 (IW (j:=9) (u:=FU a5 ws.length c5) ((G7 O3).next hb5) (Nat.lt_of_succ_lt (G7 S3)));have P4:=G8 (IW (j:=9) (u:=FU a5 ws.length c5) ((G7 O4).next hb5) (Nat.lt_of_succ_lt (G7 S4)));have S5:=G8 (show w.heap.size+1<V4.heap.size by omega);have K5:=G8 (show V4.heap.size<=(w5.setCell ⟨w.heap.size,9,G5⟩ (FU a5 ws.length c5)).heap.size by have:=hb5.size;simp[World.setCell]at*;omega);have L5:=G8 (show w5.heap.size=(w5.setCell ⟨w.heap.size,9,G5⟩ (FU a5 ws.length c5)).heap.size by simp[World.setCell]);clear X5 o5 hb5 z5 HX4 HW x0 x1 x2 x3 x4 x5 x6 x7 x8 x9 O1 O2 O3 O4;have O1:=P1;have O2:=P2;have O3:=P3;have O4:=P4;clear P1 P2 P3 P4;have HX5:=G8 Y5;obtain⟨x0,x1,x2,x3,x4,x5,x6,x7,x8,x9⟩:=Y5.s.cells;obtain⟨r0,r1,r2,r3,r4,r5,r6,r7,r8,r9⟩:=Y5.r.cells;have rf0:=Y5.r.GU 0;have rf1:=Y5.r.GU 1;have rf2:=Y5.r.GU 2;have rf3:=Y5.r.GU 3;have rf4:=Y5.r.GU 4;have rf5:=Y5.r.GU 5;have rf6:=Y5.r.GU 6;have rf7:=Y5.r.GU 7;have rf8:=Y5.r.GU 8;have rf9:=Y5.r.GU 9;have Y5b:=Y5.below;clear Y5;have HF:=G8 (JL Y5b (by omega:w.heap.size<=w.heap.size+1) (.bool up) (FU a1 fs.length c1) (I0 id) (I0 ep) (FU a2 ts.length c2) (I0 dn) (I0 tz) (FU a3 tns.length c3) (FU a4 tss.length c4) (FU a5 ws.length c5));have Q1:=G8 (OA (G7 O1) (G7 S1) (.bool up) (FU a1 fs.length c1) (I0 id) (I0 ep) (FU a2 ts.length c2) (I0 dn) (I0 tz) (FU a3 tns.length c3) (FU a4 tss.length c4) (FU a5 ws.length c5));have Q2:=G8 (OA (G7 O2) (G7 S2) (.bool up) (FU a1 fs.length c1) (I0 id) (I0 ep) (FU a2 ts.length c2) (I0 dn) (I0 tz) (FU a3 tns.length c3) (FU a4 tss.length c4) (FU a5 ws.length c5));have Q3:=G8 (OA (G7 O3) (G7 S3) (.bool up) (FU a1 fs.length c1) (I0 id) (I0 ep) (FU a2 ts.length c2) (I0 dn) (I0 tz) (FU a3 tns.length c3) (FU a4 tss.length c4) (FU a5 ws.length c5));have Q4:=G8 (OA (G7 O4) (G7 S4) (.bool up) (FU a1 fs.length c1) (I0 id) (I0 ep) (FU a2 ts.length c2) (I0 dn) (I0 tz) (FU a3 tns.length c3) (FU a4 tss.length c4) (FU a5 ws.length c5))
 have Q5:=G8 (OA (G7 O5) (G7 S5) (.bool up) (FU a1 fs.length c1) (I0 id) (I0 ep) (FU a2 ts.length c2) (I0 dn) (I0 tz) (FU a3 tns.length c3) (FU a4 tss.length c4) (FU a5 ws.length c5));clear Y5b O1 O2 O3 O4 O5;go_wp2_with fail;refine bodyPost_ret (v:=.agg #[.bool up,FU a1 fs.length c1,I0 id,I0 ep,FU a2 ts.length c2,I0 dn,I0 tz,FU a3 tns.length c3,FU a4 tss.length c4,FU a5 ws.length c5]) (by simp[results,results97,go_sem,r0,r1,r2,r3,r4,r5,r6,r7,r8,r9]) rfl ?_;have k1:=G7 K1;have k2:=G7 K2;have k3:=G7 K3;have k4:=G7 K4;have z1:=G7 Z1;exact⟨a1,fs.length,c1,a2,c2,a3,c3,a4,c4,a5,c5,V1.heap.size,V2.heap.size,rfl,by omega,k2,(G7 Q1).lower z1,fun k hk=>(G7 L1) ▸ G7 b1 k hk,G7 Q2,fun k hk=>(G7 L2) ▸ G7 b2 k hk,G7 Q3,(G7 Q4).lower k3,(G7 Q5).lower (BO k3 k4),G7 HF⟩
noncomputable def Z7(fs:List DF):Int:=J4 (gQ (WE fs JI).1)
theorem B40(fs:List DF)(name:List UInt8)(h:(WE fs name).2≠0):(WE fs name).1=[]:=by
 rcases jT fs name with⟨E,h'⟩|⟨g,A,f,B,T⟩
 .cases hg:VH fs with
  |false=>rw[jX hg]
  |true=>
   cases hl:A06 fs name with
   |none=>simp[WE,hg,hl]
   |some f=>simp[WE,hg,hl]at h
 .rw[VK g T]at h;exact absurd rfl h
theorem AN1(h:(WE fs JI).2≠0):Z7 fs=0:=by
 rw[Z7,B40 fs JI h,vG,VJ]
theorem AN2(v:FX)(fs:List DF)(w:FW)(hv:IV w v fs)(hs:mW fs):
  FZ prog 51 #[.agg #[v]] w (R0 w (I0 (Z7 fs))):=by
 have CR:=fun W (h:IV W v fs)=>(show FZ prog 70 #[.agg #[v],.string ⟨#[101,112,111,99,104]⟩] W _ from BJ2 v fs JI W h hs);have hl:=AZ4 fs JI;unfold Z7;generalize WE fs JI=R at*;obtain⟨s,E⟩:=R;simp only at CR hl⊢;have CZ:=fun W=>B39 s W (by omega);have CE:=fun W=>PZ (gQ s) W;generalize gQ s=z at*;generalize jQ s=ze at*;have HV:=G8 hv;obtain⟨a,n,c,rfl⟩:=IZ hv;clear hv hs hl;go_enter func51,ntmps51;go_wp2_with fail;refine(CR _ ((G7 HV).next (G9 _ _))).mono ?_;rintro e w1 ⟨rfl,hb1⟩;have hB1:=GX hb1;clear hb1 CR;go_wp2_with fail;refine(CZ _).mono ?_;rintro e w2 ⟨rfl,hb2⟩;have hB2:=GH hB1 hb2;clear hb2 hB1 CZ;go_wp2_with fail;refine(CE _).mono ?_;rintro e w3 ⟨rfl,rfl⟩;go_wp2_with fail;go_ret;exact⟨rfl,hB2⟩
structure CF4(w W:FW)(v:FX):Prop where
 below:B0 w W
 d:KL W w.heap.size v
 r:IG W (w.heap.size+1) false (N0) 0 0 (N0) 0 0 (N0) (N0) (N0)
theorem CF4.next(h:CF4 w W v)(hb:B0 W V):CF4 w V v:=⟨GH h.below hb,h.d.next hb,h.r.next hb⟩
theorem CF4.start(w:FW)(v:FX):CF4 w ((w.alloc (FV #[v] 30)).alloc (FV #[.bool false,N0,I0 0,I0 0,N0,I0 0,I0 0,N0,N0,N0] 40)) v:=by
 refine⟨GH (G9 _ _) (G9 _ _),(KL.new w v).next (G9 _ _),?_⟩;have h:=IG.new (w.alloc (FV #[v] 30)) false 0 0 0 0 (N0) (N0) (N0) (N0) (N0);rw[show (w.alloc (FV #[v] 30)).heap.size=w.heap.size+1 by simp]at h;exact h
def CL1(w:FW)(e:Ending)(w':FW):Prop:=
 ∃an cn ai ci,e=.returned (.agg #[I0 0,FU an 1 cn,FU ai 0 ci])/\Hid (IL w' (FU an 1 cn) QL.ns)/\Hid (GZ w' w.heap.size (FU ai 0 ci) QL.ss)/\B0 w w'
theorem wV{w':FW}{e:Ending}(h:B26 w QL e w'):CL1 w e w':=by
 obtain⟨vn,vs,rfl,h1,h2,h3⟩:=h;obtain⟨an,cn,rfl,_⟩:=h1.slice;obtain⟨ai,ci,rfl,_⟩:=h2.slice;exact⟨an,cn,ai,ci,rfl,h1.seq,h2,h3⟩
theorem AC1(v:FX)(fs d:List DF)(ts:List GN)(id:Int)(w:FW)(hv:IV w v fs)(hs:mW fs)(h0:0<=id)(h1:id<3)(G:oM 50 (fun x=>#[x]) fs ts d 0):
  FZ prog 31 #[I0 id,.agg #[v]] w (bG w ⟨true,d,id,Z7 fs,ts,0,QL,[]⟩ 0):=by
 have CE:=fun W (hW:B0 w W)=>AN2 v fs W (hv.next hW) hs;generalize Z7 fs=ep at*;have HV:=G8 hv;have HG:=G8 G;obtain⟨a,n,c,rfl⟩:=IZ hv;clear hv G hs;go_enter func31,ntmps31;go_upto_region 2 with fail;have X:=G8 (CF4.start w (FU a n c));generalize (w.alloc (FV #[FU a n c] 30)).alloc (FV #[.bool false,N0,I0 0,I0 0,N0,I0 0,I0 0,N0,N0,N0] 40)=W0 at*;go_wp2_with fail;refine(G7 HG _ _ ((G7 HV).next (G7 X).below)).mono ?_;rintro e w1 ⟨al,kl,cl,a1,n1,c1,rfl,HL1,HD1,hb1⟩;have X1:=G8 (((G7 X).next hb1).next (G9 w1 (FV #[FU a1 n1 c1] 30)));have A1:=G8 (KL.new w1 (FU a1 n1 c1));have L1:=G8 ((G7 HL1).next (G9 w1 (FV #[FU a1 n1 c1] 30)));have D1:=G8 ((G7 HD1).next (G9 w1 (FV #[FU a1 n1 c1] 30)));have cd1:=(G7 X1).d.c;clear hb1 X HL1 HD1 HG;go_wp2_with fail;generalize w1.alloc (FV #[FU a1 n1 c1] 30)=W1 at*;refine(CE _ (G7 X1).below).mono ?_;rintro e w2 ⟨rfl,hb2⟩;have hal:=G9 w2 (FV #[I0 id,I0 ep,FU al kl cl,I0 0] 33);have X2:=G8 (((G7 X1).next hb2).next hal);have A2:=G8 (((G7 A1).next hb2).next hal);have L2:=G8 (((G7 L1).next hb2).next hal);have D2:=G8 (((G7 D1).next hb2).next hal);have P2:=G8 (heap_alloc_new w2 (FV #[I0 id,I0 ep,FU al kl cl,I0 0] 33));clear hb2 hal X1 A1 L1 D1 CE cd1 HV;go_upto_region 7 with fail;generalize w1.heap.size=q1 at*;generalize w2.heap.size=q2 at*;generalize w2.alloc (FV #[I0 id,I0 ep,FU al kl cl,I0 0] 33)=W2 at*;have keep:∀V,B0 W2 V->V.cell? ⟨q1,0,G5⟩=G6 (FU a1 n1 c1)/\V.cell? ⟨q2,0,G5⟩=G6 (I0 id)/\V.cell? ⟨q2,1,G5⟩=G6 (I0 ep)/\V.cell? ⟨q2,2,G5⟩=G6 (FU al kl cl)/\V.cell? ⟨q2,3,G5⟩=G6 (I0 0):=by
  intro V hV;have h2:=G7 P2;have h3:V.heap[q2]?=G6 (FV #[I0 id,I0 ep,FU al kl cl,I0 0] 33):=(hV.block q2 (Array.getElem?_eq_some_iff.1 h2).1).trans h2;refine⟨((G7 A2).next hV).c,?_,?_,?_,?_⟩<;>simp[World.cell?,h3]
 have HK:=G8 keep;have HT:=G8 (fun W=>(AB1 W).mono fun _ _ h=>wV h);clear keep;obtain⟨k0,k1,k2,k3,k4⟩:=G7 HK _ (AA _ _)
 go_region_with (first
  |(go_at_call 52;refine(G7 HT _).mono ?_;rintro e w3 ⟨an,cn,ai,ci,rfl,ON,OI,hb3⟩;have B3:=G8 (IB hb3);have X3:=G8 ((G7 X2).next (G7 B3));obtain⟨r0,r1,r2,r3,r4,r5,r6,r7,r8,r9⟩:=(G7 X3).r.cells;have rf0:=(G7 X3).r.GU 0;have rf1:=(G7 X3).r.GU 1;have rf2:=(G7 X3).r.GU 2;have rf3:=(G7 X3).r.GU 3;have rf4:=(G7 X3).r.GU 4;have rf5:=(G7 X3).r.GU 5;have rf6:=(G7 X3).r.GU 6;have rf7:=(G7 X3).r.GU 7;have rf8:=(G7 X3).r.GU 8;have rf9:=(G7 X3).r.GU 9;obtain⟨m0,m1,m2,m3,m4⟩:=G7 HK _ (G7 B3);clear hb3))
 all_goals
  go_wp2_with fail;refine bodyPost_ret (v:=.tuple #[.agg #[.bool true,FU a1 n1 c1,I0 id,I0 ep,FU al kl cl,I0 0,I0 0,FU an 1 cn,FU ai 0 ci,N0],I0 0]) (by simp[results,results31,go_sem,r0,r1,r2,r3,r4,r5,r6,r7,r8,r9]) rfl ⟨_,rfl,?_,JL (G7 X3).below (by omega) _ _ _ _ _ _ _ _ _ _⟩;exact bI (s:=⟨true,d,id,ep,ts,0,QL,[]⟩) (G7 X3).r.gU ((G7 D2).next (G7 B3)) ((G7 L2).next (G7 B3)) (G7 ON) (G7 OI).seq (YK (G7 OI) (G7 X2).r.lt) (IL.nil _)
theorem CB.zero{up:Bool}{id ep dn z:Int}{vd vl vn vs vw:FX}(h:CB w W up vd id ep vl dn z vn vs vw):B0 w (OG W (w.heap.size+1) (.bool false) (N0) (I0 0) (I0 0) (N0) (I0 0) (I0 0) (N0) (N0) (N0)):=JL h.below (by omega) _ _ _ _ _ _ _ _ _ _
theorem AN6(s:Sv)(v:FX)(d:List DF)(keep E:Int)(w:FW)(hv:SvV w v s)(hE:E≠0)(G:NG 90 (fun x=>#[x,I0 keep]) s.fs d E):
  FZ prog 62 #[v,I0 keep] w (bG w sv0 E):=by
 obtain⟨ad,nd,cd,al,cl,an,cn,ai,ci,aw,cw,rfl,d1,l1,n1,s1,k1⟩:=hv.five;have HD:=G8 (fun W (hW:B0 w W)=>G _ W (d1.next hW));clear hv d1 l1 n1 s1 k1 G;obtain⟨up,fs,id,ep,ts,dn,⟨tz,tns,tss⟩,ws⟩:=s;simp only at*;have hne:(E !=0)=true:=by simpa using hE
 clear hE;go_enter func62,ntmps62;go_wp2_with fail;have X0:=CB.start w up id ep dn tz (FU ad nd cd) (FU al ts.length cl) (FU an tns.length cn) (FU ai tss.length ci) (FU aw ws.length cw);generalize (w.alloc (FV #[.bool up,FU ad nd cd,I0 id,I0 ep,FU al ts.length cl,I0 dn,I0 tz,FU an tns.length cn,FU ai tss.length ci,FU aw ws.length cw] 40)).alloc (FV #[.bool false,N0,I0 0,I0 0,N0,I0 0,I0 0,N0,N0,N0] 40)=W0 at*;have HX0:=G8 X0;obtain⟨x0,x1,x2,x3,x4,x5,x6,x7,x8,x9⟩:=X0.s.cells;clear X0;refine(G7 HD _ (G7 HX0).below).mono ?_;rintro e w1 ⟨a1,n1,c1,rfl,D1,hb1⟩;have hal:=G9 w1 (FV #[FU a1 n1 c1] 30);have X1:=G8 (((G7 HX0).next hb1).next hal);have A1:=G8 (KL.new w1 (FU a1 n1 c1));have F1:=G8 ((G7 D1).next hal);clear hb1 hal HX0 HD D1 x0 x1 x2 x3 x4 x5 x6 x7 x8 x9;go_upto_region 3 with fail;generalize w1.alloc (FV #[FU a1 n1 c1] 30)=W1 at*;obtain⟨r0,r1,r2,r3,r4,r5,r6,r7,r8,r9⟩:=(G7 X1).r.cells;have rf0:=(G7 X1).r.GU 0;have rf1:=(G7 X1).r.GU 1;have rf2:=(G7 X1).r.GU 2;have rf3:=(G7 X1).r.GU 3;have rf4:=(G7 X1).r.GU 4;have rf5:=(G7 X1).r.GU 5;have rf6:=(G7 X1).r.GU 6;have rf7:=(G7 X1).r.GU 7;have rf8:=(G7 X1).r.GU 8;have rf9:=(G7 X1).r.GU 9;go_wp2_with fail;exact bodyPost_ret (v:=.tuple #[.agg #[.bool false,N0,I0 0,I0 0,N0,I0 0,I0 0,N0,N0,N0],I0 E]) (by simp[results,results62,go_sem,r0,r1,r2,r3,r4,r5,r6,r7,r8,r9]) rfl (AJ9 rfl (G7 X1).zero)
theorem B48(s:Sv)(v:FX)(d:List DF)(keep:Int)(w:FW)(hv:SvV w v s)(G:NG 90 (fun x=>#[x,I0 keep]) s.fs d 0):
  FZ prog 62 #[v,I0 keep] w (bG w ⟨false,d,s.id,0,[],0,QL,[]⟩ 0):=by
 obtain⟨ad,nd,cd,al,cl,an,cn,ai,ci,aw,cw,rfl,d1,l1,n1,s1,k1⟩:=hv.five;have HD:=G8 (fun W (hW:B0 w W)=>G _ W (d1.next hW));clear hv d1 l1 n1 s1 k1 G;obtain⟨up,fs,id,ep,ts,dn,⟨tz,tns,tss⟩,ws⟩:=s;simp only at*;go_enter func62,ntmps62;go_wp2_with fail;have X0:=CB.start w up id ep dn tz (FU ad nd cd) (FU al ts.length cl) (FU an tns.length cn) (FU ai tss.length ci) (FU aw ws.length cw);generalize (w.alloc (FV #[.bool up,FU ad nd cd,I0 id,I0 ep,FU al ts.length cl,I0 dn,I0 tz,FU an tns.length cn,FU ai tss.length ci,FU aw ws.length cw] 40)).alloc (FV #[.bool false,N0,I0 0,I0 0,N0,I0 0,I0 0,N0,N0,N0] 40)=W0 at*;have HX0:=G8 X0;obtain⟨x0,x1,x2,x3,x4,x5,x6,x7,x8,x9⟩:=X0.s.cells;clear X0;refine(G7 HD _ (G7 HX0).below).mono ?_;rintro e w1 ⟨a1,n1,c1,rfl,D1,hb1⟩;have hal:=G9 w1 (FV #[FU a1 n1 c1] 30);have X1:=G8 (((G7 HX0).next hb1).next hal);have A1:=G8 (KL.new w1 (FU a1 n1 c1));have F1:=G8 ((G7 D1).next hal);clear hb1 hal HX0 HD D1 x0 x1 x2 x3 x4 x5 x6 x7 x8 x9;go_upto_region 4 with fail;generalize w1.heap.size=q1 at*;generalize w1.alloc (FV #[FU a1 n1 c1] 30)=W1 at*;have keep:∀V,B0 W1 V->V.cell? ⟨q1,0,G5⟩=G6 (FU a1 n1 c1)/\V.cell? ⟨w.heap.size,2,G5⟩=G6 (I0 id):=fun V hV=>⟨((G7 A1).next hV).c,((G7 X1).s.next hV).cells.2.2.1⟩;have HK:=G8 keep;have HT:=G8 (fun W=>(AB1 W).mono fun _ _ h=>wV h);clear keep;obtain⟨k0,k1⟩:=G7 HK _ (AA _ _)
 go_region_with (first
  |(go_at_call 52;refine(G7 HT _).mono ?_;rintro e w3 ⟨bn,en,bi,ei,rfl,ON,OI,hb3⟩;have B3:=G8 (IB hb3);have X3:=G8 ((G7 X1).next (G7 B3));obtain⟨r0,r1,r2,r3,r4,r5,r6,r7,r8,r9⟩:=(G7 X3).r.cells;have rf0:=(G7 X3).r.GU 0;have rf1:=(G7 X3).r.GU 1;have rf2:=(G7 X3).r.GU 2;have rf3:=(G7 X3).r.GU 3;have rf4:=(G7 X3).r.GU 4;have rf5:=(G7 X3).r.GU 5;have rf6:=(G7 X3).r.GU 6;have rf7:=(G7 X3).r.GU 7;have rf8:=(G7 X3).r.GU 8;have rf9:=(G7 X3).r.GU 9;obtain⟨m0,m1⟩:=G7 HK _ (G7 B3);clear hb3))
 all_goals
  go_wp2_with fail;refine bodyPost_ret (v:=.tuple #[.agg #[.bool false,FU a1 n1 c1,I0 id,I0 0,N0,I0 0,I0 0,FU bn 1 en,FU bi 0 ei,N0],I0 0]) (by simp[results,results62,go_sem,r0,r1,r2,r3,r4,r5,r6,r7,r8,r9]) rfl ⟨_,rfl,?_,JL (G7 X3).below (by omega) _ _ _ _ _ _ _ _ _ _⟩;exact bI (s:=⟨false,d,id,0,[],0,QL,[]⟩) (G7 X3).r.gU ((G7 F1).next (G7 B3)) (NC.nil _) (G7 ON) (G7 OI).seq (YK (G7 OI) (G7 X1).r.lt) (IL.nil _)
def OB(B:Nat)(v:FX):Prop:=∀b off n c,v=FU (G6 ⟨b,off,G5⟩) n c->B<=b
theorem OB.lower{C:Nat}(h:OB B v)(hc:C<=B):OB C v:=fun b off n c e=>BO hc (h b off n c e)
theorem UO(B n c:Nat):OB B (FU G5 n c):=fun b off n' c' e=>by simp at e
theorem B49(h:YG W B v fs):OB B v:=by
 intro b off n c e;rcases h with⟨rfl,_⟩|⟨g,cap,rfl,hB,_⟩
 .simp at e
 .simp only[Value.slice.injEq,Option.some.injEq,Addr.mk.injEq]at e;omega
def ZA(f:FuncId)(args:FX->Array FX)(fs d:List DF)(E:Int):Prop:=∀v W,IV W v fs->FZ prog f (args (.agg #[v])) W fun e w'=>∃a n c,e=.returned (.tuple #[.agg #[FU a n c],.int .i64 E])/\Hid (IV w' (FU a n c) d/\OB W.heap.size (FU a n c))/\Below W.heap.size W w'
theorem eH{f:FuncId}{args:FX->Array FX}{d:List DF}(h:∀v W,IV W v fs->FZ prog f (args (.agg #[v])) W fun e w'=>∃v',e=.returned (.tuple #[.agg #[v'],.int .i64 0])/\YG w' W.heap.size v' d/\Below W.heap.size W w'):ZA f args fs d 0:=
 fun v W hv=>(h v W hv).mono fun _ w' ⟨v',he,ho,hb⟩=>by
  obtain⟨a,n,c,rfl⟩:=IZ ho.disk;exact⟨a,n,c,he,⟨ho.disk,B49 ho⟩,hb⟩
theorem AN7(fs d1:List DF)(t:GN)(hg:gdE t=0)(W1:ZA 71 (fun x=>#[x,.string ⟨NV.toArray⟩,.string ⟨(QV t).toArray⟩]) fs d1 0):ZA 147 (fun x=>#[x,J9 t,.bool false]) fs d1 0:=by
 intro v w hv;have C:=fun W=>eG t W hg;have CW:=fun W (h:Below w.heap.size w W)=>W1 v W (hv.next h);simp only[show NV.toArray=#[108,111,103]from rfl]at CW;generalize QV t=rb at*;obtain⟨a,n,c,rfl⟩:=IZ hv;obtain⟨z,o,s,p,d,y,u⟩:=t;unfold J9 at C⊢;clear hv hg W1;go_enter func147,ntmps147;go_wp2_with fail;have X:=G8 (C66.start w (FU a n c) (FV #[.int .i64 z,.int .i64 o,.int .i64 s,.string ⟨p.toArray⟩,.string ⟨d.toArray⟩,.int .i64 y,.int .i64 u] 79));generalize ((w.alloc (FV #[FU a n c] 30)).alloc (FV #[.int .i64 z,.int .i64 o,.int .i64 s,.string ⟨p.toArray⟩,.string ⟨d.toArray⟩,.int .i64 y,.int .i64 u] 79)).alloc (FV #[FU G5 0 0] 30)=W0 at*;refine(C _).mono ?_;rintro e w1 ⟨rfl,hb1⟩;have X1:=(G7 X).next hb1;have cd:=X1.d.c;have HX1:=G8 X1;clear hb1 X C X1;go_wp2_with fail;refine(CW _ (G7 HX1).below).mono ?_;rintro e w2 ⟨a2,n2,c2,rfl,HF2,hb2⟩;have HD2:=G8 (G7 HF2).1;have FR2:=G8 ((G7 HF2).2.lower (G7 HX1).below.size);clear HF2;have hal:=(AA w2.heap.size w2).alloc (A8 _) (FV #[FU a2 n2 c2] 30);have X2:=((G7 HX1).next hb2).next hal;have HD3:=G8 ((G7 HD2).next hal);have hz2:=((G7 HX1).next hb2).r.lt;have hnz:w.heap.size+1+1≠w2.heap.size:=by omega
 have cr2:=X2.r.c;have fr2:=X2.r.f;have X1b:=(G7 HX1).next hb2;have hS:=X1b.below.setCell (p:=⟨w.heap.size+1+1,0,G5⟩) (by show w.heap.size<=w.heap.size+1+1;omega) (FU a2 n2 c2);have hF1:=hS.alloc (by have:=hS.size;exact this) (FV #[FU a2 n2 c2] 30);have cw:=(((X1b.r.set (FU a2 n2 c2)).next ((AA _ _).alloc (A8 _) (FV #[FU a2 n2 c2] 30)))).c;have HF:=G8 (And.intro hF1 ((QG (G7 HD2) X1b.r (FU a2 n2 c2)).alloc (FV #[FU a2 n2 c2] 30)));have HCw:=G8 cw;clear hb2 hal X2 HX1 HD2 CW cd X1b hS hF1 cw;go_wp2_with fail;exact bodyPost_ret (v:=.tuple #[.agg #[FU a2 n2 c2],.int .i64 0]) (by simp[results,results147,go_sem,G7 HCw]) rfl ⟨_,_,_,rfl,G8 ⟨(G7 HF).2,G7 FR2⟩,(G7 HF).1⟩
theorem oN(fs d1 d2:List DF)(t:GN)(E2:Int)(hg:gdE t=0)(W1:NG 71 (fun x=>#[x,.string ⟨NV.toArray⟩,.string ⟨(QV t).toArray⟩]) fs d1 0)(S1:ZA 138 (fun x=>#[x,.string ⟨NV.toArray⟩]) d1 d2 E2):ZA 147 (fun x=>#[x,J9 t,.bool true]) fs d2 E2:=by
 intro v w hv;have C:=fun W=>eG t W hg;have CW:=fun W (h:Below w.heap.size w W)=>W1 v W (hv.next h);have HCS:=G8 S1;simp only[show NV.toArray=#[108,111,103]from rfl]at CW;generalize QV t=rb at*;simp only[show NV.toArray=#[108,111,103]from rfl]at HCS;obtain⟨a,n,c,rfl⟩:=IZ hv;obtain⟨z,o,s,p,d,y,u⟩:=t;unfold J9 at C⊢;clear hv hg W1 S1;go_enter func147,ntmps147;go_wp2_with fail;have X:=G8 (C66.start w (FU a n c) (FV #[.int .i64 z,.int .i64 o,.int .i64 s,.string ⟨p.toArray⟩,.string ⟨d.toArray⟩,.int .i64 y,.int .i64 u] 79));generalize ((w.alloc (FV #[FU a n c] 30)).alloc (FV #[.int .i64 z,.int .i64 o,.int .i64 s,.string ⟨p.toArray⟩,.string ⟨d.toArray⟩,.int .i64 y,.int .i64 u] 79)).alloc (FV #[FU G5 0 0] 30)=W0 at*;refine(C _).mono ?_;rintro e w1 ⟨rfl,hb1⟩;have X1:=(G7 X).next hb1;have cd:=X1.d.c;have HX1:=G8 X1;clear hb1 X C X1;go_wp2_with fail;refine(CW _ (G7 HX1).below).mono ?_;rintro e w2 ⟨a2,n2,c2,rfl,HD2,hb2⟩;have hal:=(AA w2.heap.size w2).alloc (A8 _) (FV #[FU a2 n2 c2] 30);have X2:=((G7 HX1).next hb2).next hal;have HD3:=G8 ((G7 HD2).next hal);have hz2:=((G7 HX1).next hb2).r.lt;have hnz:w.heap.size+1+1≠w2.heap.size:=by omega
 have cr2:=X2.r.c;have fr2:=X2.r.f;have HX2:=G8 X2;clear hb2 hal X2 HX1 HD2 CW cd;go_wp2_with fail;refine(G7 HCS _ _ (G7 HD3)).mono ?_;rintro e w4 ⟨a4,n4,c4,rfl,HF4,hb4⟩;have HD4:=G8 (G7 HF4).1;have FR4:=G8 ((G7 HF4).2.lower (G7 HX2).below.size);clear HF4;have X4:=(G7 HX2).next hb4;have cr4:=X4.r.c;have fr4:=X4.r.f;have HF:=G8 (And.intro (X4.below.setCell (p:=⟨w.heap.size+1+1,0,G5⟩) (by show w.heap.size<=w.heap.size+1+1;omega) (FU a4 n4 c4)) (QG (G7 HD4) X4.r (FU a4 n4 c4)));clear hb4 X4 HX2 HD3 HD4 HCS;go_wp2_with fail;exact bodyPost_ret (v:=.tuple #[.agg #[FU a4 n4 c4],.int .i64 E2]) (by simp[results,results147,go_sem,cr4]) rfl ⟨_,_,_,rfl,G8 ⟨(G7 HF).2,G7 FR4⟩,(G7 HF).1⟩
def oO(w:FW)(E:Int)(e:Ending)(w':FW):Prop:=e=.returned (.tuple #[svZ,I0 E])/\B0 w w'
theorem kQ{w':FW}{E:Int}{e:Ending}(he:e=.returned (.tuple #[svZ,I0 E]))(hb:B0 w w'):oO w E e w':=⟨he,hb⟩
structure EB(w W:FW)(up:Bool)(vd:FX)(id ep:Int)(vl:FX)(dn z:Int)(vn vs vw:FX)(x:GN):Prop where
 s:IG W w.heap.size up vd id ep vl dn z vn vs vw
 x:TAt W (w.heap.size+1) x
 r:IG W (w.heap.size+1+1) false (N0) 0 0 (N0) 0 0 (N0) (N0) (N0)
section
variable {w W V:FW} {up:Bool} {id ep dn z:Int} {vd vl vn vs vw:FX} {x:GN}
theorem EB.next(h:EB w W up vd id ep vl dn z vn vs vw x)(hb:B0 W V):EB w V up vd id ep vl dn z vn vs vw x:=⟨h.s.next hb,h.x.next hb,h.r.next hb⟩
theorem EB.lt(h:EB w W up vd id ep vl dn z vn vs vw x):w.heap.size+3<=W.heap.size:=h.r.lt
theorem EB.put(h:EB w W up vd id ep vl dn z vn vs vw x)(j:Nat)(u:FX){vd' vl' vn' vs' vw':FX}(e:(#[.bool up,vd,I0 id,I0 ep,vl,I0 dn,I0 z,vn,vs,vw]:Array FX).setIfInBounds j u=#[.bool up,vd',I0 id,I0 ep,vl',I0 dn,I0 z,vn',vs',vw']):EB w (W.setCell ⟨w.heap.size,j,G5⟩ u) up vd' id ep vl' dn z vn' vs' vw' x:=by
 refine⟨?_,(BG W ⟨w.heap.size,j,G5⟩ u _ (by simp)).trans h.x,h.r.other (by omega)⟩;unfold IG;rw[GV u h.s,e]
theorem EB.touch(h:EB w W up vd id ep vl dn z vn vs vw x)(ht:Touch F W V)(hF:∀k,w.heap.size<=k->k<w.heap.size+3->¬F k):EB w V up vd id ep vl dn z vn vs vw x:=by
 have hl:=h.lt;exact⟨(ht.block _ (by omega) (hF _ (by omega) (by omega))).trans h.s,(ht.block _ (by omega) (hF _ (by omega) (by omega))).trans h.x,(ht.block _ (by omega) (hF _ (by omega) (by omega))).trans h.r⟩
theorem EB.start(w:FW)(up:Bool)(id ep dn z:Int)(vd vl vn vs vw:FX)(x:GN):EB w (((w.alloc (FV #[.bool up,vd,I0 id,I0 ep,vl,I0 dn,I0 z,vn,vs,vw] 40)).alloc (FV #[I0 x.z,I0 x.o,I0 x.s,S0 x.p,S0 x.d,I0 x.v,I0 x.w] 79)).alloc (FV #[.bool false,N0,I0 0,I0 0,N0,I0 0,I0 0,N0,N0,N0] 40)) up vd id ep vl dn z vn vs vw x:=by
 refine⟨((IG.new w up id ep dn z vd vl vn vs vw).next (G9 _ _)).next (G9 _ _),?_,?_⟩
 .have h:=(TAt.new (w.alloc (FV #[.bool up,vd,I0 id,I0 ep,vl,I0 dn,I0 z,vn,vs,vw] 40)) x).next (G9 _ (FV #[.bool false,N0,I0 0,I0 0,N0,I0 0,I0 0,N0,N0,N0] 40));rw[show (w.alloc (FV #[.bool up,vd,I0 id,I0 ep,vl,I0 dn,I0 z,vn,vs,vw] 40)).heap.size=w.heap.size+1 by simp]at h;exact h
 .have h:=IG.new ((w.alloc (FV #[.bool up,vd,I0 id,I0 ep,vl,I0 dn,I0 z,vn,vs,vw] 40)).alloc (FV #[I0 x.z,I0 x.o,I0 x.s,S0 x.p,S0 x.d,I0 x.v,I0 x.w] 79)) false 0 0 0 0 (N0) (N0) (N0) (N0) (N0);rw[show ((w.alloc (FV #[.bool up,vd,I0 id,I0 ep,vl,I0 dn,I0 z,vn,vs,vw] 40)).alloc (FV #[I0 x.z,I0 x.o,I0 x.s,S0 x.p,S0 x.d,I0 x.v,I0 x.w] 79)).heap.size=w.heap.size+1+1 by simp]at h;exact h
theorem EB.AC2(w:FW)(a b c:Obj):B0 w (((w.alloc a).alloc b).alloc c):=GH (GH (G9 _ _) (G9 _ _)) (G9 _ _)
end
theorem Touch.XO(h:Touch F w W){j:Nat}(hk:w.heap.size<=k)(u:FX):Touch F w (W.setCell ⟨k,j,G5⟩ u):=
 ⟨h.os,h.tape,h.output,by simpa [World.setCell]using h.size,fun i hi hf=>(BG W ⟨k,j,G5⟩ u i (by simp only;omega)).trans (h.block i hi hf)⟩
theorem IC.touch{b off:Nat}{cs:List FX}(h:IC W b off cs)(ht:Touch F W V)(hb:b<W.heap.size)(hf:¬F b):IC V b off cs:=fun i v hi=>by
 rw[World.cell?,ht.block b hb hf];exact h i v hi
theorem AN8(h:IV W v fs)(ht:Touch F W V)(hf:∀b off n c,v=FU (G6 ⟨b,off,G5⟩) n c->¬F b):IV V v fs:=by
 rcases h with h|⟨b,off,cap,rfl,h1,h2,h3,h0,h4⟩
 .exact .inl h
 .exact .inr ⟨b,off,cap,rfl,h1,h2,Nat.lt_of_lt_of_le h3 ht.size,h0,h4.touch ht h3 (hf b off _ cap rfl)⟩
theorem oP(hk:dH W k){up:Bool}{id ep dn z:Int}{ad al an ai aw:Option Addr}{nd cd nl cl nn cn ni ci nw cw:Nat}(h:IV W v fs):
  IV (OG W k (.bool up) (FU ad nd cd) (I0 id) (I0 ep) (FU al nl cl) (I0 dn) (I0 z) (FU an nn cn) (FU ai ni ci) (FU aw nw cw)) v fs:=by
 have one:∀ {W:FW} {j:Nat} {u:FX},(∀t,u≠ .string t)->dH W k->IV W v fs->dH (W.setCell ⟨k,j,G5⟩ u) k/\IV (W.setCell ⟨k,j,G5⟩ u) v fs:=fun hu hk h=>⟨hk.set hu,SN h hk _⟩;obtain⟨k0,h0⟩:=one (j:=0) (u:=.bool up) (by simp) hk h;obtain⟨k1,h1⟩:=one (j:=1) (u:=FU ad nd cd) (by simp) k0 h0;obtain⟨k2,h2⟩:=one (j:=2) (u:=I0 id) (by simp) k1 h1;obtain⟨k3,h3⟩:=one (j:=3) (u:=I0 ep) (by simp) k2 h2;obtain⟨k4,h4⟩:=one (j:=4) (u:=FU al nl cl) (by simp) k3 h3;obtain⟨k5,h5⟩:=one (j:=5) (u:=I0 dn) (by simp) k4 h4;obtain⟨k6,h6⟩:=one (j:=6) (u:=I0 z) (by simp) k5 h5;obtain⟨k7,h7⟩:=one (j:=7) (u:=FU an nn cn) (by simp) k6 h6;obtain⟨k8,h8⟩:=one (j:=8) (u:=FU ai ni ci) (by simp) k7 h7;exact(one (j:=9) (u:=FU aw nw cw) (by simp) k8 h8).2
theorem XP[Lay α]{xs:List α}(h:GZ W B v xs)(hk:v.ownBlock≠G6 k)(x0 x1 x2 x3 x4 x5 x6 x7 x8 x9:FX):GZ (OG W k x0 x1 x2 x3 x4 x5 x6 x7 x8 x9) B v xs:=
 (((((((((h.other hk x0).other hk x1).other hk x2).other hk x3).other hk x4).other hk x5).other hk x6).other hk x7).other hk x8).other hk x9
theorem A29(h:Touch F w W)(hk:w.heap.size<=k)(x0 x1 x2 x3 x4 x5 x6 x7 x8 x9:FX):Touch F w (OG W k x0 x1 x2 x3 x4 x5 x6 x7 x8 x9):=
 (((((((((h.XO hk x0).XO hk x1).XO hk x2).XO hk x3).XO hk x4).XO hk x5).XO hk x6).XO hk x7).XO hk x8).XO hk x9
theorem VN{w:FW}{ops:Array Oper}{o:Oper}{a:Act}{K:Act->FW->Prop}{Q:Exit->Act->FW->Prop}{E:Prop}(hgd:Region.wanted o (yielded ops a.tmps)=true)(s x:Operand)
  (ho:o.op=.call {callee:=.builtin .append,args:=#[s,x],argTypes:=#[31,31]})
  (B:Nat) (hB:B<=w.heap.size) (v:FX) (es:List GN) (hs:a.eval s=v) (hown:GZ w B v es)
  (q:Nat) (hx:a.eval x=FU (G6 ⟨q,0,G5⟩) 1 1) (t:GN) (hnews:JQ w q t) (hl:es.length<=1000000000)
  (h:∀a' c' w',GZ w' B (FU a' (es.length+1) c') (es++[t])->w.grownBy w' v.ownBlock->((Value.slice a' (es.length+1) c').ownBlock=v.ownBlock\/(Value.slice a' (es.length+1) c').ownBlock=G6 w.heap.size)->K (a.put o.dst (FU a' (es.length+1) c')) w'):
  if Region.wanted o (yielded ops a.tmps)=true then Oper.wp prog o a w K Q else E:=by
 rw[if_pos hgd];obtain⟨i0,hi0,hz0,hz1,hz2⟩:=qO;obtain⟨v',w',hr,h2,h3,_,h5⟩:=run_append_own_at (P:=prog) w B 31 o.type 79 i0 _ 7 72 underlying31 hi0 hz0 hz1 hz2 rfl (by decide) v es.length (GI es) hown.row ⟨q,0,G5⟩ 1 1 (MW t) rfl (RP hnews) (Lay.one t) (by simp only[maxLen];omega) (by omega) hB;have h2':GZ w' B v' (es++[t]):=GZ.L9 (by rw[List.length_append,JH];exact h2);obtain⟨a',c',rfl,_⟩:=h2'.slice;have hlen:(es++[t]).length=es.length+1:=by simp
 rw[hlen]at h2' hr h5;unfold Oper.wp execOp;simp only[ho,resolve,invoke,builtin,Sem.run_bind,Sem.run_pure,Result.andThen_ok,List.map_toArray,List.map_cons,List.map_nil,hs,hx,hr];exact h a' c' w' h2' h3 h5
theorem iI(w:FW)(t:GN):JQ (w.alloc (FV #[I0 t.z,I0 t.o,I0 t.s,S0 t.p,S0 t.d,I0 t.v,I0 t.w] 79)) w.heap.size t:=heap_alloc_new w _
theorem B50(up:Bool)(id ep dn tz:Int)(fs:List DF)(ts:List GN)(t:GN)(safe:Bool)(vd vl:FX)(an ai aw:Option Addr)(nn cn ni ci nw cw:Nat)(w:FW)(hd:IV w vd fs)(hl:NC w vl ts)(hz:t.z<=J5 ts):
  FZ prog 98 #[.agg #[.bool up,vd,I0 id,I0 ep,vl,I0 dn,I0 tz,FU an nn cn,FU ai ni ci,FU aw nw cw],J9 t,.bool safe] w (oO w 13):=by
 have CL:=G8 (fun W (hW:B0 w W)=>RX vl ts W (hl.next hW));generalize J5 ts=lz at*;obtain⟨ad,nd,cd,rfl⟩:=IZ hd;obtain⟨al,cl,rfl⟩:=MC hl;clear hl;obtain⟨z,o,s,p,d,y,u⟩:=t;unfold J9 at*;simp only at*;go_enter func98,ntmps98;go_upto_region 1 with fail;have X:=G8 (EB.start w up id ep dn tz (FU ad nd cd) (FU al ts.length cl) (FU an nn cn) (FU ai ni ci) (FU aw nw cw) ⟨z,o,s,p,d,y,u⟩);have HB0:=G8 (EB.AC2 w (FV #[.bool up,FU ad nd cd,I0 id,I0 ep,FU al ts.length cl,I0 dn,I0 tz,FU an nn cn,FU ai ni ci,FU aw nw cw] 40) (FV #[I0 z,I0 o,I0 s,S0 p,S0 d,I0 y,I0 u] 79) (FV #[.bool false,N0,I0 0,I0 0,N0,I0 0,I0 0,N0,N0,N0] 40));simp only at X;generalize ((w.alloc (FV #[.bool up,FU ad nd cd,I0 id,I0 ep,FU al ts.length cl,I0 dn,I0 tz,FU an nn cn,FU ai ni ci,FU aw nw cw] 40)).alloc (FV #[I0 z,I0 o,I0 s,S0 p,S0 d,I0 y,I0 u] 79)).alloc (FV #[.bool false,N0,I0 0,I0 0,N0,I0 0,I0 0,N0,N0,N0] 40)=W0 at*
 go_cut [16]from 10 (fun t16 wx=>t16=.bool true/\Hid (B0 W0 wx))
 case first=>
  obtain⟨x0,x1,x2,x3,x4,x5,x6,x7,x8,x9⟩:=(G7 X).s.cells;have t0:=(G7 X).x.c0;simp only at t0
  go_region_with (first
   |(go_at_call 67;refine(G7 CL _ (by first|with_reducible exact(G7 HB0).drew|with_reducible exact G7 HB0)).mono ?_;rintro e w1 ⟨rfl,rfl⟩))
  all_goals go_wp2_with fail
  all_goals go_meet
  all_goals first
   |exact⟨rfl,G8 (AA _ _).drew⟩
   |exact⟨rfl,G8 (AA _ _)⟩
   |exact⟨by simp;omega,G8 (AA _ _).drew⟩
   |exact⟨by simp;omega,G8 (AA _ _)⟩
 case rest=>
  obtain⟨rfl,hbc⟩:=hcut;have X1:=G8 ((G7 X).next (G7 hbc));have HB1:=G8 (GH (G7 HB0) (G7 hbc));clear X HB0 hbc CL;go_upto_region 2 with fail;obtain⟨r0,r1,r2,r3,r4,r5,r6,r7,r8,r9⟩:=(G7 X1).r.cells;have rf0:=(G7 X1).r.GU 0;have rf1:=(G7 X1).r.GU 1;have rf2:=(G7 X1).r.GU 2;have rf3:=(G7 X1).r.GU 3;have rf4:=(G7 X1).r.GU 4;have rf5:=(G7 X1).r.GU 5;have rf6:=(G7 X1).r.GU 6;have rf7:=(G7 X1).r.GU 7;have rf8:=(G7 X1).r.GU 8;have rf9:=(G7 X1).r.GU 9;go_wp2_with fail;exact bodyPost_ret (v:=.tuple #[.agg #[.bool false,N0,I0 0,I0 0,N0,I0 0,I0 0,N0,N0,N0],I0 13]) (by simp[results,results98,go_sem,r0,r1,r2,r3,r4,r5,r6,r7,r8,r9]) rfl (kQ rfl (JL (G7 HB1) (by omega) _ _ _ _ _ _ _ _ _ _))
theorem C67(up:Bool)(id ep dn tz:Int)(fs:List DF)(ts:List GN)(t:GN)(safe:Bool)(vd vl:FX)(an ai aw:Option Addr)(nn cn ni ci nw cw:Nat)(w:FW)(hd:IV w vd fs)(hl:NC w vl ts)(hz:¬t.z<=J5 ts)(E:Int)(d1:List DF)(hE:E≠0)(G:NG 147 (fun x=>#[x,J9 t,.bool safe]) fs d1 E):
  FZ prog 98 #[.agg #[.bool up,vd,I0 id,I0 ep,vl,I0 dn,I0 tz,FU an nn cn,FU ai ni ci,FU aw nw cw],J9 t,.bool safe] w (oO w E):=by
 have HG:=G8 (fun W (hW:B0 w W)=>G _ W (hd.next hW));have hne:(E !=0)=true:=by simpa using hE
 clear G hE;have CL:=G8 (fun W (hW:B0 w W)=>RX vl ts W (hl.next hW));generalize J5 ts=lz at*;obtain⟨ad,nd,cd,rfl⟩:=IZ hd;obtain⟨al,cl,rfl⟩:=MC hl;clear hl;obtain⟨z,o,s,p,d,y,u⟩:=t;unfold J9 at*;simp only at*;go_enter func98,ntmps98;go_upto_region 1 with fail;have X:=G8 (EB.start w up id ep dn tz (FU ad nd cd) (FU al ts.length cl) (FU an nn cn) (FU ai ni ci) (FU aw nw cw) ⟨z,o,s,p,d,y,u⟩);have HB0:=G8 (EB.AC2 w (FV #[.bool up,FU ad nd cd,I0 id,I0 ep,FU al ts.length cl,I0 dn,I0 tz,FU an nn cn,FU ai ni ci,FU aw nw cw] 40) (FV #[I0 z,I0 o,I0 s,S0 p,S0 d,I0 y,I0 u] 79) (FV #[.bool false,N0,I0 0,I0 0,N0,I0 0,I0 0,N0,N0,N0] 40));simp only at X;generalize ((w.alloc (FV #[.bool up,FU ad nd cd,I0 id,I0 ep,FU al ts.length cl,I0 dn,I0 tz,FU an nn cn,FU ai ni ci,FU aw nw cw] 40)).alloc (FV #[I0 z,I0 o,I0 s,S0 p,S0 d,I0 y,I0 u] 79)).alloc (FV #[.bool false,N0,I0 0,I0 0,N0,I0 0,I0 0,N0,N0,N0] 40)=W0 at*
 go_cut [16]from 10 (fun t16 wx=>t16=.bool false/\Hid (B0 W0 wx))
 case first=>
  obtain⟨x0,x1,x2,x3,x4,x5,x6,x7,x8,x9⟩:=(G7 X).s.cells;have t0:=(G7 X).x.c0;simp only at t0
  go_region_with (first
   |(go_at_call 67;refine(G7 CL _ (by first|with_reducible exact(G7 HB0).drew|with_reducible exact G7 HB0)).mono ?_;rintro e w1 ⟨rfl,rfl⟩))
  all_goals go_wp2_with fail
  all_goals go_meet
  all_goals first
   |exact⟨rfl,G8 (AA _ _).drew⟩
   |exact⟨rfl,G8 (AA _ _)⟩
   |exact⟨by simp;omega,G8 (AA _ _).drew⟩
   |exact⟨by simp;omega,G8 (AA _ _)⟩
 case rest=>
  obtain⟨rfl,hbc⟩:=hcut;have X1:=G8 ((G7 X).next (G7 hbc));have HB1:=G8 (GH (G7 HB0) (G7 hbc));clear X HB0 hbc CL;obtain⟨x0,x1,x2,x3,x4,x5,x6,x7,x8,x9⟩:=(G7 X1).s.cells;have t0:=(G7 X1).x.c0;have t1:=(G7 X1).x.c1;have t2:=(G7 X1).x.c2;have t3:=(G7 X1).x.c3;have t4:=(G7 X1).x.c4;have t5:=(G7 X1).x.c5;have t6:=(G7 X1).x.c6;simp only at t0 t1 t2 t3 t4 t5 t6;go_wp2_with fail;refine(G7 HG _ (G7 HB1)).mono ?_;rintro e w2 ⟨a2,n2,c2,rfl,D2,hb2⟩;clear x0 x1 x2 x3 x4 x5 x6 x7 x8 x9 t0 t1 t2 t3 t4 t5 t6;have hal:=G9 w2 (FV #[FU a2 n2 c2] 30);have X2:=G8 (((G7 X1).next hb2).next hal);have HB2:=G8 (GH (GH (G7 HB1) hb2) hal);clear X1 HB1 hb2 hal D2 HG;go_upto_region 5 with fail;generalize w2.alloc (FV #[FU a2 n2 c2] 30)=W2 at*;obtain⟨r0,r1,r2,r3,r4,r5,r6,r7,r8,r9⟩:=(G7 X2).r.cells;have rf0:=(G7 X2).r.GU 0;have rf1:=(G7 X2).r.GU 1;have rf2:=(G7 X2).r.GU 2;have rf3:=(G7 X2).r.GU 3;have rf4:=(G7 X2).r.GU 4;have rf5:=(G7 X2).r.GU 5;have rf6:=(G7 X2).r.GU 6;have rf7:=(G7 X2).r.GU 7;have rf8:=(G7 X2).r.GU 8;have rf9:=(G7 X2).r.GU 9;go_wp2_with fail;exact bodyPost_ret (v:=.tuple #[.agg #[.bool false,N0,I0 0,I0 0,N0,I0 0,I0 0,N0,N0,N0],I0 E]) (by simp[results,results98,go_sem,r0,r1,r2,r3,r4,r5,r6,r7,r8,r9]) rfl (kQ rfl (JL (G7 HB2) (by omega) _ _ _ _ _ _ _ _ _ _))
def B51(w:FW)(B:Nat)(vl:FX)(up:Bool)(id ep dn tz:Int)(vn vs vw:FX)(d:List DF)(ts:List GN)(e:Ending)(w':FW):Prop:=
 ∃a n c a2 c2,e=.returned (.tuple #[.agg #[.bool up,FU a n c,I0 id,I0 ep,FU a2 ts.length c2,I0 dn,I0 tz,vn,vs,vw],I0 0])/\IV w' (FU a n c) d/\GZ w' B (FU a2 ts.length c2) ts/\
  ((Value.slice a2 ts.length c2).ownBlock=vl.ownBlock\/∃k,(Value.slice a2 ts.length c2).ownBlock=G6 k/\w.heap.size<=k)/\Touch (fun k=>vl.ownBlock=G6 k) w w'
def FrD(w:FW)(e:Ending):Prop:=∀x0 x1 x2 x3 x4 x5 x6 x7 x8 x9 z:FX,e=.returned (.tuple #[.agg #[x0,x1,x2,x3,x4,x5,x6,x7,x8,x9],z])->OB w.heap.size x1
theorem CL2{x0 x1 x2 x3 x4 x5 x6 x7 x8 x9 z:FX}(h:OB w.heap.size x1):FrD w (.returned (.tuple #[.agg #[x0,x1,x2,x3,x4,x5,x6,x7,x8,x9],z])):=by
 intro u0 u1 u2 u3 u4 u5 u6 u7 u8 u9 t e;simp only[Ending.returned.injEq,Value.tuple.injEq,Value.agg.injEq,Array.mk.injEq,List.cons.injEq]at e;obtain⟨⟨_,rfl,_⟩,_⟩:=e;exact h
theorem B52(up:Bool)(id ep dn tz:Int)(fs:List DF)(ts:List GN)(t:GN)(safe:Bool)(vd vl:FX)(an ai aw:Option Addr)(nn cn ni ci nw cw:Nat)(w:FW)(hd:IV w vd fs)(hl:NC w vl ts)(hz:¬t.z<=J5 ts)(d1:List DF)(B:Nat)(hB:B<=w.heap.size)(ho:GZ w B vl ts)(hn:ts.length<=1000000000)(hp:t.p.length<=140737488355328)(hdl:t.d.length<=140737488355328)(G:ZA 147 (fun x=>#[x,J9 t,.bool safe]) fs d1 0):
  FZ prog 98 #[.agg #[.bool up,vd,I0 id,I0 ep,vl,I0 dn,I0 tz,FU an nn cn,FU ai ni ci,FU aw nw cw],J9 t,.bool safe] w fun e w'=>B51 w B vl up id ep dn tz (FU an nn cn) (FU ai ni ci) (FU aw nw cw) d1 (ts++[t]) e w'/\FrD w e:=by
 have HG:=G8 (fun W (hW:B0 w W)=>G _ W (hd.next hW));have HO:=G8 (fun W (hW:B0 w W)=>ho.next hW);have CX:=G8 (fun W=>AA1 t W hp hdl);have hlow:=ho.low;clear G ho hp hdl;have CL:=G8 (fun W (hW:B0 w W)=>RX vl ts W (hl.next hW));generalize J5 ts=lz at*;obtain⟨ad,nd,cd,rfl⟩:=IZ hd;obtain⟨al,cl,rfl⟩:=MC hl;clear hl;obtain⟨z,o,s,p,d,y,u⟩:=t;unfold J9 at*;simp only at*;go_enter func98,ntmps98;go_upto_region 1 with fail;have X:=G8 (EB.start w up id ep dn tz (FU ad nd cd) (FU al ts.length cl) (FU an nn cn) (FU ai ni ci) (FU aw nw cw) ⟨z,o,s,p,d,y,u⟩);have HB0:=G8 (EB.AC2 w (FV #[.bool up,FU ad nd cd,I0 id,I0 ep,FU al ts.length cl,I0 dn,I0 tz,FU an nn cn,FU ai ni ci,FU aw nw cw] 40) (FV #[I0 z,I0 o,I0 s,S0 p,S0 d,I0 y,I0 u] 79) (FV #[.bool false,N0,I0 0,I0 0,N0,I0 0,I0 0,N0,N0,N0] 40));simp only at X;generalize ((w.alloc (FV #[.bool up,FU ad nd cd,I0 id,I0 ep,FU al ts.length cl,I0 dn,I0 tz,FU an nn cn,FU ai ni ci,FU aw nw cw] 40)).alloc (FV #[I0 z,I0 o,I0 s,S0 p,S0 d,I0 y,I0 u] 79)).alloc (FV #[.bool false,N0,I0 0,I0 0,N0,I0 0,I0 0,N0,N0,N0] 40)=W0 at*
 go_cut [16]from 10 (fun t16 wx=>t16=.bool false/\Hid (B0 W0 wx))
 case first=>
  obtain⟨x0,x1,x2,x3,x4,x5,x6,x7,x8,x9⟩:=(G7 X).s.cells;have t0:=(G7 X).x.c0;simp only at t0
  go_region_with (first
   |(go_at_call 67;refine(G7 CL _ (by first|with_reducible exact(G7 HB0).drew|with_reducible exact G7 HB0)).mono ?_;rintro e w1 ⟨rfl,rfl⟩))
  all_goals go_wp2_with fail
  all_goals go_meet
  all_goals first
   |exact⟨rfl,G8 (AA _ _).drew⟩
   |exact⟨rfl,G8 (AA _ _)⟩
   |exact⟨by simp;omega,G8 (AA _ _).drew⟩
   |exact⟨by simp;omega,G8 (AA _ _)⟩
 case rest=>
  obtain⟨rfl,hbc⟩:=hcut;have X1:=G8 ((G7 X).next (G7 hbc));have HB1:=G8 (GH (G7 HB0) (G7 hbc));clear X HB0 hbc CL;obtain⟨x0,x1,x2,x3,x4,x5,x6,x7,x8,x9⟩:=(G7 X1).s.cells;have t0:=(G7 X1).x.c0;have t1:=(G7 X1).x.c1;have t2:=(G7 X1).x.c2;have t3:=(G7 X1).x.c3;have t4:=(G7 X1).x.c4;have t5:=(G7 X1).x.c5;have t6:=(G7 X1).x.c6;simp only at t0 t1 t2 t3 t4 t5 t6;go_wp2_with fail;refine(G7 HG _ (G7 HB1)).mono ?_;rintro e w2 ⟨a2,n2,c2,rfl,D2,hb2⟩;clear x0 x1 x2 x3 x4 x5 x6 x7 x8 x9 t0 t1 t2 t3 t4 t5 t6;have hal:=G9 w2 (FV #[FU a2 n2 c2] 30);have X2:=G8 (((G7 X1).next hb2).next hal);have HB2:=G8 (GH (GH (G7 HB1) hb2) hal);have A2:=G8 (KL.new w2 (FU a2 n2 c2));have F2:=G8 ((G7 D2).1.next hal);have R2:=G8 ((G7 D2).2.lower (G7 HB1).size);have RF:=R2;clear X1 HB1 hb2 hal D2 HG;go_upto_region 6 with fail;generalize w2.heap.size=q2 at*;generalize w2.alloc (FV #[FU a2 n2 c2] 30)=W2 at*;have ca:=(G7 A2).c;have fx:=(G7 X2).s.GU 1;obtain⟨x0,x1,x2,x3,x4,x5,x6,x7,x8,x9⟩:=(G7 X2).s.cells;go_upto_region 7 with fail;have Y3:=(G7 X2).put 1 (FU a2 n2 c2) rfl;have B3:=(G7 HB2).setCell (p:=⟨w.heap.size,1,G5⟩) (by simp) (FU a2 n2 c2);have D3:=SN (G7 F2) (j:=1) (G7 X2).s.gU (FU a2 n2 c2);clear x0 x1 x2 x3 x4 x5 x6 x7 x8 x9 fx ca A2;generalize W2.setCell ⟨w.heap.size,1,G5⟩ (FU a2 n2 c2)=W3 at*;have K1:∀V,B0 W3 V->V.cell? ⟨w.heap.size,4,G5⟩=G6 (FU al ts.length cl)/\w.heap.size<V.heap.size/\(V.alloc (FV #[I0 z,I0 o,I0 s,S0 p,S0 d,I0 y,I0 u] 79)).cell? ⟨w.heap.size,4,G5⟩=G6 (FU al ts.length cl):=fun V hV=>by
   have h1:=Y3.next hV;have h2:=h1.next (G9 V (FV #[I0 z,I0 o,I0 s,S0 p,S0 d,I0 y,I0 u] 79));exact⟨h1.s.cells.2.2.2.2.1,by have:=h1.lt;omega,h2.s.cells.2.2.2.2.1⟩
  have KE:∀V,B0 W3 V->GZ (V.alloc (FV #[I0 z,I0 o,I0 s,S0 p,S0 d,I0 y,I0 u] 79)) B (FU al ts.length cl) ts/\B<=(V.alloc (FV #[I0 z,I0 o,I0 s,S0 p,S0 d,I0 y,I0 u] 79)).heap.size:=fun V hV=>by
   have hb:=GH (GH B3 hV) (G9 V (FV #[I0 z,I0 o,I0 s,S0 p,S0 d,I0 y,I0 u] 79));exact⟨G7 HO _ hb,BO hB hb.size⟩
  have K2:∀ (w4 w5:FW) (a5:Option Addr) (c5:Nat),B0 W3 w4->GZ w5 B (FU a5 (ts.length+1) c5) (ts++[⟨z,o,s,p,d,y,u⟩])->(w4.alloc (FV #[I0 z,I0 o,I0 s,S0 p,S0 d,I0 y,I0 u] 79)).grownBy w5 (Value.slice al ts.length cl).ownBlock->
    ((Value.slice a5 (ts.length+1) c5).ownBlock=(Value.slice al ts.length cl).ownBlock\/(Value.slice a5 (ts.length+1) c5).ownBlock=G6 (w4.alloc (FV #[I0 z,I0 o,I0 s,S0 p,S0 d,I0 y,I0 u] 79)).heap.size)->
    w5.cell? ⟨w.heap.size,4,G5⟩=G6 (FU al ts.length cl)/\w5.frozen? ⟨w.heap.size,4,G5⟩=false/\
    Hid (EB w (w5.setCell ⟨w.heap.size,4,G5⟩ (FU a5 (ts.length+1) c5)) up (FU a2 n2 c2) id ep (FU a5 (ts.length+1) c5) dn tz (FU an nn cn) (FU ai ni ci) (FU aw nw cw) ⟨z,o,s,p,d,y,u⟩/\IV (w5.setCell ⟨w.heap.size,4,G5⟩ (FU a5 (ts.length+1) c5)) (FU a2 n2 c2) d1/\GZ (w5.setCell ⟨w.heap.size,4,G5⟩ (FU a5 (ts.length+1) c5)) B (FU a5 (ts.length+1) c5) (ts++[⟨z,o,s,p,d,y,u⟩])/\
     ((Value.slice a5 (ts.length+1) c5).ownBlock=(Value.slice al ts.length cl).ownBlock\/∃k,(Value.slice a5 (ts.length+1) c5).ownBlock=G6 k/\w.heap.size<=k)/\Touch (fun k=>(Value.slice al ts.length cl).ownBlock=G6 k) w (w5.setCell ⟨w.heap.size,4,G5⟩ (FU a5 (ts.length+1) c5))/\(Value.slice a5 (ts.length+1) c5).ownBlock≠G6 (w.heap.size+1+1)):=by
   intro w4 w5 a5 c5 hb4 ho5 hg5 hl5;have b5:=GH (GH B3 hb4) (G9 w4 (FV #[I0 z,I0 o,I0 s,S0 p,S0 d,I0 y,I0 u] 79));have t5:Touch (fun k=>(Value.slice al ts.length cl).ownBlock=G6 k) (w4.alloc (FV #[I0 z,I0 o,I0 s,S0 p,S0 d,I0 y,I0 u] 79)) w5:=Touch.VI hg5 (fun k e=>e);have T5:=(Touch.of_below b5 (F:=fun k=>(Value.slice al ts.length cl).ownBlock=G6 k)).trans t5;have X4:=(Y3.next hb4).next (G9 w4 (FV #[I0 z,I0 o,I0 s,S0 p,S0 d,I0 y,I0 u] 79));have X5:=X4.touch t5 (fun k h1 _ hf=>by have:=hlow k hf;omega);have z4:=X4.lt;have ne:∀k,w.heap.size<=k->k<w.heap.size+3->(Value.slice a5 (ts.length+1) c5).ownBlock≠G6 k:=by
    intro k h1 h2 e;rcases hl5 with h|h
    .rw[h]at e;have:=hlow k e;omega
    .rw[h]at e;simp only[Option.some.injEq]at e;omega
   refine⟨X5.s.cells.2.2.2.2.1,X5.s.GU 4,G8 ⟨X5.put 4 (FU a5 (ts.length+1) c5) rfl,SN (AN8 ((D3.next hb4).next (G9 w4 (FV #[I0 z,I0 o,I0 s,S0 p,S0 d,I0 y,I0 u] 79))) t5 (fun b off n c e hf=>?_)) X5.s.gU _,ho5.other (ne _ (by simp) (by simp)) _,?_,T5.XO (by omega) _,ne _ (by omega) (by omega)⟩⟩
   .have h1:=G7 R2 b off n c e;have h2:=hlow b hf;omega
   .rcases hl5 with h|h
    .exact .inl h
    .exact .inr ⟨_,h,b5.size⟩
  have HK1:=G8 K1;have HKE:=G8 KE;have HK2:=G8 K2;obtain⟨x4,_,_⟩:=K1 W3 (AA _ _);obtain⟨e0,e1,e2,e3,e4,e5,e6⟩:W3.cell? ⟨w.heap.size+1,0,G5⟩=G6 (I0 z)/\W3.cell? ⟨w.heap.size+1,1,G5⟩=G6 (I0 o)/\W3.cell? ⟨w.heap.size+1,2,G5⟩=G6 (I0 s)/\W3.cell? ⟨w.heap.size+1,3,G5⟩=G6 (S0 p)/\W3.cell? ⟨w.heap.size+1,4,G5⟩=G6 (S0 d)/\W3.cell? ⟨w.heap.size+1,5,G5⟩=G6 (I0 y)/\W3.cell? ⟨w.heap.size+1,6,G5⟩=G6 (I0 u):=⟨Y3.x.c0,Y3.x.c1,Y3.x.c2,Y3.x.c3,Y3.x.c4,Y3.x.c5,Y3.x.c6⟩;clear K1 KE K2 Y3 B3 D3 HO hlow X2 HB2 F2 R2 hd
  go_cut [5]from 10 (fun _ wx=>∃a5 c5,Hid (EB w wx up (FU a2 n2 c2) id ep (FU a5 (ts.length+1) c5) dn tz (FU an nn cn) (FU ai ni ci) (FU aw nw cw) ⟨z,o,s,p,d,y,u⟩/\IV wx (FU a2 n2 c2) d1/\GZ wx B (FU a5 (ts.length+1) c5) (ts++[⟨z,o,s,p,d,y,u⟩])/\
     ((Value.slice a5 (ts.length+1) c5).ownBlock=(Value.slice al ts.length cl).ownBlock\/∃k,(Value.slice a5 (ts.length+1) c5).ownBlock=G6 k/\w.heap.size<=k)/\Touch (fun k=>(Value.slice al ts.length cl).ownBlock=G6 k) w wx/\(Value.slice a5 (ts.length+1) c5).ownBlock≠G6 (w.heap.size+1+1)))
  case first=>
   go_region_law (first
    |(refine VN (by kernel_rfl) _ _ (by rfl) B (G7 HKE w4 (G7 HB4)).2 (FU al ts.length cl) ts (by rfl) (G7 HKE w4 (G7 HB4)).1 w4.heap.size (by rfl) ⟨z,o,s,p,d,y,u⟩ (iI w4 ⟨z,o,s,p,d,y,u⟩) hn ?_;intro a5 c5 w5 ho5 hg5 hl5;obtain⟨m4,l4,HF5⟩:=G7 HK2 w4 w5 a5 c5 (G7 HB4) ho5 hg5 hl5;clear ho5 hg5 hl5)
    |(go_simp;refine(G7 CX _).mono ?_;rintro e w4 ⟨rfl,hb4⟩;have HB4:Hid (B0 W3 w4):=(by first|exact G8 (IB hb4)|exact G8 hb4);obtain⟨d4,k4,d4a⟩:=G7 HK1 w4 (G7 HB4);clear hb4))
   all_goals go_wp2_with fail
   all_goals go_meet
   all_goals exact⟨a5,c5,HF5⟩
  case rest=>
   obtain⟨a5,c5,HF5⟩:=hcut;obtain⟨x0,x1,x2,x3,x4,x5,x6,x7,x8,x9⟩:=(G7 HF5).1.s.cells;obtain⟨r0,r1,r2,r3,r4,r5,r6,r7,r8,r9⟩:=(G7 HF5).1.r.cells;have rf0:=(G7 HF5).1.r.GU 0;have rf1:=(G7 HF5).1.r.GU 1;have rf2:=(G7 HF5).1.r.GU 2;have rf3:=(G7 HF5).1.r.GU 3;have rf4:=(G7 HF5).1.r.GU 4;have rf5:=(G7 HF5).1.r.GU 5;have rf6:=(G7 HF5).1.r.GU 6;have rf7:=(G7 HF5).1.r.GU 7;have rf8:=(G7 HF5).1.r.GU 8;have rf9:=(G7 HF5).1.r.GU 9;clear HK1 HKE HK2 CX;go_wp2_with fail;refine bodyPost_ret (v:=.tuple #[.agg #[.bool up,FU a2 n2 c2,I0 id,I0 ep,FU a5 (ts.length+1) c5,I0 dn,I0 tz,FU an nn cn,FU ai ni ci,FU aw nw cw],I0 0]) (by simp[results,results98,go_sem,r0,r1,r2,r3,r4,r5,r6,r7,r8,r9]) rfl ?_;obtain⟨EB5,DD5,OO5,hl5,TT5,ne5⟩:=G7 HF5;have hlen:(ts++[(⟨z,o,s,p,d,y,u⟩:GN)]).length=ts.length+1:=by simp
   unfold B51;rw[hlen];exact⟨⟨a2,n2,c2,a5,c5,rfl,oP EB5.r.gU DD5,XP OO5 ne5 _ _ _ _ _ _ _ _ _ _,hl5,A29 TT5 (by omega) _ _ _ _ _ _ _ _ _ _⟩,CL2 (G7 RF)⟩
theorem CL3(up:Bool)(id ep dn tz:Int)(fs:List DF)(ts:List GN)(t:GN)(safe:Bool)(vd vl:FX)(an ai aw:Option Addr)(nn cn ni ci nw cw:Nat)(w:FW)(hd:IV w vd fs)(hl:NC w vl ts)(hz:¬t.z<=J5 ts)(d1:List DF)(B:Nat)(hB:B<=w.heap.size)(ho:GZ w B vl ts)(hn:ts.length<=1000000000)(hp:t.p.length<=140737488355328)(hdl:t.d.length<=140737488355328)(G:ZA 147 (fun x=>#[x,J9 t,.bool safe]) fs d1 0):
  FZ prog 98 #[.agg #[.bool up,vd,I0 id,I0 ep,vl,I0 dn,I0 tz,FU an nn cn,FU ai ni ci,FU aw nw cw],J9 t,.bool safe] w (B51 w B vl up id ep dn tz (FU an nn cn) (FU ai ni ci) (FU aw nw cw) d1 (ts++[t])):=(B52 up id ep dn tz fs ts t safe vd vl an ai aw nn cn ni ci nw cw w hd hl hz d1 B hB ho hn hp hdl G).mono fun _ _ h=>h.1
