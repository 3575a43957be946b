/-
  Part.
-/
import Derived.Test.YtppjdeblncincaaGreatDoorLOAC
import Derived.Laws.CopyOwn
set_option maxRecDepth 20000
set_option maxHeartbeats 8000000
namespace Go.Proofs.YtppjdeblncincaaGreatDoor
open Go.RowKit Go.Proofs.Tryz
open _root_.Nat renaming le_refl->A8,lt_of_lt_of_le->AY,zero_le->AZ,le_trans->BO,mul_comm->DK
open Go.RowKit.Below renaming refl->AA
open _root_.List renaming getElem?_eq_getElem->AO
open Go.Value.slice renaming injEq->AQ
open _root_.Array renaming getElem?_eq_getElem->BR
open Go.Value renaming slice->FU
open Go.Obj renaming cells->FV
open Go renaming World->FW,Value->FX,Calls->FZ
open _root_.Option renaming none->G5,some->G6
variable{v:FX}{W V w:FW}{c2 c3:Array FX}{p:Pw}
structure SB2(w W:FW)(up:Bool)(vd:FX)(id ep:Int)(vl:FX)(dn z:Int)(vn vs vw:FX):Prop where
 below:B0 w W
 s:IG W (w.heap.size+1) up vd id ep vl dn z vn vs vw
 r:IG W w.heap.size false (N0) 0 0 (N0) 0 0 (N0) (N0) (N0)
section
variable {w W V:FW} {up:Bool} {id ep dn z:Int} {vd vl vn vs vw:FX}
theorem SB2.next(h:SB2 w W up vd id ep vl dn z vn vs vw)(hb:B0 W V):SB2 w V up vd id ep vl dn z vn vs vw:=⟨GH h.below hb,h.s.next hb,h.r.next hb⟩
theorem SB2.put(h:SB2 w W up vd id ep vl dn z vn vs vw)(j:Nat)(u:FX){vd' vl' vn' vs' vw':FX}(e:(#[.bool up,vd,I0 id,I0 ep,vl,I0 dn,I0 z,vn,vs,vw]:Array FX).setIfInBounds j u=#[.bool up,vd',I0 id,I0 ep,vl',I0 dn,I0 z,vn',vs',vw']):SB2 w (W.setCell ⟨w.heap.size+1,j,G5⟩ u) up vd' id ep vl' dn z vn' vs' vw':=by
 refine⟨h.below.setCell (by simp) u,?_,h.r.other (by omega)⟩;unfold IG;rw[GV u h.s,e]
theorem SB2.start(w:FW)(up:Bool)(id ep dn z:Int)(vd vl vn vs vw:FX):SB2 w ((w.alloc (FV #[.bool false,N0,I0 0,I0 0,N0,I0 0,I0 0,N0,N0,N0] 40)).alloc (FV #[.bool up,vd,I0 id,I0 ep,vl,I0 dn,I0 z,vn,vs,vw] 40)) up vd id ep vl dn z vn vs vw:=by
 have h:=IG.new (w.alloc (FV #[.bool false,N0,I0 0,I0 0,N0,I0 0,I0 0,N0,N0,N0] 40)) up id ep dn z vd vl vn vs vw;rw[show (w.alloc (FV #[.bool false,N0,I0 0,I0 0,N0,I0 0,I0 0,N0,N0,N0] 40)).heap.size=w.heap.size+1 by simp]at h;exact⟨GH (G9 _ _) (G9 _ _),h,(IG.new w false 0 0 0 0 _ _ _ _ _).next (G9 _ _)⟩
end
structure CT5(s:Sv):Prop where
 d:s.fs.length<=400
 l:s.ts.length<=400
 n:s.tr.ns.length<=400
 i:s.tr.ss.length<=2147483647
 w:s.ws.length<=400
theorem MJ.few{i:Nat}{q:Ps}(ok:MJ 300 q):CT5 (svP i q):=by
 have h2:=ok.small.2;have he:∀ (e:Int) (x:DF),(epD e++[x]).length<=400:=fun e x=>by simp only[epD];split<;>simp
 cases hu:q.up with
 |true=>
  have g:=ok.play.good ok.dn;have hw:=ok.wl;rw[J3 hu];exact⟨he _ _,by show q.m.length<=400;omega,by show (QT q.m q.dn).ns.length<=400;exact g.nod.few,TN g.ses,by show q.ws.length<=400;omega⟩
 |false=>
  rw[PK hu];exact⟨he _ _,AZ _,by show QL.ns.length<=400;decide,by show QL.ss.length<=2147483647;decide,AZ _⟩
def C95(w:FW)(s:Sv)(e:Ending)(w':FW):Prop:=
 ∃ad cd al cl an cn ai ci aw cw,e=.returned (.agg #[.bool s.up,FU ad s.fs.length cd,I0 s.id,I0 s.ep,FU al s.ts.length cl,I0 s.dn,I0 s.tr.z,FU an s.tr.ns.length cn,FU ai s.tr.ss.length ci,FU aw s.ws.length cw])/\
  GZ w' w.heap.size (FU ad s.fs.length cd) s.fs/\GZ w' w.heap.size (FU al s.ts.length cl) s.ts/\GZ w' w.heap.size (FU an s.tr.ns.length cn) s.tr.ns/\GZ w' w.heap.size (FU ai s.tr.ss.length ci) s.tr.ss/\GZ w' w.heap.size (FU aw s.ws.length cw) s.ws/\B0 w w'
theorem CT6(x0 x1 x2 x3 x4 x5 x6 x7 x8 x9:FX)(w:FW):(Instr.field 40 (.agg #[x0,x1,x2,x3,x4,x5,x6,x7,x8,x9]) 2).run prog w=.ok (.agg #[x2,x3,x4,x5]) w:=by kernel_rfl
theorem CT7(x0 x1 x2 x3:FX)(w:FW):(Instr.field 33 (.agg #[x0,x1,x2,x3]) 2).run prog w=.ok x2 w:=by kernel_rfl
theorem AO4(p:Pw)(k i:Nat)(W:FW)(hx:WX W k p)(hi:i<3)(s:Sv)(hs:svP i (p.s i)=s)(hf:CT5 s):
  FZ prog 19 #[wP k,I0 i] W (C95 W s):=by
 obtain⟨ad,nd,cd,al,cl,an,cn,ai,ci,aw,cw,S0,hv,_⟩:=hx.srv hi hs;obtain⟨vd,vl,vn,vs,vw,he,d1,l1,n1,s1,k1⟩:=hv;simp only[Value.agg.injEq,Array.mk.injEq,List.cons.injEq,true_and,and_true]at he;obtain⟨rfl,rfl,rfl,rfl,rfl⟩:=he;have hk0:=hx.lt;have HD:=G8 (fun V (hV:B0 W V)=>AZ8 _ s.fs V (P9.2 (d1.next hV)) (by have:=hf.d;omega));have HL:=G8 (fun V (hV:B0 W V)=>qZ _ s.ts V (NY.2 (l1.next hV)) (by have:=hf.l;omega));have HN:=G8 (fun V (hV:B0 W V)=>AZ9 _ s.tr.ns V (n1.next hV) (by have:=hf.n;omega));have HI:=G8 (fun V (hV:B0 W V)=>dV _ s.tr.ss V (s1.next hV) hf.i);have HW:=G8 (fun V (hV:B0 W V)=>B00 _ s.ws V (k1.next hV) (by have:=hf.w;omega));have HS:=G8 (fun V (hV:B0 W V)=>S0.next hk0 hV);have CC:=Y0 i 3;rw[show eY i 3=true by simp[eY];omega]at CC;clear d1 l1 n1 s1 k1 hf hx hs S0;obtain⟨up,fs,id,ep,ts,dn,⟨tz,tns,tss⟩,ws⟩:=s;simp only[DK 10 i]at*;have hi4:(i:Int)<3:=by omega
 have hi5:(0:Int)<=i:=by omega
 unfold wP;go_enter func19,ntmps19;go_wp2_with fail;refine(CC _).mono ?_;rintro e w1 ⟨rfl,rfl⟩;obtain⟨c0,c1,c2,c3,c4,c5,c6,c7,c8,c9⟩:=G7 HS _ (G9 W (FV #[.bool false,N0,I0 0,I0 0,N0,I0 0,I0 0,N0,N0,N0] 40));clear CC HS;go_upto_region 4 with fail;clear c0 c1 c2 c3 c4 c5 c6 c7 c8 c9;have X0:=SB2.start W up id ep dn tz (FU ad nd cd) (FU al ts.length cl) (FU an tns.length cn) (FU ai tss.length ci) (FU aw ws.length cw);generalize ((W.alloc (FV #[.bool false,N0,I0 0,I0 0,N0,I0 0,I0 0,N0,N0,N0] 40)).alloc _)=V0 at*;have HX0:=G8 X0;obtain⟨x0,x1,x2,x3,x4,x5,x6,x7,x8,x9⟩:=X0.s.cells;clear X0 hi4 hi5 hi hk0;go_wp2_with fail;refine(G7 HD _ (G7 HX0).below).mono ?_;rintro e w1 ⟨v1,rfl,o1,hb1⟩;obtain⟨a1,c1,rfl,_⟩:=o1.slice;have z1:W.heap.size+2<=V0.heap.size:=(G7 HX0).s.lt;have X1:=(G7 HX0).next hb1;have Y1:=X1.put 1 (FU a1 fs.length c1) rfl;have y:=(X1.s.cells);have g1:=X1.s.GU 1;have O1:=G8 (IW (j:=1) (u:=FU a1 fs.length c1) (o1.lower z1) (by omega:W.heap.size+1<_));clear X1 o1 hb1 z1 HX0 HD x0 x1 x2 x3 x4 x5 x6 x7 x8 x9;obtain⟨x0,x1,x2,x3,x4,x5,x6,x7,x8,x9⟩:=y;have HX1:=G8 Y1;clear Y1;go_upto_region 5 with fail;generalize w1.setCell ⟨W.heap.size+1,1,G5⟩ (FU a1 fs.length c1)=V1 at*;clear x0 x1 x2 x3 x4 x5 x6 x7 x8 x9 g1;obtain⟨x0,x1,x2,x3,x4,x5,x6,x7,x8,x9⟩:=(G7 HX1).s.cells;go_wp2_with fail;refine(G7 HL _ (G7 HX1).below).mono ?_;rintro e w2 ⟨v2,rfl,o2,hb2⟩;obtain⟨a2,c2,rfl,_⟩:=o2.slice;have z2:W.heap.size+2<=V1.heap.size:=(G7 HX1).s.lt;have X2:=(G7 HX1).next hb2;have Y2:=X2.put 4 (FU a2 ts.length c2) rfl;have y:=(X2.s.cells);have g2:=X2.s.GU 4;replace O1:=G8 (IW (j:=4) (u:=FU a2 ts.length c2) ((G7 O1).next hb2) (by omega:W.heap.size+1<_));have O2:=G8 (IW (j:=4) (u:=FU a2 ts.length c2) (o2.lower z2) (by omega:W.heap.size+1<_));clear X2 o2 hb2 z2 HX1 HL x0 x1 x2 x3 x4 x5 x6 x7 x8 x9;obtain⟨x0,x1,x2,x3,x4,x5,x6,x7,x8,x9⟩:=y;have HX2:=G8 Y2;clear Y2;go_upto_region 6 with fail;generalize w2.setCell ⟨W.heap.size+1,4,G5⟩ (FU a2 ts.length c2)=V2 at*;clear x0 x1 x2 x3 x4 x5 x6 x7 x8 x9 g2;obtain⟨x0,x1,x2,x3,x4,x5,x6,x7,x8,x9⟩:=(G7 HX2).s.cells;go_wp2_with fail;refine(G7 HN _ (G7 HX2).below).mono ?_;rintro e w3 ⟨v3,rfl,o3,hb3⟩;obtain⟨a3,c3,rfl,_⟩:=o3.slice;have z3:W.heap.size+2<=V2.heap.size:=(G7 HX2).s.lt;have X3:=(G7 HX2).next hb3;have Y3:=X3.put 7 (FU a3 tns.length c3) rfl;have y:=(X3.s.cells);have g3:=X3.s.GU 7;replace O1:=G8 (IW (j:=7) (u:=FU a3 tns.length c3) ((G7 O1).next hb3) (by omega:W.heap.size+1<_));replace O2:=G8 (IW (j:=7) (u:=FU a3 tns.length c3) ((G7 O2).next hb3) (by omega:W.heap.size+1<_));have O3:=G8 (IW (j:=7) (u:=FU a3 tns.length c3) (o3.lower z3) (by omega:W.heap.size+1<_));clear X3 o3 hb3 z3 HX2 HN x0 x1 x2 x3 x4 x5 x6 x7 x8 x9;obtain⟨x0,x1,x2,x3,x4,x5,x6,x7,x8,x9⟩:=y;have HX3:=G8 Y3;clear Y3;go_upto_region 7 with fail;generalize w3.setCell ⟨W.heap.size+1,7,G5⟩ (FU a3 tns.length c3)=V3 at*;clear x0 x1 x2 x3 x4 x5 x6 x7 x8 x9 g3;obtain⟨x0,x1,x2,x3,x4,x5,x6,x7,x8,x9⟩:=(G7 HX3).s.cells;go_wp2_with fail;refine(G7 HI _ (G7 HX3).below).mono ?_;rintro e w4 ⟨v4,rfl,o4,hb4⟩;obtain⟨a4,c4,rfl,_⟩:=o4.slice;have z4:W.heap.size+2<=V3.heap.size:=(G7 HX3).s.lt;have X4:=(G7 HX3).next hb4;have Y4:=X4.put 8 (FU a4 tss.length c4) rfl;have y:=(X4.s.cells);have g4:=X4.s.GU 8;replace O1:=G8 (IW (j:=8) (u:=FU a4 tss.length c4) ((G7 O1).next hb4) (by omega:W.heap.size+1<_));replace O2:=G8 (IW (j:=8) (u:=FU a4 tss.length c4) ((G7 O2).next hb4) (by omega:W.heap.size+1<_));replace O3:=G8 (IW (j:=8) (u:=FU a4 tss.length c4) ((G7 O3).next hb4) (by omega:W.heap.size+1<_));have O4:=G8 (IW (j:=8) (u:=FU a4 tss.length c4) (o4.lower z4) (by omega:W.heap.size+1<_));clear X4 o4 hb4 z4 HX3 HI x0 x1 x2 x3 x4 x5 x6 x7 x8 x9;obtain⟨x0,x1,x2,x3,x4,x5,x6,x7,x8,x9⟩:=y;have HX4:=G8 Y4;clear Y4;go_upto_region 8 with fail;generalize w4.setCell ⟨W.heap.size+1,8,G5⟩ (FU a4 tss.length c4)=V4 at*;clear x0 x1 x2 x3 x4 x5 x6 x7 x8 x9 g4;obtain⟨x0,x1,x2,x3,x4,x5,x6,x7,x8,x9⟩:=(G7 HX4).s.cells
 go_wp2_with fail;refine(G7 HW _ (G7 HX4).below).mono ?_;rintro e w5 ⟨v5,rfl,o5,hb5⟩;obtain⟨a5,c5,rfl,_⟩:=o5.slice;have z5:W.heap.size+2<=V4.heap.size:=(G7 HX4).s.lt;have X5:=(G7 HX4).next hb5;have Y5:=X5.put 9 (FU a5 ws.length c5) rfl;have y:=(X5.s.cells);have g5:=X5.s.GU 9;replace O1:=G8 (IW (j:=9) (u:=FU a5 ws.length c5) ((G7 O1).next hb5) (by omega:W.heap.size+1<_));replace O2:=G8 (IW (j:=9) (u:=FU a5 ws.length c5) ((G7 O2).next hb5) (by omega:W.heap.size+1<_));replace O3:=G8 (IW (j:=9) (u:=FU a5 ws.length c5) ((G7 O3).next hb5) (by omega:W.heap.size+1<_));replace O4:=G8 (IW (j:=9) (u:=FU a5 ws.length c5) ((G7 O4).next hb5) (by omega:W.heap.size+1<_));have O5:=G8 (IW (j:=9) (u:=FU a5 ws.length c5) (o5.lower z5) (by omega:W.heap.size+1<_));clear X5 o5 hb5 z5 HX4 HW x0 x1 x2 x3 x4 x5 x6 x7 x8 x9;obtain⟨x0,x1,x2,x3,x4,x5,x6,x7,x8,x9⟩:=y;have HX5:=G8 Y5;clear Y5;go_upto_region 9 with fail;generalize w5.setCell ⟨W.heap.size+1,9,G5⟩ (FU a5 ws.length c5)=V5 at*;clear x0 x1 x2 x3 x4 x5 x6 x7 x8 x9 g5;obtain⟨x0,x1,x2,x3,x4,x5,x6,x7,x8,x9⟩:=(G7 HX5).s.cells;obtain⟨r0,r1,r2,r3,r4,r5,r6,r7,r8,r9⟩:=(G7 HX5).r.cells;have rf0:=(G7 HX5).r.GU 0;have rf1:=(G7 HX5).r.GU 1;have rf2:=(G7 HX5).r.GU 2;have rf3:=(G7 HX5).r.GU 3;have rf4:=(G7 HX5).r.GU 4;have rf5:=(G7 HX5).r.GU 5;have rf6:=(G7 HX5).r.GU 6;have rf7:=(G7 HX5).r.GU 7;have rf8:=(G7 HX5).r.GU 8;have rf9:=(G7 HX5).r.GU 9;have HF:=G8 (JL (G7 HX5).below (A8 _) (.bool up) (FU a1 fs.length c1) (I0 id) (I0 ep) (FU a2 ts.length c2) (I0 dn) (I0 tz) (FU a3 tns.length c3) (FU a4 tss.length c4) (FU a5 ws.length c5));have Q1:=G8 ((OA (G7 O1) (by omega:W.heap.size<_) (.bool up) (FU a1 fs.length c1) (I0 id) (I0 ep) (FU a2 ts.length c2) (I0 dn) (I0 tz) (FU a3 tns.length c3) (FU a4 tss.length c4) (FU a5 ws.length c5)).lower (Nat.le_add_right _ 2));have Q2:=G8 ((OA (G7 O2) (by omega:W.heap.size<_) (.bool up) (FU a1 fs.length c1) (I0 id) (I0 ep) (FU a2 ts.length c2) (I0 dn) (I0 tz) (FU a3 tns.length c3) (FU a4 tss.length c4) (FU a5 ws.length c5)).lower (Nat.le_add_right _ 2));have Q3:=G8 ((OA (G7 O3) (by omega:W.heap.size<_) (.bool up) (FU a1 fs.length c1) (I0 id) (I0 ep) (FU a2 ts.length c2) (I0 dn) (I0 tz) (FU a3 tns.length c3) (FU a4 tss.length c4) (FU a5 ws.length c5)).lower (Nat.le_add_right _ 2));have Q4:=G8 ((OA (G7 O4) (by omega:W.heap.size<_) (.bool up) (FU a1 fs.length c1) (I0 id) (I0 ep) (FU a2 ts.length c2) (I0 dn) (I0 tz) (FU a3 tns.length c3) (FU a4 tss.length c4) (FU a5 ws.length c5)).lower (Nat.le_add_right _ 2));have Q5:=G8 ((OA (G7 O5) (by omega:W.heap.size<_) (.bool up) (FU a1 fs.length c1) (I0 id) (I0 ep) (FU a2 ts.length c2) (I0 dn) (I0 tz) (FU a3 tns.length c3) (FU a4 tss.length c4) (FU a5 ws.length c5)).lower (Nat.le_add_right _ 2));clear O1 O2 O3 O4 O5 HX5;go_wp2_with fail;exact bodyPost_ret (v:=.agg #[.bool up,FU a1 fs.length c1,I0 id,I0 ep,FU a2 ts.length c2,I0 dn,I0 tz,FU a3 tns.length c3,FU a4 tss.length c4,FU a5 ws.length c5]) (by simp[results,results19,go_sem,r0,r1,r2,r3,r4,r5,r6,r7,r8,r9]) rfl ⟨a1,c1,a2,c2,a3,c3,a4,c4,a5,c5,rfl,G7 Q1,G7 Q2,G7 Q3,G7 Q4,G7 Q5,G7 HF⟩
structure CB2(w W:FW)(s z:Int)(v:FX):Prop where
 below:B0 w W
 s:MZ W (w.heap.size+1) s z v
 r:MZ W w.heap.size 0 0 (N0)
section
variable {w W V:FW} {s z:Int} {v:FX}
theorem CB2.next(h:CB2 w W s z v)(hb:B0 W V):CB2 w V s z v:=⟨GH h.below hb,h.s.next hb,h.r.next hb⟩
theorem CB2.put(h:CB2 w W s z v)(u:FX):CB2 w (W.setCell ⟨w.heap.size+1,2,G5⟩ u) s z u:=
 ⟨h.below.setCell (by simp) u,h.s.set2,h.r.other (by simp) u⟩
theorem CB2.start(w:FW)(s z:Int)(v:FX):CB2 w ((w.alloc (FV #[I0 0,I0 0,N0] 44)).alloc (FV #[I0 s,I0 z,v] 44)) s z v:=by
 have h:=MZ.new (w.alloc (FV #[I0 0,I0 0,N0] 44)) s z v;rw[show (w.alloc (FV #[I0 0,I0 0,N0] 44)).heap.size=w.heap.size+1 by simp]at h;exact⟨GH (G9 _ _) (G9 _ _),h,(MZ.new w 0 0 _).next (G9 _ _)⟩
end
def C96(w:FW)(c:Cl)(e:Ending)(w':FW):Prop:=
 ∃a n,e=.returned (.agg #[I0 c.s,I0 c.z,FU a c.es.length n])/\GZ w' w.heap.size (FU a c.es.length n) c.es/\B0 w w'
theorem AO5(p:Pw)(k i:Nat)(W:FW)(hx:WX W k p)(hi:i<16)(c:Cl)(hc:p.c i=c)(hl:c.es.length<=400):
  FZ prog 21 #[wP k,I0 i] W (C96 W c):=by
 obtain⟨a,cp,e0,e1,e2,hv⟩:=hx.cl hi;rw[hc]at e0 e1 e2 hv;have hk0:=hx.lt;have HC:=G8 (fun V (hV:B0 W V)=>B76 _ c.es V (hv.next hV) (by omega));have HS:Hid (∀V,B0 W V->V.cell? ⟨k,34+3*i,G5⟩=G6 (I0 c.s)/\V.cell? ⟨k,34+3*i+1,G5⟩=G6 (I0 c.z)/\V.cell? ⟨k,34+3*i+2,G5⟩=G6 (FU a c.es.length cp)):=G8 fun V hV=>⟨(hV.cell (p:=⟨k,_,G5⟩) hk0).trans e0,(hV.cell (p:=⟨k,_,G5⟩) hk0).trans e1,(hV.cell (p:=⟨k,_,G5⟩) hk0).trans e2⟩;have CC:=Y0 i 16;rw[show eY i 16=true by simp[eY];omega]at CC;clear e0 e1 e2 hv hx hc hl;obtain⟨s,z,es⟩:=c;simp only[DK 3 i]at*;have hi4:(i:Int)<16:=by omega
 have hi5:(0:Int)<=i:=by omega
 unfold wP;go_enter func21,ntmps21;go_wp2_with fail;refine(CC _).mono ?_;rintro e w1 ⟨rfl,rfl⟩;obtain⟨c0,c1,c2⟩:=G7 HS _ (G9 W (FV #[I0 0,I0 0,N0] 44));clear CC HS;go_upto_region 4 with fail;clear c0 c1 c2;have X0:=CB2.start W s z (FU a es.length cp);generalize ((W.alloc (FV #[I0 0,I0 0,N0] 44)).alloc _)=V0 at*;have HX0:=G8 X0;have x0:=X0.s.c0;have x1:=X0.s.c1;have x2:=X0.s.c2;clear X0 hi4 hi5 hi hk0;go_wp2_with fail;refine(G7 HC _ (G7 HX0).below).mono ?_;rintro e w1 ⟨v1,rfl,o1,hb1⟩;obtain⟨a1,c1,rfl,_⟩:=o1.slice;have z1:W.heap.size+2<=V0.heap.size:=(G7 HX0).s.lt;have X1:=(G7 HX0).next hb1;have HX1:=G8 (X1.put (FU a1 es.length c1));clear x0 x1 x2;have x0:=X1.s.c0;have x1:=X1.s.c1;have x2:=X1.s.c2;have g2:=X1.s.fr 2;have O1:=G8 (IW (j:=2) (u:=FU a1 es.length c1) (o1.lower z1) (by omega:W.heap.size+1<_));clear X1 o1 hb1 z1 HX0 HC;go_upto_region 5 with fail;generalize w1.setCell ⟨W.heap.size+1,2,G5⟩ (FU a1 es.length c1)=V1 at*;clear x0 x1 x2 g2;have x0:=(G7 HX1).s.c0;have x1:=(G7 HX1).s.c1;have x2:=(G7 HX1).s.c2;have r0:=(G7 HX1).r.c0;have r1:=(G7 HX1).r.c1;have r2:=(G7 HX1).r.c2;have rf0:=(G7 HX1).r.fr 0;have rf1:=(G7 HX1).r.fr 1;have rf2:=(G7 HX1).r.fr 2;have HF:=G8 ((((G7 HX1).below.setCell (p:=⟨W.heap.size,0,G5⟩) (A8 _) (I0 s)).setCell (p:=⟨W.heap.size,1,G5⟩) (A8 _) (I0 z)).setCell (p:=⟨W.heap.size,2,G5⟩) (A8 _) (FU a1 es.length c1));have Q1:=G8 ((IW (j:=2) (u:=FU a1 es.length c1) (IW (j:=1) (u:=I0 z) (IW (j:=0) (u:=I0 s) (G7 O1) (by omega:W.heap.size<_)) (by omega:W.heap.size<_)) (by omega:W.heap.size<_)).lower (Nat.le_add_right _ 2));clear O1 HX1;go_wp2_with fail;exact bodyPost_ret (v:=.agg #[I0 s,I0 z,FU a1 es.length c1]) (by simp[results,results21,go_sem,r0,r1,r2]) rfl ⟨a1,c1,rfl,G7 Q1,G7 HF⟩
def SvO(W:FW)(B:Nat)(c:Array FX)(o:Nat)(s:Sv):Prop:=∃ad cd al cl an cn ai ci aw cw,(c[o]?=G6 (.bool s.up)/\c[o+1]?=G6 (FU ad s.fs.length cd)/\c[o+2]?=G6 (I0 s.id)/\c[o+3]?=G6 (I0 s.ep)/\c[o+4]?=G6 (FU al s.ts.length cl)/\c[o+5]?=G6 (I0 s.dn)/\c[o+6]?=G6 (I0 s.tr.z)/\c[o+7]?=G6 (FU an s.tr.ns.length cn)/\c[o+8]?=G6 (FU ai s.tr.ss.length ci)/\c[o+9]?=G6 (FU aw s.ws.length cw))/\GZ W B (FU ad s.fs.length cd) s.fs/\GZ W B (FU al s.ts.length cl) s.ts/\GZ W B (FU an s.tr.ns.length cn) s.tr.ns/\GZ W B (FU ai s.tr.ss.length ci) s.tr.ss/\GZ W B (FU aw s.ws.length cw) s.ws
def ClO(W:FW)(B:Nat)(c:Array FX)(o:Nat)(x:Cl):Prop:=∃a n,(c[o]?=G6 (I0 x.s)/\c[o+1]?=G6 (I0 x.z)/\c[o+2]?=G6 (FU a x.es.length n))/\GZ W B (FU a x.es.length n) x.es
section
variable {W V:FW} {B C o k:Nat} {c c':Array FX} {s:Sv} {x:Cl}
theorem U8{α:Type}[Lay α]{xs:List α}(h:GZ W B v xs)(ht:Touch (· =k) W V)(hk:k<B):GZ V B v xs:=KD h ht (fun b e hb=>by have:=PI h e;omega)
theorem SvO.mono(h:SvO W B c o s)(hr:∀ {A9:Type} [Lay A9] {v9:FX} {y9:List A9},GZ W B v9 y9->GZ V C v9 y9)(hc:∀j,j<10->c'[o+j]?=c[o+j]?):SvO V C c' o s:=by
 obtain⟨ad,cd,al,cl,an,cn,ai,ci,aw,cw,⟨c0,c1,c2,c3,c4,c5,c6,c7,c8,c9⟩,r0,r1,r2,r3,r4⟩:=h;exact⟨ad,cd,al,cl,an,cn,ai,ci,aw,cw,⟨(hc 0 (by omega)).trans c0,(hc 1 (by omega)).trans c1,(hc 2 (by omega)).trans c2,(hc 3 (by omega)).trans c3,(hc 4 (by omega)).trans c4,(hc 5 (by omega)).trans c5,(hc 6 (by omega)).trans c6,(hc 7 (by omega)).trans c7,(hc 8 (by omega)).trans c8,(hc 9 (by omega)).trans c9⟩,hr r0,hr r1,hr r2,hr r3,hr r4⟩
theorem ClO.mono(h:ClO W B c o x)(hr:∀ {v9:FX},GZ W B v9 x.es->GZ V C v9 x.es)(hc:∀j,j<3->c'[o+j]?=c[o+j]?):ClO V C c' o x:=by
 obtain⟨a,n,⟨c0,c1,c2⟩,r0⟩:=h;exact⟨a,n,⟨(hc 0 (by omega)).trans c0,(hc 1 (by omega)).trans c1,(hc 2 (by omega)).trans c2⟩,hr r0⟩
theorem SvO.next(h:SvO W B c o s)(hb:B0 W V):SvO V B c o s:=h.mono (fun r=>r.next hb) (fun _ _=>rfl)
theorem ClO.next(h:ClO W B c o x)(hb:B0 W V):ClO V B c o x:=h.mono (fun r=>r.next hb) (fun _ _=>rfl)
theorem SvO.touch(h:SvO W B c o s)(ht:Touch (· =k) W V)(hk:k<B):SvO V B c o s:=h.mono (fun r=>U8 r ht hk) (fun _ _=>rfl)
theorem ClO.touch(h:ClO W B c o x)(ht:Touch (· =k) W V)(hk:k<B):ClO V B c o x:=h.mono (fun r=>U8 r ht hk) (fun _ _=>rfl)
end
structure ALL(W V:FW)(c0 c1 c2 c3:Array FX):Prop where
 r:AB 41 30 V W.heap.size c0
 q:AB 45 48 V (W.heap.size+1) c1
 s:AB 41 30 V (W.heap.size+2) c2
 c:AB 45 48 V (W.heap.size+3) c3
 bl:B0 W V
theorem ALL.next{U:FW}{c0 c1:Array FX}(h:ALL W V c0 c1 c2 c3)(hb:B0 V U):ALL W U c0 c1 c2 c3:=⟨h.r.next hb,h.q.next hb,h.s.next hb,h.c.next hb,GH h.bl hb⟩
theorem ALL.start(W:FW):ALL W ((((W.alloc (FV TV 41)).alloc (FV WA 45)).alloc (FV TV 41)).alloc (FV WA 45)) TV WA TV WA:=by
 have h1:=AB.new (W.alloc (FV TV 41)) WA 45 XY;have h2:=AB.new ((W.alloc (FV TV 41)).alloc (FV WA 45)) TV 41 XV;have h3:=AB.new (((W.alloc (FV TV 41)).alloc (FV WA 45)).alloc (FV TV 41)) WA 45 XY;rw[show (W.alloc (FV TV 41)).heap.size=W.heap.size+1 by simp]at h1;rw[show ((W.alloc (FV TV 41)).alloc (FV WA 45)).heap.size=W.heap.size+2 by simp]at h2;rw[show (((W.alloc (FV TV 41)).alloc (FV WA 45)).alloc (FV TV 41)).heap.size=W.heap.size+3 by simp]at h3;exact⟨((((AB.new W TV 41 XV).next (G9 _ _)).next (G9 _ _)).next (G9 _ _)),(h1.next (G9 _ _)).next (G9 _ _),h2.next (G9 _ _),h3,GH (GH (GH (G9 _ _) (G9 _ _)) (G9 _ _)) (G9 _ _)⟩
theorem C97{W V:FW}{c2 c3:Array FX}{i:Nat}{p:Pw}{s:Sv}{ad al an ai aw:Option Addr}{cd cl cn ci cw:Nat}(hi:i<3)(hs:svP i (p.s i)=s)(h:ALL W V TV WA c2 c3)(h1:c2.all (·.oneCell')=true)(hm:∀m,m<i->SvO V (W.heap.size+4) c2 (m*10) (svP m (p.s m)))
  (o0:GZ V (W.heap.size+4) (FU ad s.fs.length cd) s.fs) (o1:GZ V (W.heap.size+4) (FU al s.ts.length cl) s.ts) (o2:GZ V (W.heap.size+4) (FU an s.tr.ns.length cn) s.tr.ns) (o3:GZ V (W.heap.size+4) (FU ai s.tr.ss.length ci) s.tr.ss) (o4:GZ V (W.heap.size+4) (FU aw s.ws.length cw) s.ws):
  ALL W (oZ V (W.heap.size+2) (i*10) (.bool s.up) (FU ad s.fs.length cd) (I0 s.id) (I0 s.ep) (FU al s.ts.length cl) (I0 s.dn) (I0 s.tr.z) (FU an s.tr.ns.length cn) (FU ai s.tr.ss.length ci) (FU aw s.ws.length cw)) TV WA (QO c2 (i*10) (.bool s.up) (FU ad s.fs.length cd) (I0 s.id) (I0 s.ep) (FU al s.ts.length cl) (I0 s.dn) (I0 s.tr.z) (FU an s.tr.ns.length cn) (FU ai s.tr.ss.length ci) (FU aw s.ws.length cw)) c3/\(QO c2 (i*10) (.bool s.up) (FU ad s.fs.length cd) (I0 s.id) (I0 s.ep) (FU al s.ts.length cl) (I0 s.dn) (I0 s.tr.z) (FU an s.tr.ns.length cn) (FU ai s.tr.ss.length ci) (FU aw s.ws.length cw)).all (·.oneCell')=true/\∀m,m<i+1->SvO (oZ V (W.heap.size+2) (i*10) (.bool s.up) (FU ad s.fs.length cd) (I0 s.id) (I0 s.ep) (FU al s.ts.length cl) (I0 s.dn) (I0 s.tr.z) (FU an s.tr.ns.length cn) (FU ai s.tr.ss.length ci) (FU aw s.ws.length cw)) (W.heap.size+4) (QO c2 (i*10) (.bool s.up) (FU ad s.fs.length cd) (I0 s.id) (I0 s.ep) (FU al s.ts.length cl) (I0 s.dn) (I0 s.tr.z) (FU an s.tr.ns.length cn) (FU ai s.tr.ss.length ci) (FU aw s.ws.length cw)) (m*10) (svP m (p.s m)):=by
 have ht:=VZ V (W.heap.size+2) (i*10) (.bool s.up) (FU ad s.fs.length cd) (I0 s.id) (I0 s.ep) (FU al s.ts.length cl) (I0 s.dn) (I0 s.tr.z) (FU an s.tr.ns.length cn) (FU ai s.tr.ss.length ci) (FU aw s.ws.length cw);have hn:=h.s.n;have hk:W.heap.size+2<W.heap.size+4:=by omega
 refine⟨⟨h.r.touch ht (by omega),h.q.touch ht (by omega),h.s.OG _ _ _ _ _ _ _ _ _ _ _,h.c.touch ht (by omega),⟨ht.os.trans h.bl.os,ht.tape.trans h.bl.tape,ht.output.trans h.bl.output,BO h.bl.size ht.size,fun b hb=>(ht.block b (AY hb h.bl.size) (by omega)).trans (h.bl.block b hb)⟩⟩,?_,fun m hm'=>?_⟩
 .exact QA (QA (QA (QA (QA (QA (QA (QA (QA (QA h1 rfl _) rfl _) rfl _) rfl _) rfl _) rfl _) rfl _) rfl _) rfl _) rfl _
 .by_cases e:m=i
  .subst e;rw[hs];exact⟨ad,cd,al,cl,an,cn,ai,ci,aw,cw,B73 _ _ _ _ _ _ _ _ _ _ (by omega),U8 o0 ht hk,U8 o1 ht hk,U8 o2 ht hk,U8 o3 ht hk,U8 o4 ht hk⟩
  .exact(hm m (by omega)).mono (fun r=>U8 r ht hk) (fun j hj=>B72 (by omega))
theorem CM6{i:Nat}{x:Cl}{a:Option Addr}{n:Nat}(hi:i<16)(hx:p.c i=x)(h:ALL W V TV WA c2 c3)(h1:c3.all (·.oneCell')=true)(hs:∀m,m<3->SvO V (W.heap.size+4) c2 (m*10) (svP m (p.s m)))(hm:∀m,m<i->ClO V (W.heap.size+4) c3 (m*3) (p.c m))(o0:GZ V (W.heap.size+4) (FU a x.es.length n) x.es):
  ALL W (iM V (W.heap.size+3) (i*3) (I0 x.s) (I0 x.z) (FU a x.es.length n)) TV WA c2 (nC c3 (i*3) (I0 x.s) (I0 x.z) (FU a x.es.length n))/\(nC c3 (i*3) (I0 x.s) (I0 x.z) (FU a x.es.length n)).all (·.oneCell')=true/\(∀m,m<3->SvO (iM V (W.heap.size+3) (i*3) (I0 x.s) (I0 x.z) (FU a x.es.length n)) (W.heap.size+4) c2 (m*10) (svP m (p.s m)))/\∀m,m<i+1->ClO (iM V (W.heap.size+3) (i*3) (I0 x.s) (I0 x.z) (FU a x.es.length n)) (W.heap.size+4) (nC c3 (i*3) (I0 x.s) (I0 x.z) (FU a x.es.length n)) (m*3) (p.c m):=by
 have ht:=RH V (W.heap.size+3) (i*3) (I0 x.s) (I0 x.z) (FU a x.es.length n);have hn:=h.c.n;have hk:W.heap.size+3<W.heap.size+4:=by omega
 refine⟨⟨h.r.touch ht (by omega),h.q.touch ht (by omega),h.s.touch ht (by omega),h.c.put3 _ _ _ _,⟨ht.os.trans h.bl.os,ht.tape.trans h.bl.tape,ht.output.trans h.bl.output,BO h.bl.size ht.size,fun b hb=>(ht.block b (AY hb h.bl.size) (by omega)).trans (h.bl.block b hb)⟩⟩,QA (QA (QA h1 rfl _) rfl _) rfl _,fun m hm'=>(hs m hm').touch ht hk,fun m hm'=>?_⟩;by_cases e:m=i
 .subst e;rw[hx];exact⟨a,n,BQ4 _ _ _ (by omega),U8 o0 ht hk⟩
 .exact(hm m (by omega)).mono (fun r=>U8 r ht hk) (fun j hj=>BQ3 (by omega))
structure BE8(B:Nat)(W:FW)(p:Pw)(c1 c2:Array FX):Prop where
 n1:c1.size=30
 n2:c2.size=48
 o1:c1.all (·.oneCell')=true
 o2:c2.all (·.oneCell')=true
 s:∀m,m<3->SvO W B c1 (m*10) (svP m (p.s m))
 c:∀m,m<16->ClO W B c2 (m*3) (p.c m)
section
variable {W V:FW} {B k:Nat} {p:Pw} {c1 c2:Array FX}
theorem BE8.next(h:BE8 B W p c1 c2)(hb:B0 W V):BE8 B V p c1 c2:=⟨h.n1,h.n2,h.o1,h.o2,fun m hm=>(h.s m hm).next hb,fun m hm=>(h.c m hm).next hb⟩
theorem BE8.touch(h:BE8 B W p c1 c2)(ht:Touch (· =k) W V)(hk:k<B):BE8 B V p c1 c2:=⟨h.n1,h.n2,h.o1,h.o2,fun m hm=>(h.s m hm).touch ht hk,fun m hm=>(h.c m hm).touch ht hk⟩
end
theorem A47{fn:Func}{tmps:Array FX}{U:FW}{a b:Nat}{S T:TypeId}{x y:Addr}{v0 v1:FX}(hfn:fn.results=#[.cell a S,.cell b T])(h2:tmps[a]?.getD undef=.pointer (G6 x))(h3:tmps[b]?.getD undef=.pointer (G6 y))(hl0:(loadVar S x).run prog U=.ok v0 U)(hl1:(loadVar T y).run prog U=.ok v1 U):(results fn tmps).run prog U=.ok (.tuple #[v0,v1]) U:=by
 unfold results;rw[hfn];simp[h2,h3,asAddr,hl0,hl1,Sem.run_bind,Result.andThen,List.mapM_toArray]
theorem BZ1{c:Prop}[Decidable c]{A B:Prop}(h:c)(ha:A):if c then A else B:=by rw[if_pos h];exact ha
theorem C98(n2:c2.size=30)(n3:c3.size=48)(o2:c2.all (·.oneCell')=true)(o3:c3.all (·.oneCell')=true)(hs:∀m,m<3->SvO W (w.heap.size+4) c2 (m*10) (svP m (p.s m)))(hc:∀m,m<16->ClO W (w.heap.size+4) c3 (m*3) (p.c m))(ht:Touch (fun b=>b=w.heap.size\/b=w.heap.size+1) W V):BE8 w.heap.size V p c2 c3:=by
 have hr:∀ {α:Type} [Lay α] {v:FX} {xs:List α},GZ W (w.heap.size+4) v xs->GZ V w.heap.size v xs:=fun r=>(KD r ht (fun b e hb=>by have:=PI r e;omega)).lower (Nat.le_add_right _ _);exact⟨n2,n3,o2,o3,fun m hm=>(hs m hm).mono hr (fun _ _=>rfl),fun m hm=>(hc m hm).mono hr (fun _ _=>rfl)⟩
theorem B82(p:Pw)(k:Nat)(W:FW)(hx:WX W k p)(hw:RZ p):
  FZ prog 9 #[wP k] W fun e w'=>∃c1 c2,e=.returned (.tuple #[.agg c1,.agg c2])/\BE8 W.heap.size w' p c1 c2/\B0 W w':=by
 have CS:=G8 (fun V (hV:B0 W V) b (hb:b<3) s (hs:svP b (p.s b)=s)=>AO4 p k b V (hx.next hV) hb s hs (by rw[<-hs];exact((hw.s b hb).more hw.n1).few));have CC:=G8 (fun V (hV:B0 W V) b (hb:b<16) x (he:p.c b=x)=>AO5 p k b V (hx.next hV) hb x he (by rw[<-he];have h1:=(hw.c b hb).len;have h2:=hw.n1;omega));have H0:=G8 (ALL.start W);have hz1:=BQ5;have hz2:=BQ6;clear hx hw;unfold wP at CS CC⊢;go_enter func9,ntmps9;go_upto_region 3 with(first|refine TA rfl rfl ?_|refine TB rfl rfl ?_);generalize ((((W.alloc _).alloc _).alloc _).alloc _)=W1 at*;go_wp2_with fail
 go_loopg [6] 3 (fun kx s6 wr=>∃ (i:Nat) (c2:Array FX),s6=I0 i/\i<=3/\3-i<=kx/\Hid (ALL W wr TV WA c2 WA/\c2.all (·.oneCell')=true/\∀m,m<i->SvO wr (W.heap.size+4) c2 (m*10) (svP m (p.s m))))
 case atStart=>exact⟨0,TV,rfl,by omega,by omega,G8 ⟨G7 H0,hz1,fun m hm=>by omega⟩⟩
 case round=>
  obtain⟨i,c2,rfl,hi,hg,HA⟩:=hrel;clear H0;by_cases hi3:i<3
  .have hi4:(i:Int)<3:=by omega
   generalize hsv:svP i (p.s i)=s;have C:=G8 (G7 CS _ (G7 HA).1.bl i hi3 s hsv);have HV:=G8 hsv;clear hsv;go_wp2_with fail;refine(G7 C).mono ?_;rintro e w1 ⟨ad,cd,al,cl,an,cn,ai,ci,aw,cw,rfl,o0,o1,o2,o3,o4,hb1⟩;have hz:W.heap.size+4<=wr.heap.size:=(G7 HA).1.c.lt;have A1:=(G7 HA).1.next hb1;have HN:=G8 (C97 hi3 (G7 HV) A1 (G7 HA).2.1 (fun m hm=>((G7 HA).2.2 m hm).next hb1) (o0.lower hz) (o1.lower hz) (o2.lower hz) (o3.lower hz) (o4.lower hz));unfold oZ at HN;have hn:=A1.s.n;obtain⟨u0,h0⟩:∃u,c2[i*10]?=G6 u:=⟨_,BR (by omega)⟩;have x0:=(A1.s.cell (i*10)).trans h0;have z0:=A1.s.GU (i*10);obtain⟨u1,h1⟩:∃u,c2[i*10+1]?=G6 u:=⟨_,BR (by omega)⟩;have x1:=(A1.s.cell (i*10+1)).trans h1;have z1:=A1.s.GU (i*10+1);obtain⟨u2,h2⟩:∃u,c2[i*10+2]?=G6 u:=⟨_,BR (by omega)⟩;have x2:=(A1.s.cell (i*10+2)).trans h2;have z2:=A1.s.GU (i*10+2);obtain⟨u3,h3⟩:∃u,c2[i*10+3]?=G6 u:=⟨_,BR (by omega)⟩;have x3:=(A1.s.cell (i*10+3)).trans h3;have z3:=A1.s.GU (i*10+3);obtain⟨u4,h4⟩:∃u,c2[i*10+4]?=G6 u:=⟨_,BR (by omega)⟩;have x4:=(A1.s.cell (i*10+4)).trans h4;have z4:=A1.s.GU (i*10+4);obtain⟨u5,h5⟩:∃u,c2[i*10+5]?=G6 u:=⟨_,BR (by omega)⟩;have x5:=(A1.s.cell (i*10+5)).trans h5;have z5:=A1.s.GU (i*10+5);obtain⟨u6,h6⟩:∃u,c2[i*10+6]?=G6 u:=⟨_,BR (by omega)⟩;have x6:=(A1.s.cell (i*10+6)).trans h6;have z6:=A1.s.GU (i*10+6);obtain⟨u7,h7⟩:∃u,c2[i*10+7]?=G6 u:=⟨_,BR (by omega)⟩;have x7:=(A1.s.cell (i*10+7)).trans h7;have z7:=A1.s.GU (i*10+7);obtain⟨u8,h8⟩:∃u,c2[i*10+8]?=G6 u:=⟨_,BR (by omega)⟩;have x8:=(A1.s.cell (i*10+8)).trans h8;have z8:=A1.s.GU (i*10+8);obtain⟨u9,h9⟩:∃u,c2[i*10+9]?=G6 u:=⟨_,BR (by omega)⟩;have x9:=(A1.s.cell (i*10+9)).trans h9;have z9:=A1.s.GU (i*10+9);clear o0 o1 o2 o3 o4 hb1 A1 C HA HV h0 h1 h2 h3 h4 h5 h6 h7 h8 h9;go_wp2_with fail
   go_roundg (3-(i+1))
   case measure=>omega
   case rel=>exact⟨i+1,_,by simp,by omega,A8 _,HN⟩
  .obtain rfl:i=3:=by omega
   go_wp2_with fail
   go_loopg [7] 16 (fun kx s7 wr=>∃ (i:Nat) (c3:Array FX),s7=I0 i/\i<=16/\16-i<=kx/\Hid (ALL W wr TV WA c2 c3/\c3.all (·.oneCell')=true/\(∀m,m<3->SvO wr (W.heap.size+4) c2 (m*10) (svP m (p.s m)))/\∀m,m<i->ClO wr (W.heap.size+4) c3 (m*3) (p.c m)))
   case atStart=>exact⟨0,WA,rfl,by omega,by omega,G8 ⟨(G7 HA).1,hz2,(G7 HA).2.2,fun m hm=>by omega⟩⟩
   case round=>
    obtain⟨i,c3,rfl,hi,hg,HB⟩:=hrel;by_cases hi3:i<16
    .have hi4:(i:Int)<16:=by omega
     generalize hxv:p.c i=x;have C:=G8 (G7 CC _ (G7 HB).1.bl i hi3 x hxv);have HV:=G8 hxv;clear hxv;go_wp2_with fail;refine(G7 C).mono ?_;rintro e w1 ⟨a,n,rfl,o0,hb1⟩;have hz:W.heap.size+4<=wr.heap.size:=(G7 HB).1.c.lt;have A1:=(G7 HB).1.next hb1;have HN:=G8 (CM6 hi3 (G7 HV) A1 (G7 HB).2.1 (fun m hm=>((G7 HB).2.2.1 m hm).next hb1) (fun m hm=>((G7 HB).2.2.2 m hm).next hb1) (o0.lower hz));unfold iM at HN;have hn:=A1.c.n;obtain⟨u0,h0⟩:∃u,c3[i*3]?=G6 u:=⟨_,BR (by omega)⟩;have x0:=(A1.c.cell (i*3)).trans h0;have z0:=A1.c.GU (i*3);obtain⟨u1,h1⟩:∃u,c3[i*3+1]?=G6 u:=⟨_,BR (by omega)⟩;have x1:=(A1.c.cell (i*3+1)).trans h1;have z1:=A1.c.GU (i*3+1);obtain⟨u2,h2⟩:∃u,c3[i*3+2]?=G6 u:=⟨_,BR (by omega)⟩;have x2:=(A1.c.cell (i*3+2)).trans h2;have z2:=A1.c.GU (i*3+2);clear o0 hb1 A1 C HB HV h0 h1 h2;go_wp2_with fail
     go_roundg (16-(i+1))
     case measure=>omega
     case rel=>exact⟨i+1,_,by simp,by omega,A8 _,HN⟩
    .obtain rfl:i=16:=by omega
     have HH1:=(G7 HA).2.1;have HH2:=(G7 HB).2.1;clear HA;go_upto_region 11 with fail;have n2:=(G7 HB).1.s.n;have n3:=(G7 HB).1.c.n;have HD:=G8 (G7 HB).2;have HA:=G8 (G7 HB).1;clear HB CS CC;have hS0:wr.drew.heap[W.heap.size+2]?=G6 (FV c2 41 (0,0))/\wr.drew.heap[W.heap.size+3]?=G6 (FV c3 45 (0,0)):=⟨(G7 HA).s.b,(G7 HA).c.b⟩;refine wp_region_held (S:=fun V:FW=>V.heap[W.heap.size+2]?=G6 (FV c2 41 (0,0))/\V.heap[W.heap.size+3]?=G6 (FV c3 45 (0,0))) (by kernel_rfl) ?_;change wpAnyH _ _ _ _ _ _ _ _ wr.drew;refine tkH 0 hS0 ?_ (hy:=fun w hw=>C85 _ rfl _ _ rfl hw.1 n2);refine tkH 1 hS0 ?_ (hy:=fun w hw=>C87 _ rfl _ _ rfl hw.2 n3);have b0:wr.drew.heap[W.heap.size]?=G6 (FV TV 41 (0,0)):=(G7 HA).r.b;have b1:wr.drew.heap[W.heap.size+1]?=G6 (FV WA 45 (0,0)):=(G7 HA).q.b;have hS1:(wr.drew.setRow W.heap.size c2).heap[W.heap.size+2]?=G6 (FV c2 41 (0,0))/\(wr.drew.setRow W.heap.size c2).heap[W.heap.size+3]?=G6 (FV c3 45 (0,0)):=⟨(setRow_other _ _ _ _ (by omega)).trans hS0.1,(setRow_other _ _ _ _ (by omega)).trans hS0.2⟩;refine rd1 2 (fun K hK=>?_);refine BZ1 (by rfl) ?_;refine wp_store_row _ _ _ rfl W.heap.size c2 rfl rfl _ TV b0 (B74 n2) (XV.trans n2.symm) HH1 ?_;refine nxH hK hS1 ?_;clear hK K;have b2:(wr.drew.setRow W.heap.size c2).heap[W.heap.size+1]?=G6 (FV WA 45 (0,0)):=(setRow_other _ _ _ _ (by omega)).trans b1;have hS2:((wr.drew.setRow W.heap.size c2).setRow (W.heap.size+1) c3).heap[W.heap.size+2]?=G6 (FV c2 41 (0,0))/\((wr.drew.setRow W.heap.size c2).setRow (W.heap.size+1) c3).heap[W.heap.size+3]?=G6 (FV c3 45 (0,0)):=⟨(setRow_other _ _ _ _ (by omega)).trans hS1.1,(setRow_other _ _ _ _ (by omega)).trans hS1.2⟩;refine rd1 3 (fun K hK=>?_);refine BZ1 (by rfl) ?_;refine wp_store_row _ _ _ rfl (W.heap.size+1) c3 rfl rfl _ WA b2 (B75 n3) (XY.trans n3.symm) HH2 ?_;refine nxH hK hS2 ?_;clear hK K;refine wpAnyH_done (by kernel_rfl) ?_ _;have f0:((wr.drew.setRow W.heap.size c2).setRow (W.heap.size+1) c3).heap[W.heap.size]?=G6 (FV c2 41 (0,0)):=(setRow_other _ _ _ _ (by omega)).trans (setRow_heap _ _ _ _ _ _ b0);have f1:((wr.drew.setRow W.heap.size c2).setRow (W.heap.size+1) c3).heap[W.heap.size+1]?=G6 (FV c3 45 (0,0)):=setRow_heap _ _ _ _ _ _ b2;have HBL:=below_setRow (below_setRow (G7 HA).bl.drew (A8 _) c2) (Nat.le_succ _) c3;have ht:Touch (fun b=>b=W.heap.size\/b=W.heap.size+1) wr ((wr.drew.setRow W.heap.size c2).setRow (W.heap.size+1) c3):=⟨rfl,rfl,rfl,by simp,fun b hb hn=>(setRow_other _ _ _ _ (by omega)).trans (setRow_other _ _ _ _ (by omega))⟩;have HF:=C98 (p:=p) n2 n3 HH1 HH2 (G7 HD).2.1 (G7 HD).2.2 ht;clear HA HD hS0 hS1 hS2 b0 b1 b2 HH1 HH2 ht;generalize ((wr.drew.setRow W.heap.size c2).setRow (W.heap.size+1) c3)=U at*;go_wp2_with fail;exact bodyPost_ret (v:=.tuple #[.agg c2,.agg c3]) (A47 rfl rfl rfl (AD4 _ _ _ f0 n2) (AD5 _ _ _ f1 n3)) rfl ⟨c2,c3,rfl,HF,HBL⟩
theorem AO6(t:Tr)(vn vs un us:FX)(w:FW)(hn:IL w vn t.ns)(hs:IL w vs t.ss)(gn:IL w un t.ns)(gs:IL w us t.ss)(hl:t.ns.length<=140737488355328)(hls:t.ss.length<=140737488355328):
  FZ prog 27 #[.agg #[I0 t.z,vn,vs],.agg #[I0 t.z,un,us]] w (R0 w (.bool true)):=by
 have K:∀ {α:Type} [Lay α] (v:FX) (xs:List α),IL w v xs->∀W,B0 w W->∀ (i:Nat) (x:α),xs[i]?=G6 x->∃b off c,v=FU (G6 ⟨b,off,G5⟩) xs.length c/\b<w.heap.size/\IC W b off (GI xs):=by
  intro α _ v xs hv W hW i x hx;obtain⟨b,off,c,e,hb,hr,_,_⟩:=MV hv (by intro h0;rw[h0]at hx;simp at hx);exact⟨b,off,c,e,hb,hr.kept hW hb⟩
 have K1:=G8 (K vn t.ns hn);have K2:=G8 (K un t.ns gn);have K3:=G8 (K vs t.ss hs);have K4:=G8 (K us t.ss gs);have T0:=G8 (TT.new w t.z vn vs un us);obtain⟨na,nc,rfl⟩:=GK hn;obtain⟨sa,sc,rfl⟩:=GK hs;obtain⟨ma,mc,rfl⟩:=GK gn;obtain⟨ra,rc,rfl⟩:=GK gs;clear hn hs gn gs K;go_enter func27,ntmps27;go_wp2_with fail
 go_loopg [5] t.ns.length (fun kx s5 wr=>∃k:Nat,s5=I0 k/\k<=t.ns.length/\t.ns.length-k<=kx/\Hid (TT w wr t.z (FU na t.ns.length nc) (FU sa t.ss.length sc) (FU ma t.ns.length mc) (FU ra t.ss.length rc)))
 case atStart=>exact⟨0,rfl,AZ _,A8 _,T0⟩
 case round=>
  obtain⟨k,rfl,hk,hg,hT⟩:=hrel;obtain⟨c0,c1,c2,c3,c4,c5⟩:=(G7 hT).six;have hsz:=(G7 hT).bl.size;by_cases hlt:k<t.ns.length
  .obtain⟨x,hx⟩:∃x,t.ns[k]?=G6 x:=⟨_,AO hlt⟩;obtain⟨b1,o1,cc1,he,hb1,q1⟩:=G7 K1 wr (G7 hT).bl k x hx;simp only[AQ]at he;obtain⟨rfl,_,rfl⟩:=he;obtain⟨b2,o2,cc2,he,hb2,q2⟩:=G7 K2 wr (G7 hT).bl k x hx;simp only[AQ]at he;obtain⟨rfl,_,rfl⟩:=he;have d0:=q1.n0 hx;have d1:=q1.n1 hx;have d2:=q1.n2 hx;have d3:=q1.n3 hx;have d4:=q1.n4 hx;have d5:=q1.n5 hx;have d6:=q1.n6 hx;have d7:=q1.n7 hx;have d8:=q1.n8 hx;have r0:=q2.n0 hx;have r1:=q2.n1 hx;have r2:=q2.n2 hx;have r3:=q2.n3 hx;have r4:=q2.n4 hx;have r5:=q2.n5 hx;have r6:=q2.n6 hx;have r7:=q2.n7 hx;have r8:=q2.n8 hx;clear q1 q2 hx;go_wp2_with fail;go_region;go_wp2_with fail
   go_roundg (t.ns.length-(k+1))
   case measure=>omega
   case rel=>exact⟨k+1,rfl,by omega,A8 _,G8 ((G7 hT).next (AA _ _).drew)⟩
  .obtain rfl:k=t.ns.length:=by omega
   go_wp2_with fail
   go_loopg [6] t.ss.length (fun kx s6 wr=>∃k:Nat,s6=I0 k/\k<=t.ss.length/\t.ss.length-k<=kx/\Hid (TT w wr t.z (FU na t.ns.length nc) (FU sa t.ss.length sc) (FU ma t.ns.length mc) (FU ra t.ss.length rc)))
   case atStart=>exact⟨0,rfl,AZ _,A8 _,hT⟩
   case round=>
    obtain⟨k,rfl,hk,hg,hT⟩:=hrel;obtain⟨c0,c1,c2,c3,c4,c5⟩:=(G7 hT).six;by_cases hlt:k<t.ss.length
    .obtain⟨x,hx⟩:∃x,t.ss[k]?=G6 x:=⟨_,AO hlt⟩;obtain⟨b1,o1,cc1,he,hb1,q1⟩:=G7 K3 wr (G7 hT).bl k x hx;simp only[AQ]at he;obtain⟨rfl,_,rfl⟩:=he;obtain⟨b2,o2,cc2,he,hb2,q2⟩:=G7 K4 wr (G7 hT).bl k x hx;simp only[AQ]at he;obtain⟨rfl,_,rfl⟩:=he;have d0:=q1.i0 hx;have r0:=q2.i0 hx;clear q1 q2 hx;go_wp2_with fail;go_region;go_wp2_with fail
     go_roundg (t.ss.length-(k+1))
     case measure=>omega
     case rel=>exact⟨k+1,rfl,by omega,A8 _,G8 ((G7 hT).next (AA _ _).drew)⟩
    .obtain rfl:k=t.ss.length:=by omega
     go_wp2_with fail;go_ret;exact⟨rfl,(G7 hT).bl⟩
theorem sD{ts:List GN}(hv:NC w v ts):(∃a c,v=FU a 0 c/\ts=[])\/∃b off c,v=FU (G6 ⟨b,off,G5⟩) ts.length c/\b<w.heap.size/\IC w b off (JZ ts)/\ts≠[]:=by
 rcases hv with⟨a,cap,rfl,rfl,_⟩|⟨b,off,cap,rfl,_,_,hb,h0,hr⟩
 .exact .inl ⟨a,cap,rfl,rfl⟩
 .exact .inr ⟨b,off,cap,rfl,hb,hr,h0⟩
theorem BR2(a a':Option Addr)(c c':Nat)(w:FW):
  FZ prog 22 #[FU a 0 c,FU a' 0 c'] w (R0 w (.bool true)):=by
 go_enter func22,ntmps22;go_wp2_with fail
 go_loopg [5] 1 (fun _ s wr=>s=I0 0/\wr=w)
 case atStart=>exact⟨rfl,rfl⟩
 case round=>
  obtain⟨rfl,rfl⟩:=hrel;go_wp2_with fail;go_ret;exact⟨rfl,AA _ _⟩
theorem BR3(b off c b' off' c':Nat)(ts:List GN)(w:FW)(hl:ts.length<=1000000)(hr:IC w b off (JZ ts))(hr':IC w b' off' (JZ ts)):
  FZ prog 22 #[FU (G6 ⟨b,off,G5⟩) ts.length c,FU (G6 ⟨b',off',G5⟩) ts.length c'] w (R0 w (.bool true)):=by
 have HR:=G8 hr;have HR':=G8 hr';clear hr hr';go_enter func22,ntmps22;go_wp2_with fail
 go_loopg [5] ts.length (fun kx s wr=>∃ (k:Nat) (q:Nat),s=I0 k/\k<=ts.length/\ts.length-k<=kx/\wr=w.drewN q)
 case atStart=>exact⟨0,0,rfl,AZ _,by omega,rfl⟩
 case round=>
  obtain⟨k,q,rfl,hk,hkx,rfl⟩:=hrel;by_cases hlt:k<ts.length
  .obtain⟨t,ht⟩:∃t,ts[k]?=G6 t:=⟨_,AO hlt⟩;have r:=G7 HR;have e0:=r.z ht;have e1:=r.o ht;have e2:=r.s ht;have e3:=r.p ht;have e4:=r.d ht;have e5:=r.v ht;have e6:=r.w ht;have r':=G7 HR';have e0':=r'.z ht;have e1':=r'.o ht;have e2':=r'.s ht;have e3':=r'.p ht;have e4':=r'.d ht;have e5':=r'.v ht;have e6':=r'.w ht;have BE5:(k:Int)<(ts.length:Int):=by omega
   clear r r' ht;go_wp2_with fail;go_region;go_wp2_with fail
   go_roundg (ts.length-(k+1))
   case measure=>omega
   case rel=>exact⟨k+1,q+1,rfl,by omega,A8 _,rfl⟩
  .have hki:¬ ((k:Int)<(ts.length:Int)):=by omega
   go_wp2_with fail;go_ret;exact⟨rfl,⟨rfl,rfl,rfl,A8 _,fun _ _=>rfl⟩⟩
theorem C99(v v':FX)(ts:List GN)(w:FW)(hl:ts.length<=1000000)(hv:NC w v ts)(hv':NC w v' ts):
  FZ prog 22 #[v,v'] w (R0 w (.bool true)):=by
 rcases sD hv with⟨a,c,rfl,h0⟩|⟨b,off,c,rfl,hb,hr,h0⟩
 .rcases sD hv' with⟨a',c',rfl,_⟩|⟨b',off',c',rfl,hb',hr',h0'⟩
  .exact BR2 a a' c c' w
  .exact absurd h0 h0'
 .rcases sD hv' with⟨a',c',rfl,h0'⟩|⟨b',off',c',rfl,hb',hr',h0'⟩
  .exact absurd h0' h0
  .exact BR3 b off c b' off' c' ts w hl hr hr'
theorem UY{α:Type}[Lay α]{xs:List α}(hv:IL w v xs):∀W,B0 w W->∀ (i:Nat) (x:α),xs[i]?=G6 x->∃b off c,v=FU (G6 ⟨b,off,G5⟩) xs.length c/\b<w.heap.size/\∀ (j:Nat) (u:FX),j<Lay.k α->(Lay.cs x)[j]?=G6 u->W.cell? ⟨b,off+i*Lay.k α+j,G5⟩=G6 u:=by
 intro W hW i x hx;obtain⟨b,off,c,e,hb,hr,_,_⟩:=MV hv (by intro h0;rw[h0]at hx;simp at hx);refine⟨b,off,c,e,hb,fun j u hj hu=>?_⟩;have:=hr.kept hW hb (i*Lay.k α+j) u ((GY xs i x hx j hj).trans hu);rwa[<-Nat.add_assoc]at this
structure SS(w W:FW)(up:Bool)(vd:FX)(id ep:Int)(vl:FX)(dn z:Int)(vn vs vw ud ul un us uw:FX):Prop where
 a:IG W w.heap.size up vd id ep vl dn z vn vs vw
 b:IG W (w.heap.size+1) up ud id ep ul dn z un us uw
 bl:B0 w W
section
variable {w W V:FW} {up:Bool} {id ep dn z:Int} {vd vl vn vs vw ud ul un us uw:FX}
theorem SS.next(h:SS w W up vd id ep vl dn z vn vs vw ud ul un us uw)(hb:B0 W V):SS w V up vd id ep vl dn z vn vs vw ud ul un us uw:=⟨h.a.next hb,h.b.next hb,GH h.bl hb⟩
theorem SS.new(w:FW)(up:Bool)(id ep dn z:Int)(vd vl vn vs vw ud ul un us uw:FX):SS w ((w.alloc (FV #[.bool up,vd,I0 id,I0 ep,vl,I0 dn,I0 z,vn,vs,vw] 40)).alloc (FV #[.bool up,ud,I0 id,I0 ep,ul,I0 dn,I0 z,un,us,uw] 40)) up vd id ep vl dn z vn vs vw ud ul un us uw:=by
 have h:=IG.new (w.alloc (FV #[.bool up,vd,I0 id,I0 ep,vl,I0 dn,I0 z,vn,vs,vw] 40)) up id ep dn z ud ul un us uw;rw[show (w.alloc (FV #[.bool up,vd,I0 id,I0 ep,vl,I0 dn,I0 z,vn,vs,vw] 40)).heap.size=w.heap.size+1 by simp]at h;exact⟨(IG.new w up id ep dn z vd vl vn vs vw).next (G9 _ _),h,GH (G9 _ _) (G9 _ _)⟩
theorem SS.cells(h:SS w W up vd id ep vl dn z vn vs vw ud ul un us uw):(W.cell? ⟨w.heap.size,0,G5⟩=G6 (.bool up)/\W.cell? ⟨w.heap.size,1,G5⟩=G6 vd/\W.cell? ⟨w.heap.size,2,G5⟩=G6 (I0 id)/\W.cell? ⟨w.heap.size,3,G5⟩=G6 (I0 ep)/\W.cell? ⟨w.heap.size,4,G5⟩=G6 vl/\W.cell? ⟨w.heap.size,5,G5⟩=G6 (I0 dn)/\W.cell? ⟨w.heap.size,6,G5⟩=G6 (I0 z)/\W.cell? ⟨w.heap.size,7,G5⟩=G6 vn/\W.cell? ⟨w.heap.size,8,G5⟩=G6 vs/\W.cell? ⟨w.heap.size,9,G5⟩=G6 vw)/\W.cell? ⟨w.heap.size+1,0,G5⟩=G6 (.bool up)/\W.cell? ⟨w.heap.size+1,1,G5⟩=G6 ud/\W.cell? ⟨w.heap.size+1,2,G5⟩=G6 (I0 id)/\W.cell? ⟨w.heap.size+1,3,G5⟩=G6 (I0 ep)/\W.cell? ⟨w.heap.size+1,4,G5⟩=G6 ul/\W.cell? ⟨w.heap.size+1,5,G5⟩=G6 (I0 dn)/\W.cell? ⟨w.heap.size+1,6,G5⟩=G6 (I0 z)/\W.cell? ⟨w.heap.size+1,7,G5⟩=G6 un/\W.cell? ⟨w.heap.size+1,8,G5⟩=G6 us/\W.cell? ⟨w.heap.size+1,9,G5⟩=G6 uw:=⟨h.a.cells,h.b.cells⟩
end
theorem A48(s:Sv)(v1 v2:FX)(w:FW)(hf:CT5 s)(h1:SvV w v1 s)(h2:SvV w v2 s):
  FZ prog 11 #[v1,v2] w (R0 w (.bool true)):=by
 obtain⟨ad,nd,cd,al,cl,an,cn,ai,ci,aw,cw,rfl,d1,l1,n1,s1,k1⟩:=h1.five;obtain⟨bd,md,ed,bl,el,bn,en,bi,ei,bw,ew,rfl,d2,l2,n2,s2,k2⟩:=h2.five;have q1:=P9.2 d1;have q2:=P9.2 d2;obtain⟨_,_,e1⟩:=GK q1;obtain⟨_,_,e2⟩:=GK q2;simp only[AQ]at e1 e2;have em1:nd=s.fs.length:=e1.2.1;have em2:md=s.fs.length:=e2.2.1;subst em1;obtain rfl:=em2;clear e1 e2;have CL:=G8 (fun W (hW:B0 w W)=>C99 _ _ s.ts W (by have:=hf.l;omega) (l1.next hW) (l2.next hW));have CT:=G8 (fun W (hW:B0 w W)=>AO6 s.tr _ _ _ _ W (n1.next hW) (s1.next hW) (n2.next hW) (s2.next hW) (by have:=hf.n;omega) (by have:=hf.i;omega));have K1:=G8 (UY q1);have K2:=G8 (UY q2);have K3:=G8 (UY k1);have K4:=G8 (UY k2);have hfd:=hf.d;have hfw:=hf.w;clear h1 h2 d1 d2 l1 l2 n1 n2 s1 s2 k1 k2 hf q1 q2;obtain⟨up,fs,id,ep,ts,dn,tr,ws⟩:=s;simp only at*;go_enter func11,ntmps11;go_upto_region 1 with fail;have HS0:=G8 (SS.new w up id ep dn tr.z (FU ad fs.length cd) (FU al ts.length cl) (FU an tr.ns.length cn) (FU ai tr.ss.length ci) (FU aw ws.length cw) (FU bd fs.length ed) (FU bl ts.length el) (FU bn tr.ns.length en) (FU bi tr.ss.length ei) (FU bw ws.length ew));generalize ((w.alloc _).alloc _)=W0 at*;obtain⟨⟨x0,x1,x2,x3,x4,x5,x6,x7,x8,x9⟩,y0,y1,y2,y3,y4,y5,y6,y7,y8,y9⟩:=(G7 HS0).cells;go_wp2_with fail;refine(G7 CL _ (G7 HS0).bl).mono ?_;rintro e w1 ⟨rfl,hb1⟩;have HS1:=G8 ((G7 HS0).next hb1);clear x0 y0 x1 y1 x2 y2 x3 y3 x4 y4 x5 y5 x6 y6 x7 y7 x8 y8 x9 y9 hb1 HS0 CL;obtain⟨⟨x0,x1,x2,x3,x4,x5,x6,x7,x8,x9⟩,y0,y1,y2,y3,y4,y5,y6,y7,y8,y9⟩:=(G7 HS1).cells;go_wp2_with fail;refine(G7 CT _ (G7 HS1).bl).mono ?_;rintro e w2 ⟨rfl,hb2⟩;have HS:=G8 ((G7 HS1).next hb2);clear x0 y0 x1 y1 x2 y2 x3 y3 x4 y4 x5 y5 x6 y6 x7 y7 x8 y8 x9 y9 hb2 HS1 CT;obtain⟨⟨x0,x1,x2,x3,x4,x5,x6,x7,x8,x9⟩,y0,y1,y2,y3,y4,y5,y6,y7,y8,y9⟩:=(G7 HS).cells;go_wp2_with fail;clear x0 y0 x1 y1 x2 y2 x3 y3 x4 y4 x5 y5 x6 y6 x7 y7 x8 y8 x9 y9
 go_loopg [5] fs.length (fun kx s wr=>∃i:Nat,s=I0 i/\i<=fs.length/\fs.length-i<=kx/\Hid (SS w wr up (FU ad fs.length cd) id ep (FU al ts.length cl) dn tr.z (FU an tr.ns.length cn) (FU ai tr.ss.length ci) (FU aw ws.length cw) (FU bd fs.length ed) (FU bl ts.length el) (FU bn tr.ns.length en) (FU bi tr.ss.length ei) (FU bw ws.length ew)))
 case atStart=>exact⟨0,rfl,AZ _,A8 _,HS⟩
 case round=>
  obtain⟨i,rfl,hi,hg,HS⟩:=hrel;obtain⟨⟨x0,x1,x2,x3,x4,x5,x6,x7,x8,x9⟩,y0,y1,y2,y3,y4,y5,y6,y7,y8,y9⟩:=(G7 HS).cells;have hsz:=(G7 HS).bl.size;by_cases hlt:i<fs.length
  .obtain⟨x,hx⟩:∃x,fs[i]?=G6 x:=⟨_,AO hlt⟩;have BE5:(i:Int)<(fs.length:Int):=by omega
   obtain⟨b1,o1,cc1,he,hb1,q1⟩:=G7 K1 wr (G7 HS).bl i x hx;simp only[AQ]at he;obtain⟨rfl,_,rfl⟩:=he;obtain⟨b2,o2,cc2,he,hb2,q2⟩:=G7 K2 wr (G7 HS).bl i x hx;simp only[AQ]at he;obtain⟨rfl,_,rfl⟩:=he;have df0:=q1 0 _ (by decide) rfl;have ef0:=q2 0 _ (by decide) rfl;have df1:=q1 1 _ (by decide) rfl;have ef1:=q2 1 _ (by decide) rfl;have df2:=q1 2 _ (by decide) rfl;have ef2:=q2 2 _ (by decide) rfl;clear q1 q2 hx;simp only[Lay.k,Nat.add_zero]at df0 df1 df2 ef0 ef1 ef2;go_wp2_with fail;go_region;go_wp2_with fail
   go_roundg (fs.length-(i+1))
   case measure=>omega
   case rel=>exact⟨i+1,rfl,by omega,A8 _,G8 ((G7 HS).next (AA _ _).drew)⟩
  .obtain rfl:i=fs.length:=by omega
   go_wp2_with fail
   go_loopg [6] ws.length (fun kx s wr=>∃i:Nat,s=I0 i/\i<=ws.length/\ws.length-i<=kx/\Hid (SS w wr up (FU ad fs.length cd) id ep (FU al ts.length cl) dn tr.z (FU an tr.ns.length cn) (FU ai tr.ss.length ci) (FU aw ws.length cw) (FU bd fs.length ed) (FU bl ts.length el) (FU bn tr.ns.length en) (FU bi tr.ss.length ei) (FU bw ws.length ew)))
   case atStart=>exact⟨0,rfl,AZ _,A8 _,HS⟩
   case round=>
    obtain⟨i,rfl,hi,hg,HS⟩:=hrel;obtain⟨⟨x0,x1,x2,x3,x4,x5,x6,x7,x8,x9⟩,y0,y1,y2,y3,y4,y5,y6,y7,y8,y9⟩:=(G7 HS).cells;have hsz:=(G7 HS).bl.size;by_cases hlt:i<ws.length
    .obtain⟨x,hx⟩:∃x,ws[i]?=G6 x:=⟨_,AO hlt⟩;have BE5:(i:Int)<(ws.length:Int):=by omega
     obtain⟨b1,o1,cc1,he,hb1,q1⟩:=G7 K3 wr (G7 HS).bl i x hx;simp only[AQ]at he;obtain⟨rfl,_,rfl⟩:=he;obtain⟨b2,o2,cc2,he,hb2,q2⟩:=G7 K4 wr (G7 HS).bl i x hx;simp only[AQ]at he;obtain⟨rfl,_,rfl⟩:=he;have dw0:=q1 0 _ (by decide) rfl;have ew0:=q2 0 _ (by decide) rfl;have dw1:=q1 1 _ (by decide) rfl;have ew1:=q2 1 _ (by decide) rfl;have dw2:=q1 2 _ (by decide) rfl;have ew2:=q2 2 _ (by decide) rfl;clear q1 q2 hx;simp only[Lay.k,Nat.add_zero]at dw0 dw1 dw2 ew0 ew1 ew2;go_wp2_with fail;go_region;go_wp2_with fail
     go_roundg (ws.length-(i+1))
     case measure=>omega
     case rel=>exact⟨i+1,rfl,by omega,A8 _,G8 ((G7 HS).next (AA _ _).drew)⟩
    .obtain rfl:i=ws.length:=by omega
     go_wp2_with fail;go_ret;exact⟨rfl,(G7 HS).bl⟩
theorem AO7(s z:Int)(es:List En)(v1 v2:FX)(w:FW)(hl:es.length<=400)(h1:IL w v1 es)(h2:IL w v2 es):
  FZ prog 12 #[.agg #[I0 s,I0 z,v1],.agg #[I0 s,I0 z,v2]] w (R0 w (.bool true)):=by
 have K1:=G8 (UY h1);have K2:=G8 (UY h2);obtain⟨a1,c1,rfl⟩:=GK h1;obtain⟨a2,c2,rfl⟩:=GK h2;have HA:Hid (MZ ((w.alloc (FV #[I0 s,I0 z,FU a1 es.length c1] 44)).alloc (FV #[I0 s,I0 z,FU a2 es.length c2] 44)) w.heap.size s z (FU a1 es.length c1)):=G8 ((MZ.new w s z _).next (G9 _ _));have HB0:=MZ.new (w.alloc (FV #[I0 s,I0 z,FU a1 es.length c1] 44)) s z (FU a2 es.length c2);rw[show (w.alloc (FV #[I0 s,I0 z,FU a1 es.length c1] 44)).heap.size=w.heap.size+1 by simp]at HB0;have HB:=G8 HB0;have BL:=G8 (GH (G9 w (FV #[I0 s,I0 z,FU a1 es.length c1] 44)) (G9 _ (FV #[I0 s,I0 z,FU a2 es.length c2] 44)));clear h1 h2 HB0;go_enter func12,ntmps12;go_upto_region 1 with fail;generalize ((w.alloc _).alloc _)=W0 at*;have x0:=(G7 HA).c0;have x1:=(G7 HA).c1;have x2:=(G7 HA).c2;have y0:=(G7 HB).c0;have y1:=(G7 HB).c1;have y2:=(G7 HB).c2;go_wp2_with fail;clear x0 x1 x2 y0 y1 y2
 go_loopg [5] es.length (fun kx s5 wr=>∃i:Nat,s5=I0 i/\i<=es.length/\es.length-i<=kx/\Hid (MZ wr w.heap.size s z (FU a1 es.length c1)/\MZ wr (w.heap.size+1) s z (FU a2 es.length c2)/\B0 w wr))
 case atStart=>exact⟨0,rfl,AZ _,A8 _,G8 ⟨G7 HA,G7 HB,G7 BL⟩⟩
 case round=>
  obtain⟨i,rfl,hi,hg,HS⟩:=hrel;clear HA HB BL;have x2:=(G7 HS).1.c2;have y2:=(G7 HS).2.1.c2;have hsz:=(G7 HS).2.2.size;by_cases hlt:i<es.length
  .obtain⟨x,hx⟩:∃x,es[i]?=G6 x:=⟨_,AO hlt⟩;have BE5:(i:Int)<(es.length:Int):=by omega
   obtain⟨b1,o1,cc1,he,hb1,q1⟩:=G7 K1 wr (G7 HS).2.2 i x hx;simp only[AQ]at he;obtain⟨rfl,_,rfl⟩:=he;obtain⟨b2,o2,cc2,he,hb2,q2⟩:=G7 K2 wr (G7 HS).2.2 i x hx;simp only[AQ]at he;obtain⟨rfl,_,rfl⟩:=he;have d0:=q1 0 _ (by decide) rfl;have d1:=q1 1 _ (by decide) rfl;have d2:=q1 2 _ (by decide) rfl;have e0:=q2 0 _ (by decide) rfl;have e1:=q2 1 _ (by decide) rfl;have e2:=q2 2 _ (by decide) rfl;clear q1 q2 hx;simp only[Lay.k,Nat.add_zero]at d0 d1 d2 e0 e1 e2;go_wp2_with fail;go_region;go_wp2_with fail
   go_roundg (es.length-(i+1))
   case measure=>omega
   case rel=>exact⟨i+1,rfl,by omega,A8 _,G8 ⟨(G7 HS).1.next (AA _ _).drew,(G7 HS).2.1.next (AA _ _).drew,GH (G7 HS).2.2 (AA _ _).drew⟩⟩
  .obtain rfl:i=es.length:=by omega
   go_wp2_with fail;go_ret;exact⟨rfl,(G7 HS).2.2⟩
structure Snp(W:FW)(B g:Nat)(p:Pw):Prop where
 ex:∃c1 c2,W.heap[g]?=G6 (FV c1 41 (0,0))/\W.heap[g+1]?=G6 (FV c2 45 (0,0))/\BE8 B W p c1 c2
section
variable {W V w:FW} {B g k i:Nat} {p q:Pw} {c1 c2:Array FX}
theorem Snp.lt(h:Snp W B g p):g+1<W.heap.size:=by
 obtain⟨_,_,_,h,_⟩:=h.ex;exact(Array.getElem?_eq_some_iff.1 h).1
theorem Snp.next(h:Snp W B g p)(hb:B0 W V):Snp V B g p:=by
 have hl:=h.lt;obtain⟨c1,c2,h1,h2,h3⟩:=h.ex;exact⟨c1,c2,(hb.block _ (by omega)).trans h1,(hb.block _ hl).trans h2,h3.next hb⟩
theorem Snp.touch(h:Snp W B g p)(ht:Touch (· =k) W V)(hk:k<B)(hg:k<g):Snp V B g p:=by
 have hl:=h.lt;obtain⟨c1,c2,h1,h2,h3⟩:=h.ex;exact⟨c1,c2,(ht.block _ (by omega) (by omega)).trans h1,(ht.block _ hl (by omega)).trans h2,h3.touch ht hk⟩
theorem CA0(w:FW):((w.alloc (FV TV 41)).alloc (FV WA 45)).heap[w.heap.size]?=G6 (FV TV 41 (0,0)):=((G9 _ _).block _ (by simp)).trans (heap_alloc_new w _)
theorem CM7(w:FW)(c1:Array FX):(((w.alloc (FV TV 41)).alloc (FV WA 45)).setRow w.heap.size c1).heap[w.heap.size+1]?=G6 (FV WA 45 (0,0)):=by
 rw[setRow_other _ _ _ _ (by omega)];have:=heap_alloc_new (w.alloc (FV TV 41)) (FV WA 45);rwa[show (w.alloc (FV TV 41)).heap.size=w.heap.size+1 by simp]at this
theorem CM8(w:FW)(c1:Array FX):(((w.alloc (FV TV 41)).alloc (FV WA 45)).setRow w.heap.size c1).heap[(w.alloc (FV TV 41)).heap.size]?=G6 (FV WA 45 (0,0)):=by
 rw[show (w.alloc (FV TV 41)).heap.size=w.heap.size+1 by simp];exact CM7 w c1
theorem AE2(h:BE8 B w p c1 c2):Snp ((((w.alloc (FV TV 41)).alloc (FV WA 45)).setRow w.heap.size c1).setRow (w.heap.size+1) c2) B w.heap.size p/\B0 w ((((w.alloc (FV TV 41)).alloc (FV WA 45)).setRow w.heap.size c1).setRow (w.heap.size+1) c2):=by
 have hb:=below_setRow (below_setRow (GH (G9 w (FV TV 41)) (G9 _ (FV WA 45))) (A8 _) c1) (Nat.le_succ w.heap.size) c2;exact⟨⟨c1,c2,(setRow_other _ _ _ _ (by omega)).trans (setRow_heap _ _ _ _ _ _ (CA0 w)),setRow_heap _ _ _ _ _ _ (CM7 w c1),h.next hb⟩,hb⟩
theorem Snp.srv(h:Snp W B g p)(hi:i<3){s:Sv}(hs:svP i (p.s i)=s):∃vd vl vn vs vw,SvV W (.agg #[.bool s.up,vd,I0 s.id,I0 s.ep,vl,I0 s.dn,I0 s.tr.z,vn,vs,vw]) s/\∀V,B0 W V->
  V.cell? ⟨g,i*10,G5⟩=G6 (.bool s.up)/\V.cell? ⟨g,i*10+1,G5⟩=G6 vd/\V.cell? ⟨g,i*10+2,G5⟩=G6 (I0 s.id)/\V.cell? ⟨g,i*10+3,G5⟩=G6 (I0 s.ep)/\V.cell? ⟨g,i*10+4,G5⟩=G6 vl/\V.cell? ⟨g,i*10+5,G5⟩=G6 (I0 s.dn)/\V.cell? ⟨g,i*10+6,G5⟩=G6 (I0 s.tr.z)/\V.cell? ⟨g,i*10+7,G5⟩=G6 vn/\V.cell? ⟨g,i*10+8,G5⟩=G6 vs/\V.cell? ⟨g,i*10+9,G5⟩=G6 vw:=by
 have hl:=h.lt;obtain⟨c1,c2,h1,_,h3⟩:=h.ex;have hS:=h3.s i hi;rw[hs]at hS;obtain⟨ad,cd,al,cl,an,cn,ai,ci,aw,cw,⟨x0,x1,x2,x3,x4,x5,x6,x7,x8,x9⟩,r0,r1,r2,r3,r4⟩:=hS;refine⟨_,_,_,_,_,⟨_,_,_,_,_,rfl,P9.1 r0.seq,NY.1 r1.seq,r2.seq,r3.seq,r4.seq⟩,fun V hV=>?_⟩;have e:∀j,V.cell? ⟨g,j,G5⟩=c1[j]? :=fun j=>cell_of_row _ _ j c1 _ (0,0) ((hV.block _ (by omega)).trans h1);exact⟨(e _).trans x0,(e _).trans x1,(e _).trans x2,(e _).trans x3,(e _).trans x4,(e _).trans x5,(e _).trans x6,(e _).trans x7,(e _).trans x8,(e _).trans x9⟩
theorem Snp.cl(h:Snp W B g p)(hi:i<16){x:Cl}(hx:p.c i=x):∃v,IL W v x.es/\∀V,B0 W V->
  V.cell? ⟨g+1,i*3,G5⟩=G6 (I0 x.s)/\V.cell? ⟨g+1,i*3+1,G5⟩=G6 (I0 x.z)/\V.cell? ⟨g+1,i*3+2,G5⟩=G6 v:=by
 have hl:=h.lt;obtain⟨c1,c2,_,h2,h3⟩:=h.ex;have hC:=h3.c i hi;rw[hx]at hC;obtain⟨a,n,⟨x0,x1,x2⟩,r0⟩:=hC;refine⟨_,r0.seq,fun V hV=>?_⟩;have e:∀j,V.cell? ⟨g+1,j,G5⟩=c2[j]? :=fun j=>cell_of_row _ _ j c2 _ (0,0) ((hV.block _ hl).trans h2);exact⟨(e _).trans x0,(e _).trans x1,(e _).trans x2⟩
end
theorem CW5(h:RZ p):∀i,i<3->CT5 (svP i (p.s i)):=fun i hi=>((h.s i hi).more h.n1).few
theorem CW6(h:RZ p):∀i,i<16->(p.c i).es.length<=400:=fun i hi=>by have h1:=(h.c i hi).len;have h2:=h.n1;omega
def rpV(r:Rp)(v:FX):FX:=.agg #[I0 r.E,I0 r.z,S0 r.p,S0 r.d,I0 r.t.c,I0 r.t.m,I0 r.t.q,I0 r.t.v,I0 r.t.k,I0 r.t.o,I0 r.t.n,v]
def Did(W:FW)(k:Nat)(kd:Int)(x:Rp×Pw)(e:Ending)(w':FW):Prop:=
 ∃v,e=.returned (rpV x.1 v)/\GZ w' W.heap.size v x.1.ns/\Touch (· =k) W w'/\(U7 kd x.1.E=true->WX w' k x.2)
theorem VR{w':FW}{k:Nat}{kd E:Int}{e:Ending}(he:e=.returned (UU E))(ht:Touch (· =k) W w')(hl:U7 kd E=false):Did W k kd (TG E,p) e w':=
 ⟨N0,he,.inl ⟨rfl,rfl⟩,ht,fun h=>by rw[show (TG E,p).1.E=E from rfl,hl]at h;cases h⟩
theorem ZV(p:Pw)(k:Nat)(W:FW)(hx:WX W k p):FZ prog 56 #[wP k] W fun e w'=>e=.returned (.tuple #[])/\WX w' k ⟨p.n,p.s,fun _=>0,p.c,p.D,p.H,p.h⟩/\Touch (· =k) W w':=by
 have X:=G8 hx.clear;have T:=G8 (RH W k 31 (I0 0) (I0 0) (I0 0));have r0:=hx.role (i:=0) (by omega);have r1:=hx.role (i:=1) (by omega);have r2:=hx.role (i:=2) (by omega);have f0:=hx.GU 31;have f1:=hx.GU 32;have f2:=hx.GU 33;simp only[Nat.reduceAdd]at r0 r1 r2;unfold wP;clear hx;go_enter func56,ntmps56;go_wp2_with fail;exact bodyPost_end (v:=.tuple #[]) (by simp[results,results56,go_sem]) rfl ⟨rfl,G7 X,G7 T⟩
theorem TD(W:FW)(n:Nat):B0 W (W.drewN n):=⟨rfl,rfl,rfl,A8 _,fun _ _=>rfl⟩
structure DB(w W:FW)(d:Dd):Prop where
 b:B0 w W
 r:RpB W (w.heap.size+1)
 d:JQ W w.heap.size d
theorem DB.start(w:FW)(d:Dd):DB w ((w.alloc (FV #[I0 d.k,I0 d.c,I0 d.s,I0 d.q.o,I0 d.q.s,S0 d.q.p,S0 d.q.d,I0 d.q.v,I0 d.q.f,I0 d.lo,I0 d.sl,I0 d.ke,.bool d.wt] 58)).alloc (FV #[I0 0,I0 0,.string ⟨#[]⟩,.string ⟨#[]⟩,I0 0,I0 0,I0 0,I0 0,I0 0,I0 0,I0 0,N0] 53)) d:=by
 refine⟨GH (G9 _ _) (G9 _ _),lG _ _ _,?_⟩;exact JQ.ZR (heap_alloc_new w _:JQ (w.alloc _) w.heap.size d) (G9 _ _) (by simp)
theorem DB.next{d:Dd}(h:DB w W d)(hb:B0 W V):DB w V d:=⟨GH h.b hb,h.r.next hb,h.d.ZR hb h.d.ltz⟩
theorem DB.cells{d:Dd}(h:DB w W d):(W.cell? ⟨w.heap.size,0,G5⟩=G6 (I0 d.k)/\W.cell? ⟨w.heap.size,1,G5⟩=G6 (I0 d.c)/\W.cell? ⟨w.heap.size,2,G5⟩=G6 (I0 d.s)/\W.cell? ⟨w.heap.size,3,G5⟩=G6 (I0 d.q.o)/\W.cell? ⟨w.heap.size,4,G5⟩=G6 (I0 d.q.s)/\W.cell? ⟨w.heap.size,5,G5⟩=G6 (S0 d.q.p)/\W.cell? ⟨w.heap.size,6,G5⟩=G6 (S0 d.q.d))/\W.cell? ⟨w.heap.size,7,G5⟩=G6 (I0 d.q.v)/\W.cell? ⟨w.heap.size,8,G5⟩=G6 (I0 d.q.f)/\W.cell? ⟨w.heap.size,9,G5⟩=G6 (I0 d.lo)/\W.cell? ⟨w.heap.size,10,G5⟩=G6 (I0 d.sl)/\W.cell? ⟨w.heap.size,11,G5⟩=G6 (I0 d.ke)/\W.cell? ⟨w.heap.size,12,G5⟩=G6 (.bool d.wt):=by
 have r:=h.d.row;simp only[Nat.zero_add]at r;exact⟨⟨r 0 _ rfl,r 1 _ rfl,r 2 _ rfl,r 3 _ rfl,r 4 _ rfl,r 5 _ rfl,r 6 _ rfl⟩,r 7 _ rfl,r 8 _ rfl,r 9 _ rfl,r 10 _ rfl,r 11 _ rfl,r 12 _ rfl⟩
theorem AO8(p:Pw)(d:Dd)(k:Nat)(W:FW)(hx:WX W k p)(hi:0<=d.s/\d.s<3)(hu:(p.s d.s.toNat).up=false):FZ prog 42 #[wP k,ddV d] W (Did W k 3 (TG 14,p)):=by
 have C:=G8 (fun W=>KP 14 W);have D0:=G8 (DB.start W d);obtain⟨i,hi3,hdi⟩:∃i:Nat,i<3/\d.s=i:=⟨d.s.toNat,by omega,by omega⟩;rw[hdi,Int.toNat_natCast]at hu;obtain⟨ad,nd,cd,al,cl,an,cn,ai,ci,aw,cw,S,_,_⟩:=hx.srv hi3 rfl;have S0:∀V,B0 W V->V.cell? ⟨k,1+10*i,G5⟩=G6 (.bool false):=fun V hV=>by
  have:=S.c0;rw[PK hu]at this;rw[World.cell?,hV.block k hx.lt];exact this
 obtain⟨dk,dc,ds,⟨o,s,pp,dd,v,f⟩,lo,sl,ke,wt⟩:=d;simp only at hdi;subst hdi;unfold wP ddV;unfold UU at C;clear S hx hu hi;have hX:∀w1,DB W w1 ⟨dk,dc,(i:Int),⟨o,s,pp,dd,v,f⟩,lo,sl,ke,wt⟩->Did W k 3 (TG 14,p) (.returned (UU 14)) (gV w1 (W.heap.size+1) (I0 14) (I0 0) (.string ⟨#[]⟩) (.string ⟨#[]⟩) (I0 0) (I0 0) (I0 0) (I0 0) (I0 0) (I0 0) (I0 0) (N0)):=fun w1 h=>VR rfl (KG (Touch.of_below h.b) (by omega) _ _ _ _ _ _ _ _ _ _ _ _) (by decide);rcases(show i=0\/i=1\/i=2 by omega)with rfl|rfl|rfl
 all_goals
  simp only[Nat.reduceAdd,Nat.reduceMul]at S0;go_enter func42,ntmps42;go_upto_region 1 with fail;generalize ((W.alloc _).alloc _)=W0 at*;obtain⟨⟨e0,e1,e2,e3,e4,e5,e6⟩,e7,e8,e9,e10,e11,e12⟩:=(G7 D0).cells;have T0:=S0 W0 (G7 D0).b;simp only at e2
  go_quiet (fail)
  go_wp2_with fail;refine(G7 C _).mono ?_;rintro e w1 ⟨rfl,hb⟩;have D1:=(G7 D0).next (GH (TD _ _) hb);obtain⟨⟨c0,c1,c2,c3,c4,c5⟩,c6,c7,c8,c9,c10,c11⟩:=D1.r.cells;have f0:=D1.r.GU;have X1:=G8 (hX w1 D1);clear hb D1 D0 C S0 hX;unfold UU at X1;go_wp2_with fail;exact bodyPost_ret (v:=.agg #[I0 14,I0 0,.string ⟨#[]⟩,.string ⟨#[]⟩,I0 0,I0 0,I0 0,I0 0,I0 0,I0 0,I0 0,N0]) (by simp[results,results42,go_sem,c0,c1,c2,c3,c4,c5,c6,c7,c8,c9,c10,c11]) rfl (G7 X1)
