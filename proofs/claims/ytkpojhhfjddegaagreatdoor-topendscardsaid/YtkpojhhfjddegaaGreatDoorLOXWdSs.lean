/-
  Part.
-/
import Derived.Test.YtkpojhhfjddegaaGreatDoorLOXWdSv
import Derived.Test.YtkpojhhfjddegaaGreatDoorLOXWdSt
import Derived.Test.YtkpojhhfjddegaaGreatDoorLOXWdSm
set_option maxRecDepth 20000
set_option maxHeartbeats 8000000
namespace Go.Proofs.YtkpojhhfjddegaaGreatDoor
open Go.RowKit Go.Proofs.Tryz
open _root_.Nat renaming le_refl->A8,zero_le->AZ
open _root_.List renaming getElem?_eq_getElem->AO
open Go.Value.slice renaming injEq->AQ
open Go.Value renaming slice->FV
open Go.Obj renaming cells->FW
open Go renaming World->FX,Value->FZ
open _root_.Option renaming none->G6,some->G7
theorem RQ{α:Type}[Lay α]{w:FX}{v:FZ}{xs:List α}(hv:IK w v xs):∀W,B0 w W->∀ (i:Nat) (x:α),xs[i]?=G7 x->∃b off c,v=FV (G7 ⟨b,off,G6⟩) xs.length c/\b<w.heap.size/\∀ (j:Nat) (u:FZ),j<Lay.k α->(Lay.cs x)[j]?=G7 u->W.cell? ⟨b,off+i*Lay.k α+j,G6⟩=G7 u:=by
 intro W hW i x hx;obtain⟨b,off,c,e,hb,hr,_,_⟩:=MZ hv (by intro h0;rw[h0]at hx;simp at hx);refine⟨b,off,c,e,hb,fun j u hj hu=>?_⟩;have:=hr.kept hW hb (i*Lay.k α+j) u ((GY xs i x hx j hj).trans hu);rwa[<-Nat.add_assoc]at this
structure SS(w W:FX)(up:Bool)(vd:FZ)(id ep:Int)(vl:FZ)(dn z:Int)(vn vs vw ud ul un us uw:FZ):Prop where
 a:IJ W w.heap.size up vd id ep vl dn z vn vs vw
 b:IJ W (w.heap.size+1) up ud id ep ul dn z un us uw
 bl:B0 w W
section
variable {w W V:FX} {up:Bool} {id ep dn z:Int} {vd vl vn vs vw ud ul un us uw:FZ}
theorem SS.next(h:SS w W up vd id ep vl dn z vn vs vw ud ul un us uw)(hb:B0 W V):SS w V up vd id ep vl dn z vn vs vw ud ul un us uw:=⟨h.a.next hb,h.b.next hb,GI h.bl hb⟩
theorem SS.new(w:FX)(up:Bool)(id ep dn z:Int)(vd vl vn vs vw ud ul un us uw:FZ):SS w ((w.alloc (FW #[.bool up,vd,I0 id,I0 ep,vl,I0 dn,I0 z,vn,vs,vw] 55)).alloc (FW #[.bool up,ud,I0 id,I0 ep,ul,I0 dn,I0 z,un,us,uw] 55)) up vd id ep vl dn z vn vs vw ud ul un us uw:=by
 have h:=IJ.new (w.alloc (FW #[.bool up,vd,I0 id,I0 ep,vl,I0 dn,I0 z,vn,vs,vw] 55)) up id ep dn z ud ul un us uw;rw[show (w.alloc (FW #[.bool up,vd,I0 id,I0 ep,vl,I0 dn,I0 z,vn,vs,vw] 55)).heap.size=w.heap.size+1 by simp]at h;exact⟨(IJ.new w up id ep dn z vd vl vn vs vw).next (GH _ _),h,GI (GH _ _) (GH _ _)⟩
theorem SS.cells(h:SS w W up vd id ep vl dn z vn vs vw ud ul un us uw):(W.cell? ⟨w.heap.size,0,G6⟩=G7 (.bool up)/\W.cell? ⟨w.heap.size,1,G6⟩=G7 vd/\W.cell? ⟨w.heap.size,2,G6⟩=G7 (I0 id)/\W.cell? ⟨w.heap.size,3,G6⟩=G7 (I0 ep)/\W.cell? ⟨w.heap.size,4,G6⟩=G7 vl/\W.cell? ⟨w.heap.size,5,G6⟩=G7 (I0 dn)/\W.cell? ⟨w.heap.size,6,G6⟩=G7 (I0 z)/\W.cell? ⟨w.heap.size,7,G6⟩=G7 vn/\W.cell? ⟨w.heap.size,8,G6⟩=G7 vs/\W.cell? ⟨w.heap.size,9,G6⟩=G7 vw)/\W.cell? ⟨w.heap.size+1,0,G6⟩=G7 (.bool up)/\W.cell? ⟨w.heap.size+1,1,G6⟩=G7 ud/\W.cell? ⟨w.heap.size+1,2,G6⟩=G7 (I0 id)/\W.cell? ⟨w.heap.size+1,3,G6⟩=G7 (I0 ep)/\W.cell? ⟨w.heap.size+1,4,G6⟩=G7 ul/\W.cell? ⟨w.heap.size+1,5,G6⟩=G7 (I0 dn)/\W.cell? ⟨w.heap.size+1,6,G6⟩=G7 (I0 z)/\W.cell? ⟨w.heap.size+1,7,G6⟩=G7 un/\W.cell? ⟨w.heap.size+1,8,G6⟩=G7 us/\W.cell? ⟨w.heap.size+1,9,G6⟩=G7 uw:=⟨h.a.cells,h.b.cells⟩
end
theorem mG(s:Sv)(v1 v2:FZ)(w:FX)(hf:CW7 s)(h1:SvV w v1 s)(h2:SvV w v2 s):
  Calls prog 14 #[v1,v2] w (R0 w (.bool true)):=by
 obtain⟨ad,nd,cd,al,cl,an,cn,ai,ci,aw,cw,rfl,d1,l1,n1,s1,k1⟩:=h1.five;obtain⟨bd,md,ed,bl,el,bn,en,bi,ei,bw,ew,rfl,d2,l2,n2,s2,k2⟩:=h2.five;have q1:=OQ.2 d1;have q2:=OQ.2 d2;obtain⟨_,_,e1⟩:=GL q1;obtain⟨_,_,e2⟩:=GL q2;simp only[AQ]at e1 e2;have em1:nd=s.fs.length:=e1.2.1;have em2:md=s.fs.length:=e2.2.1;subst em1;obtain rfl:=em2;clear e1 e2;have CL:=G9 (fun W (hW:B0 w W)=>BA9 _ _ s.ts W (by have:=hf.l;omega) (l1.next hW) (l2.next hW));have CT:=G9 (fun W (hW:B0 w W)=>AR9 s.tr _ _ _ _ W (n1.next hW) (s1.next hW) (n2.next hW) (s2.next hW) (by have:=hf.n;omega) (by have:=hf.i;omega));have K1:=G9 (RQ q1);have K2:=G9 (RQ q2);have K3:=G9 (RQ k1);have K4:=G9 (RQ k2);have hfd:=hf.d;have hfw:=hf.w;clear h1 h2 d1 d2 l1 l2 n1 n2 s1 s2 k1 k2 hf q1 q2;obtain⟨up,fs,id,ep,ts,dn,tr,ws⟩:=s;simp only at*;go_enter func14,ntmps14;go_upto_region 1 with fail;have HS0:=G9 (SS.new w up id ep dn tr.z (FV ad fs.length cd) (FV al ts.length cl) (FV an tr.ns.length cn) (FV ai tr.ss.length ci) (FV aw ws.length cw) (FV bd fs.length ed) (FV bl ts.length el) (FV bn tr.ns.length en) (FV bi tr.ss.length ei) (FV bw ws.length ew));generalize ((w.alloc _).alloc _)=W0 at*;obtain⟨⟨x0,x1,x2,x3,x4,x5,x6,x7,x8,x9⟩,y0,y1,y2,y3,y4,y5,y6,y7,y8,y9⟩:=(G8 HS0).cells;go_wp2_with fail;refine(G8 CL _ (G8 HS0).bl).mono ?_;rintro e w1 ⟨rfl,hb1⟩;have HS1:=G9 ((G8 HS0).next hb1);clear x0 y0 x1 y1 x2 y2 x3 y3 x4 y4 x5 y5 x6 y6 x7 y7 x8 y8 x9 y9 hb1 HS0 CL;obtain⟨⟨x0,x1,x2,x3,x4,x5,x6,x7,x8,x9⟩,y0,y1,y2,y3,y4,y5,y6,y7,y8,y9⟩:=(G8 HS1).cells;go_wp2_with fail;refine(G8 CT _ (G8 HS1).bl).mono ?_;rintro e w2 ⟨rfl,hb2⟩;have HS:=G9 ((G8 HS1).next hb2);clear x0 y0 x1 y1 x2 y2 x3 y3 x4 y4 x5 y5 x6 y6 x7 y7 x8 y8 x9 y9 hb2 HS1 CT;obtain⟨⟨x0,x1,x2,x3,x4,x5,x6,x7,x8,x9⟩,y0,y1,y2,y3,y4,y5,y6,y7,y8,y9⟩:=(G8 HS).cells;go_wp2_with fail;clear x0 y0 x1 y1 x2 y2 x3 y3 x4 y4 x5 y5 x6 y6 x7 y7 x8 y8 x9 y9
 go_loopg [5] fs.length (fun kx s wr=>∃i:Nat,s=I0 i/\i<=fs.length/\fs.length-i<=kx/\Hid (SS w wr up (FV ad fs.length cd) id ep (FV al ts.length cl) dn tr.z (FV an tr.ns.length cn) (FV ai tr.ss.length ci) (FV aw ws.length cw) (FV bd fs.length ed) (FV bl ts.length el) (FV bn tr.ns.length en) (FV bi tr.ss.length ei) (FV bw ws.length ew)))
 case atStart=>exact⟨0,rfl,AZ _,A8 _,HS⟩
 case round=>
  obtain⟨i,rfl,hi,hg,HS⟩:=hrel;obtain⟨⟨x0,x1,x2,x3,x4,x5,x6,x7,x8,x9⟩,y0,y1,y2,y3,y4,y5,y6,y7,y8,y9⟩:=(G8 HS).cells;have hsz:=(G8 HS).bl.size;by_cases hlt:i<fs.length
  .obtain⟨x,hx⟩:∃x,fs[i]?=G7 x:=⟨_,AO hlt⟩;have AV0:(i:Int)<(fs.length:Int):=by omega
   obtain⟨b1,o1,cc1,he,hb1,q1⟩:=G8 K1 wr (G8 HS).bl i x hx;simp only[AQ]at he;obtain⟨rfl,_,rfl⟩:=he;obtain⟨b2,o2,cc2,he,hb2,q2⟩:=G8 K2 wr (G8 HS).bl i x hx;simp only[AQ]at he;obtain⟨rfl,_,rfl⟩:=he;have df0:=q1 0 _ (by decide) rfl;have ef0:=q2 0 _ (by decide) rfl;have df1:=q1 1 _ (by decide) rfl;have ef1:=q2 1 _ (by decide) rfl;have df2:=q1 2 _ (by decide) rfl;have ef2:=q2 2 _ (by decide) rfl;clear q1 q2 hx;simp only[Lay.k,Nat.add_zero]at df0 df1 df2 ef0 ef1 ef2;go_wp2_with fail;go_region;go_wp2_with fail
   go_roundg (fs.length-(i+1))
   case measure=>omega
   case rel=>exact⟨i+1,rfl,by omega,A8 _,G9 ((G8 HS).next (Below.refl _ _).drew)⟩
  .obtain rfl:i=fs.length:=by omega
   go_wp2_with fail
   go_loopg [6] ws.length (fun kx s wr=>∃i:Nat,s=I0 i/\i<=ws.length/\ws.length-i<=kx/\Hid (SS w wr up (FV ad fs.length cd) id ep (FV al ts.length cl) dn tr.z (FV an tr.ns.length cn) (FV ai tr.ss.length ci) (FV aw ws.length cw) (FV bd fs.length ed) (FV bl ts.length el) (FV bn tr.ns.length en) (FV bi tr.ss.length ei) (FV bw ws.length ew)))
   case atStart=>exact⟨0,rfl,AZ _,A8 _,HS⟩
   case round=>
    obtain⟨i,rfl,hi,hg,HS⟩:=hrel;obtain⟨⟨x0,x1,x2,x3,x4,x5,x6,x7,x8,x9⟩,y0,y1,y2,y3,y4,y5,y6,y7,y8,y9⟩:=(G8 HS).cells;have hsz:=(G8 HS).bl.size;by_cases hlt:i<ws.length
    .obtain⟨x,hx⟩:∃x,ws[i]?=G7 x:=⟨_,AO hlt⟩;have AV0:(i:Int)<(ws.length:Int):=by omega
     obtain⟨b1,o1,cc1,he,hb1,q1⟩:=G8 K3 wr (G8 HS).bl i x hx;simp only[AQ]at he;obtain⟨rfl,_,rfl⟩:=he;obtain⟨b2,o2,cc2,he,hb2,q2⟩:=G8 K4 wr (G8 HS).bl i x hx;simp only[AQ]at he;obtain⟨rfl,_,rfl⟩:=he;have dw0:=q1 0 _ (by decide) rfl;have ew0:=q2 0 _ (by decide) rfl;have dw1:=q1 1 _ (by decide) rfl;have ew1:=q2 1 _ (by decide) rfl;have dw2:=q1 2 _ (by decide) rfl;have ew2:=q2 2 _ (by decide) rfl;clear q1 q2 hx;simp only[Lay.k,Nat.add_zero]at dw0 dw1 dw2 ew0 ew1 ew2;go_wp2_with fail;go_region;go_wp2_with fail
     go_roundg (ws.length-(i+1))
     case measure=>omega
     case rel=>exact⟨i+1,rfl,by omega,A8 _,G9 ((G8 HS).next (Below.refl _ _).drew)⟩
    .obtain rfl:i=ws.length:=by omega
     go_wp2_with fail;go_ret;exact⟨rfl,(G8 HS).bl⟩
theorem qH(s z:Int)(es:List En)(v1 v2:FZ)(w:FX)(hl:es.length<=400)(h1:IK w v1 es)(h2:IK w v2 es):
  Calls prog 15 #[.agg #[I0 s,I0 z,v1],.agg #[I0 s,I0 z,v2]] w (R0 w (.bool true)):=by
 have K1:=G9 (RQ h1);have K2:=G9 (RQ h2);obtain⟨a1,c1,rfl⟩:=GL h1;obtain⟨a2,c2,rfl⟩:=GL h2;have HA:Hid (NC ((w.alloc (FW #[I0 s,I0 z,FV a1 es.length c1] 39)).alloc (FW #[I0 s,I0 z,FV a2 es.length c2] 39)) w.heap.size s z (FV a1 es.length c1)):=G9 ((NC.new w s z _).next (GH _ _));have HB0:=NC.new (w.alloc (FW #[I0 s,I0 z,FV a1 es.length c1] 39)) s z (FV a2 es.length c2);rw[show (w.alloc (FW #[I0 s,I0 z,FV a1 es.length c1] 39)).heap.size=w.heap.size+1 by simp]at HB0;have HB:=G9 HB0;have BL:=G9 (GI (GH w (FW #[I0 s,I0 z,FV a1 es.length c1] 39)) (GH _ (FW #[I0 s,I0 z,FV a2 es.length c2] 39)));clear h1 h2 HB0;go_enter func15,ntmps15;go_upto_region 1 with fail;generalize ((w.alloc _).alloc _)=W0 at*;have x0:=(G8 HA).c0;have x1:=(G8 HA).c1;have x2:=(G8 HA).c2;have y0:=(G8 HB).c0;have y1:=(G8 HB).c1;have y2:=(G8 HB).c2;go_wp2_with fail;clear x0 x1 x2 y0 y1 y2
 go_loopg [5] es.length (fun kx s5 wr=>∃i:Nat,s5=I0 i/\i<=es.length/\es.length-i<=kx/\Hid (NC wr w.heap.size s z (FV a1 es.length c1)/\NC wr (w.heap.size+1) s z (FV a2 es.length c2)/\B0 w wr))
 case atStart=>exact⟨0,rfl,AZ _,A8 _,G9 ⟨G8 HA,G8 HB,G8 BL⟩⟩
 case round=>
  obtain⟨i,rfl,hi,hg,HS⟩:=hrel;clear HA HB BL;have x2:=(G8 HS).1.c2;have y2:=(G8 HS).2.1.c2;have hsz:=(G8 HS).2.2.size;by_cases hlt:i<es.length
  .obtain⟨x,hx⟩:∃x,es[i]?=G7 x:=⟨_,AO hlt⟩;have AV0:(i:Int)<(es.length:Int):=by omega
   obtain⟨b1,o1,cc1,he,hb1,q1⟩:=G8 K1 wr (G8 HS).2.2 i x hx;simp only[AQ]at he;obtain⟨rfl,_,rfl⟩:=he;obtain⟨b2,o2,cc2,he,hb2,q2⟩:=G8 K2 wr (G8 HS).2.2 i x hx;simp only[AQ]at he;obtain⟨rfl,_,rfl⟩:=he;have d0:=q1 0 _ (by decide) rfl;have d1:=q1 1 _ (by decide) rfl;have d2:=q1 2 _ (by decide) rfl;have e0:=q2 0 _ (by decide) rfl;have e1:=q2 1 _ (by decide) rfl;have e2:=q2 2 _ (by decide) rfl;clear q1 q2 hx;simp only[Lay.k,Nat.add_zero]at d0 d1 d2 e0 e1 e2;go_wp2_with fail;go_region;go_wp2_with fail
   go_roundg (es.length-(i+1))
   case measure=>omega
   case rel=>exact⟨i+1,rfl,by omega,A8 _,G9 ⟨(G8 HS).1.next (Below.refl _ _).drew,(G8 HS).2.1.next (Below.refl _ _).drew,GI (G8 HS).2.2 (Below.refl _ _).drew⟩⟩
  .obtain rfl:i=es.length:=by omega
   go_wp2_with fail;go_ret;exact⟨rfl,(G8 HS).2.2⟩
