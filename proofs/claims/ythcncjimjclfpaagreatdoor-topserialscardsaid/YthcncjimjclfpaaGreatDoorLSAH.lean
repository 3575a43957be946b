/-
  Part.
-/
import Derived.Test.YthcncjimjclfpaaGreatDoorLSAF
import Derived.Test.YthcncjimjclfpaaGreatDoorLSAG
set_option maxRecDepth 20000
set_option maxHeartbeats 8000000
namespace Go.Proofs.YthcncjimjclfpaaGreatDoor
open Go.RowKit Go.Proofs.Tryz
open Go.Value renaming slice->FQ
open _root_.Option renaming none->FX,some->FZ
theorem BC1(p:Pw)(d:Dd)(k:Nat)(W:World)(hx:WX W k p)(hi:0<=d.s/\d.s<3)(ok:ML 300 (p.s d.s.toNat))(hu:(p.s d.s.toNat).up=true)(hk:d.ke<0):Calls prog 49 #[wP k,ddV d] W (Did W k 3 (TQ 3,p)):=by
 have CR:=G6 (fun W=>KP 3 W);have D0:=G6 (DB.start W d);obtain⟨i,hi3,hdi⟩:∃i:Nat,i<3/\d.s=i:=⟨d.s.toNat,by omega,by omega⟩;rw[hdi,Int.toNat_natCast]at hu ok;obtain⟨ad,nd,cd,al,cl,an,cn,ai,ci,aw,cw,S,hv,_⟩:=hx.srv hi3 rfl;have C:=(fun V (hV:B0 W V)=>(A61 (i:=i) ok hu hk _ V (hv.next hV)).mono fun _ _ h=>sS h rfl);have HS:=fun V (hV:B0 W V)=>S.next hx.lt hV;have hup:(svP i (p.s i)).up=true:=by rw[J5 hu]
 obtain⟨dk,dc,ds,⟨o,s,pp,dd,v,f⟩,lo,sl,ke,wt⟩:=d;simp only at hdi hk;subst hdi;generalize svP i (p.s i)=s0 at*;generalize sv0=s1 at*;unfold wP ddV;unfold UQ at CR;simp only[hup,Nat.mul_comm 10 i]at HS;simp only[hup]at C;replace C:=G6 C;replace HS:=G6 HS;have HX:=G6 hx;have hi4:(i:Int)<3:=by omega
 have hX:∀w1,DB W w1 ⟨dk,dc,(i:Int),⟨o,s,pp,dd,v,f⟩,lo,sl,ke,wt⟩->Did W k 3 (TQ 3,p) (.returned (UQ 3)) (gY w1 (W.heap.size+1) (I0 3) (I0 0) (.string ⟨#[]⟩) (.string ⟨#[]⟩) (I0 0) (I0 0) (I0 0) (I0 0) (I0 0) (I0 0) (I0 0) (N0)):=fun w1 h=>VT rfl (JZ (Touch.of_below h.b) (by omega) _ _ _ _ _ _ _ _ _ _ _ _) (by decide);replace hX:=G6 hX;clear S hi hv hup ok hx hu;go_enter func49,ntmps49;go_upto_region 1 with fail;generalize ((W.alloc _).alloc _)=W0 at*;obtain⟨⟨_,_,e2,_,_,_,_⟩,_,_,_,_,_,_⟩:=(G5 D0).cells;have c0:=(G5 HS W0 (G5 D0).b).c0;simp only at e2
 go_quiet (fail)
 go_upto_region 3 with fail;have D1:=G6 ((G5 D0).next (TD W0 nq));have HB1:=G6 ((G5 D0).next (TD W0 nq)).b;generalize W0.drewN nq=W1 at*;clear c0 e2 D0;have HKS:Hid (∀V,B0 W1 V->V.cell? ⟨W.heap.size,2,FX⟩=FZ (I0 i)/\V.cell? ⟨W.heap.size,11,FX⟩=FZ (I0 ke)/\V.cell? ⟨k,1+i*10,FX⟩=FZ (.bool true)/\V.cell? ⟨k,1+i*10+1,FX⟩=FZ (FQ ad nd cd)/\V.cell? ⟨k,1+i*10+2,FX⟩=FZ (I0 s0.id)/\V.cell? ⟨k,1+i*10+3,FX⟩=FZ (I0 s0.ep)/\V.cell? ⟨k,1+i*10+4,FX⟩=FZ (FQ al s0.ts.length cl)/\V.cell? ⟨k,1+i*10+5,FX⟩=FZ (I0 s0.dn)/\V.cell? ⟨k,1+i*10+6,FX⟩=FZ (I0 s0.tr.z)/\V.cell? ⟨k,1+i*10+7,FX⟩=FZ (FQ an s0.tr.ns.length cn)/\V.cell? ⟨k,1+i*10+8,FX⟩=FZ (FQ ai s0.tr.ss.length ci)/\V.cell? ⟨k,1+i*10+9,FX⟩=FZ (FQ aw s0.ws.length cw)):=G6 fun V hV=>by
  obtain⟨⟨_,_,e2,_,_,_,_⟩,_,_,_,_,e11,_⟩:=((G5 D1).next hV).cells;obtain⟨c0,c1,c2,c3,c4,c5,c6,c7,c8,c9⟩:=G5 HS V (G8 (G5 D1).b hV);exact⟨e2,e11,c0,c1,c2,c3,c4,c5,c6,c7,c8,c9⟩
 have hl1:W.heap.size<W1.heap.size:=(G5 D1).d.ltz;have hk1:k<W1.heap.size:=Nat.lt_trans (G5 HX).lt hl1;have C1:=G6 (fun V (hV:B0 W1 V)=>G5 C V (G8 (G5 HB1) hV))
 go_cut [5,6]from 17 (fun t5 t6 wx=>∃q gd nd1 cd1 gl cl1 gn cn1 gi ci1 gw cw1,t5=P0 q/\t6=I0 3/\Hid (SBX W1 wx q s1 (FQ gd nd1 cd1) (FQ gl s1.ts.length cl1) (FQ gn s1.tr.ns.length cn1) (FQ gi s1.tr.ss.length ci1) (FQ gw s1.ws.length cw1)))
 case first=>
  have hS0:=G5 HKS _ (Below.refl W1.heap.size W1).drew;refine wp_region_held (S:=fun V:World=>V.cell? ⟨W.heap.size,2,FX⟩=FZ (I0 i)/\V.cell? ⟨W.heap.size,11,FX⟩=FZ (I0 ke)/\V.cell? ⟨k,1+i*10,FX⟩=FZ (.bool true)/\V.cell? ⟨k,1+i*10+1,FX⟩=FZ (FQ ad nd cd)/\V.cell? ⟨k,1+i*10+2,FX⟩=FZ (I0 s0.id)/\V.cell? ⟨k,1+i*10+3,FX⟩=FZ (I0 s0.ep)/\V.cell? ⟨k,1+i*10+4,FX⟩=FZ (FQ al s0.ts.length cl)/\V.cell? ⟨k,1+i*10+5,FX⟩=FZ (I0 s0.dn)/\V.cell? ⟨k,1+i*10+6,FX⟩=FZ (I0 s0.tr.z)/\V.cell? ⟨k,1+i*10+7,FX⟩=FZ (FQ an s0.tr.ns.length cn)/\V.cell? ⟨k,1+i*10+8,FX⟩=FZ (FQ ai s0.tr.ss.length ci)/\V.cell? ⟨k,1+i*10+9,FX⟩=FZ (FQ aw s0.ws.length cw)) (by kernel_rfl) ?_;change wpAnyH _ _ _ _ _ _ _ _ W1.drew;refine tkH 0 hS0 ?_;refine tkH 1 hS0 ?_;refine tkH 2 hS0 ?_;refine tkH 3 hS0 ?_;refine tkH 4 hS0 ?_;refine tkH 5 hS0 ?_;refine tkH 6 hS0 ?_;refine tkH 7 hS0 ?_;refine tkH 8 hS0 ?_;refine rd2 9 13 (fun K hK=>?_) (fun K hK=>?_)
  .clear hS0;go_simp;refine(G5 C1 _ (Below.refl _ _).drew).mono ?_;rintro e w1 ⟨gd,nd1,cd1,gl,cl1,gn,cn1,gi,ci1,gw,cw1,rfl,H1,hb1⟩;have aB1:Hid (B0 W1 w1):=G6 (I9 hb1);clear hb1;have hS1:=G5 HKS _ (G5 aB1);refine nxH hK hS1 ?_;clear hK K;refine tkH 10 hS1 ?_;refine tkH 11 hS1 ?_;refine tkH 12 hS1 ?_;refine rd1 13 (fun K hK=>?_);go_simp;have hS2:=G5 HKS _ (G8 (G5 aB1) (G7 w1 (.cells #[.bool false,N0,I0 0,I0 0,N0,I0 0,I0 0,N0,N0,N0] 64)));refine nxH hK hS2 ?_;clear hK K;refine rd1 14 (fun K hK=>?_);go_simp;have hX2:Hid (SBX W1 _ _ s1 _ _ _ _ _):=G6 (fD (u:=W1) (G5 aB1) (G5 H1).1 (G5 H1).2 (Nat.le_refl _));have hS3:=G5 HKS _ (G5 hX2).b;refine nxH hK hS3 ?_;clear hK K;refine tkH 15 hS3 ?_;refine wpAnyH_done (by kernel_rfl) ?_ _;go_wp2_with fail
   go_meet
   exact⟨_,gd,nd1,cd1,gl,cl1,gn,cn1,gi,ci1,gw,cw1,rfl,rfl,hX2⟩
  .go_simp;have hS2:=G5 HKS _ (G8 (Below.refl W1.heap.size W1).drew (G7 W1.drew (.cells #[.bool false,N0,I0 0,I0 0,N0,I0 0,I0 0,N0,N0,N0] 64)));refine nxH hK hS2 ?_;clear hK K hS0;refine rd1 9 (fun K hK=>?_);go_simp;refine(G5 C1 _ (G8 (Below.refl _ _).drew (G7 _ _))).mono ?_;rintro e w1 ⟨gd,nd1,cd1,gl,cl1,gn,cn1,gi,ci1,gw,cw1,rfl,H1,hb1⟩;have aB1:Hid (B0 W1 w1):=G6 (G8 (G8 (Below.refl _ _).drew (G7 _ _)) hb1);have aZ1:Hid (IK w1 W1.heap.size false (N0) 0 0 (N0) 0 0 (N0) (N0) (N0)):=G6 ((hb1.block _ (by simp)).trans (heap_alloc_new W1.drew _));clear hb1;have hS1:=G5 HKS _ (G5 aB1);refine nxH hK hS1 ?_;clear hK K;refine tkH 10 hS1 ?_;refine tkH 11 hS1 ?_;refine tkH 12 hS1 ?_;refine rd1 14 (fun K hK=>?_);have z0:=(G5 aZ1).GN 0;have z1:=(G5 aZ1).GN 1;have z2:=(G5 aZ1).GN 2;have z3:=(G5 aZ1).GN 3;have z4:=(G5 aZ1).GN 4;have z5:=(G5 aZ1).GN 5;have z6:=(G5 aZ1).GN 6;have z7:=(G5 aZ1).GN 7;have z8:=(G5 aZ1).GN 8;have z9:=(G5 aZ1).GN 9;obtain⟨x0,x1,x2,x3,x4,x5,x6,x7,x8,x9⟩:=(G5 aZ1).cells;go_simp;have hX2:Hid (SBX W1 _ _ s1 _ _ _ _ _):=G6 (lV (u:=(W1.drew.alloc (.cells #[.bool false,N0,I0 0,I0 0,N0,I0 0,I0 0,N0,N0,N0] 64))) (G5 aB1) (Nat.le_refl _) (G5 aZ1) (G5 H1).1 (G5 H1).2 (by simp));have hS3:=G5 HKS _ (G5 hX2).b;refine nxH hK hS3 ?_;clear hK K;refine tkH 15 hS3 ?_;refine wpAnyH_done (by kernel_rfl) ?_ _;go_wp2_with fail
   go_meet
   exact⟨_,gd,nd1,cd1,gl,cl1,gn,cn1,gi,ci1,gw,cw1,rfl,rfl,hX2⟩
 case rest=>
  obtain⟨q,gd,nd1,cd1,gl,cl1,gn,cn1,gi,ci1,gw,cw1,rfl,rfl,HQ⟩:=hcut;have D2:=G6 ((G5 D1).next (G5 HQ).b);clear HQ D1 HKS C1 HB1 hl1 hk1 C HS;go_wp2_with fail;refine(G5 CR _).mono ?_;rintro e w1 ⟨rfl,hb⟩;have D3:=(G5 D2).next hb;have b0:=D3.r.cells;have g0:=D3.r.GN;have X1:=G6 (G5 hX w1 D3);clear hb D3 D2 hX;unfold UQ at X1;go_wp2_with fail;exact bodyPost_ret (v:=.agg #[I0 3,I0 0,.string ⟨#[]⟩,.string ⟨#[]⟩,I0 0,I0 0,I0 0,I0 0,I0 0,I0 0,I0 0,N0]) (by simp[results,results49,go_sem,b0]) rfl (G5 X1)
theorem BC2(p:Pw)(d:Dd)(k:Nat)(W:World)(hx:WX W k p)(hi:0<=d.s/\d.s<3)(hok:∀j,j<3->ML 300 (p.s j)):Calls prog 49 #[wP k,ddV d] W (Did W k 3 (TS p d.s.toNat d.ke)):=by
 cases hu:(p.s d.s.toNat).up with
 |false=>
  rw[TS,if_pos hu];exact AQ3 p d k W hx hi hu
 |true=>
  by_cases hk:d.ke<0
  .rw[TS,if_neg (by simp[hu]),if_pos hk];exact BC1 p d k W hx hi (hok _ (by omega)) hu hk
  .exact BC0 p d k W hx hi hok hu (by omega)
theorem CQ8(p:Pw)(d:Dd)(k:Nat)(W:World)(hx:WX W k p)(hi:0<=d.s/\d.s<3)(hok:∀j,j<3->ML 300 (p.s j)):Calls prog 50 #[wP k,ddV d] W (Did W k 4 (upW p d.s.toNat)):=by
 cases hu:(p.s d.s.toNat).up with
 |false=>exact CQ7 p d k W hx hi hok hu
 |true=>exact CX8 p d k W hx hi hu
