/-
  Part.
-/
import Derived.Test.YtnlikdglijgjpaaGreatDoorLOAF
import Derived.Test.YtnlikdglijgjpaaGreatDoorLOAG
set_option maxRecDepth 20000
set_option maxHeartbeats 8000000
namespace Go.Proofs.YtnlikdglijgjpaaGreatDoor
open Go.RowKit Go.Proofs.Tryz
open Go.Value renaming slice->FT
open _root_.Option renaming none->FZ,some->G5
theorem BA8(p:Pw)(d:Dd)(k:Nat)(W:World)(hx:WX W k p)(hi:0<=d.s/\d.s<3)(ok:MN 300 (p.s d.s.toNat))(hu:(p.s d.s.toNat).up=true)(hk:d.ke<0):Calls prog 39 #[wP k,ddV d] W (Did W k 3 (SV 3,p)):=by
 have CR:=G7 (fun W=>KP 3 W);have D0:=G7 (DB.start W d);obtain⟨i,hi3,hdi⟩:∃i:Nat,i<3/\d.s=i:=⟨d.s.toNat,by omega,by omega⟩;rw[hdi,Int.toNat_natCast]at hu ok;obtain⟨ad,nd,cd,al,cl,an,cn,ai,ci,aw,cw,S,hv,_⟩:=hx.srv hi3 rfl;have C:=(fun V (hV:B0 W V)=>(A35 (i:=i) ok hu hk _ V (hv.next hV)).mono fun _ _ h=>rE h rfl);have HS:=fun V (hV:B0 W V)=>S.next hx.lt hV;have hup:(svP i (p.s i)).up=true:=by rw[IZ hu]
 obtain⟨dk,dc,ds,⟨o,s,pp,dd,v,f⟩,lo,sl,ke,wt⟩:=d;simp only at hdi hk;subst hdi;generalize svP i (p.s i)=s0 at*;generalize sv0=s1 at*;unfold wP ddV;unfold UC at CR;simp only[hup,Nat.mul_comm 10 i]at HS;simp only[hup]at C;replace C:=G7 C;replace HS:=G7 HS;have HX:=G7 hx;have hi4:(i:Int)<3:=by omega
 have hX:∀w1,DB W w1 ⟨dk,dc,(i:Int),⟨o,s,pp,dd,v,f⟩,lo,sl,ke,wt⟩->Did W k 3 (SV 3,p) (.returned (UC 3)) (fK w1 (W.heap.size+1) (I0 3) (I0 0) (.string ⟨#[]⟩) (.string ⟨#[]⟩) (I0 0) (I0 0) (I0 0) (I0 0) (I0 0) (I0 0) (I0 0) (N0)):=fun w1 h=>VA rfl (KD (Touch.of_below h.b) (by omega) _ _ _ _ _ _ _ _ _ _ _ _) (by decide);replace hX:=G7 hX;clear S hi hv hup ok hx hu;go_enter func39,ntmps39;go_upto_region 1 with fail;generalize ((W.alloc _).alloc _)=W0 at*;obtain⟨⟨_,_,e2,_,_,_,_⟩,_,_,_,_,_,_⟩:=(G6 D0).cells;have c0:=(G6 HS W0 (G6 D0).b).c0;simp only at e2
 go_quiet (fail)
 go_upto_region 3 with fail;have D1:=G7 ((G6 D0).next (SK W0 nq));have HB1:=G7 ((G6 D0).next (SK W0 nq)).b;generalize W0.drewN nq=W1 at*;clear c0 e2 D0;have HKS:Hid (∀V,B0 W1 V->V.cell? ⟨W.heap.size,2,FZ⟩=G5 (I0 i)/\V.cell? ⟨W.heap.size,11,FZ⟩=G5 (I0 ke)/\V.cell? ⟨k,1+i*10,FZ⟩=G5 (.bool true)/\V.cell? ⟨k,1+i*10+1,FZ⟩=G5 (FT ad nd cd)/\V.cell? ⟨k,1+i*10+2,FZ⟩=G5 (I0 s0.id)/\V.cell? ⟨k,1+i*10+3,FZ⟩=G5 (I0 s0.ep)/\V.cell? ⟨k,1+i*10+4,FZ⟩=G5 (FT al s0.ts.length cl)/\V.cell? ⟨k,1+i*10+5,FZ⟩=G5 (I0 s0.dn)/\V.cell? ⟨k,1+i*10+6,FZ⟩=G5 (I0 s0.tr.z)/\V.cell? ⟨k,1+i*10+7,FZ⟩=G5 (FT an s0.tr.ns.length cn)/\V.cell? ⟨k,1+i*10+8,FZ⟩=G5 (FT ai s0.tr.ss.length ci)/\V.cell? ⟨k,1+i*10+9,FZ⟩=G5 (FT aw s0.ws.length cw)):=G7 fun V hV=>by
  obtain⟨⟨_,_,e2,_,_,_,_⟩,_,_,_,_,e11,_⟩:=((G6 D1).next hV).cells;obtain⟨c0,c1,c2,c3,c4,c5,c6,c7,c8,c9⟩:=G6 HS V (G9 (G6 D1).b hV);exact⟨e2,e11,c0,c1,c2,c3,c4,c5,c6,c7,c8,c9⟩
 have hl1:W.heap.size<W1.heap.size:=(G6 D1).d.ltz;have hk1:k<W1.heap.size:=Nat.lt_trans (G6 HX).lt hl1;have C1:=G7 (fun V (hV:B0 W1 V)=>G6 C V (G9 (G6 HB1) hV))
 go_cut [5,6]from 17 (fun t5 t6 wx=>∃q gd nd1 cd1 gl cl1 gn cn1 gi ci1 gw cw1,t5=P0 q/\t6=I0 3/\Hid (SBX W1 wx q s1 (FT gd nd1 cd1) (FT gl s1.ts.length cl1) (FT gn s1.tr.ns.length cn1) (FT gi s1.tr.ss.length ci1) (FT gw s1.ws.length cw1)))
 case first=>
  have hS0:=G6 HKS _ (Below.refl W1.heap.size W1).drew;refine wp_region_held (S:=fun V:World=>V.cell? ⟨W.heap.size,2,FZ⟩=G5 (I0 i)/\V.cell? ⟨W.heap.size,11,FZ⟩=G5 (I0 ke)/\V.cell? ⟨k,1+i*10,FZ⟩=G5 (.bool true)/\V.cell? ⟨k,1+i*10+1,FZ⟩=G5 (FT ad nd cd)/\V.cell? ⟨k,1+i*10+2,FZ⟩=G5 (I0 s0.id)/\V.cell? ⟨k,1+i*10+3,FZ⟩=G5 (I0 s0.ep)/\V.cell? ⟨k,1+i*10+4,FZ⟩=G5 (FT al s0.ts.length cl)/\V.cell? ⟨k,1+i*10+5,FZ⟩=G5 (I0 s0.dn)/\V.cell? ⟨k,1+i*10+6,FZ⟩=G5 (I0 s0.tr.z)/\V.cell? ⟨k,1+i*10+7,FZ⟩=G5 (FT an s0.tr.ns.length cn)/\V.cell? ⟨k,1+i*10+8,FZ⟩=G5 (FT ai s0.tr.ss.length ci)/\V.cell? ⟨k,1+i*10+9,FZ⟩=G5 (FT aw s0.ws.length cw)) (by kernel_rfl) ?_;change wpAnyH _ _ _ _ _ _ _ _ W1.drew;refine tkH 0 hS0 ?_;refine tkH 1 hS0 ?_;refine tkH 2 hS0 ?_;refine tkH 3 hS0 ?_;refine tkH 4 hS0 ?_;refine tkH 5 hS0 ?_;refine tkH 6 hS0 ?_;refine tkH 7 hS0 ?_;refine tkH 8 hS0 ?_;refine rd2 9 13 (fun K hK=>?_) (fun K hK=>?_)
  .clear hS0;go_simp;refine(G6 C1 _ (Below.refl _ _).drew).mono ?_;rintro e w1 ⟨gd,nd1,cd1,gl,cl1,gn,cn1,gi,ci1,gw,cw1,rfl,H1,hb1⟩;have aB1:Hid (B0 W1 w1):=G7 (I9 hb1);clear hb1;have hS1:=G6 HKS _ (G6 aB1);refine nxH hK hS1 ?_;clear hK K;refine tkH 10 hS1 ?_;refine tkH 11 hS1 ?_;refine tkH 12 hS1 ?_;refine rd1 13 (fun K hK=>?_);go_simp;have hS2:=G6 HKS _ (G9 (G6 aB1) (G8 w1 (.cells #[.bool false,N0,I0 0,I0 0,N0,I0 0,I0 0,N0,N0,N0] 61)));refine nxH hK hS2 ?_;clear hK K;refine rd1 14 (fun K hK=>?_);go_simp;have hX2:Hid (SBX W1 _ _ s1 _ _ _ _ _):=G7 (dO (u:=W1) (G6 aB1) (G6 H1).1 (G6 H1).2 (Nat.le_refl _));have hS3:=G6 HKS _ (G6 hX2).b;refine nxH hK hS3 ?_;clear hK K;refine tkH 15 hS3 ?_;refine wpAnyH_done (by kernel_rfl) ?_ _;go_wp2_with fail
   go_meet
   exact⟨_,gd,nd1,cd1,gl,cl1,gn,cn1,gi,ci1,gw,cw1,rfl,rfl,hX2⟩
  .go_simp;have hS2:=G6 HKS _ (G9 (Below.refl W1.heap.size W1).drew (G8 W1.drew (.cells #[.bool false,N0,I0 0,I0 0,N0,I0 0,I0 0,N0,N0,N0] 61)));refine nxH hK hS2 ?_;clear hK K hS0;refine rd1 9 (fun K hK=>?_);go_simp;refine(G6 C1 _ (G9 (Below.refl _ _).drew (G8 _ _))).mono ?_;rintro e w1 ⟨gd,nd1,cd1,gl,cl1,gn,cn1,gi,ci1,gw,cw1,rfl,H1,hb1⟩;have aB1:Hid (B0 W1 w1):=G7 (G9 (G9 (Below.refl _ _).drew (G8 _ _)) hb1);have aZ1:Hid (IJ w1 W1.heap.size false (N0) 0 0 (N0) 0 0 (N0) (N0) (N0)):=G7 ((hb1.block _ (by simp)).trans (heap_alloc_new W1.drew _));clear hb1;have hS1:=G6 HKS _ (G6 aB1);refine nxH hK hS1 ?_;clear hK K;refine tkH 10 hS1 ?_;refine tkH 11 hS1 ?_;refine tkH 12 hS1 ?_;refine rd1 14 (fun K hK=>?_);have z0:=(G6 aZ1).GX 0;have z1:=(G6 aZ1).GX 1;have z2:=(G6 aZ1).GX 2;have z3:=(G6 aZ1).GX 3;have z4:=(G6 aZ1).GX 4;have z5:=(G6 aZ1).GX 5;have z6:=(G6 aZ1).GX 6;have z7:=(G6 aZ1).GX 7;have z8:=(G6 aZ1).GX 8;have z9:=(G6 aZ1).GX 9;obtain⟨x0,x1,x2,x3,x4,x5,x6,x7,x8,x9⟩:=(G6 aZ1).cells;go_simp;have hX2:Hid (SBX W1 _ _ s1 _ _ _ _ _):=G7 (kU (u:=(W1.drew.alloc (.cells #[.bool false,N0,I0 0,I0 0,N0,I0 0,I0 0,N0,N0,N0] 61))) (G6 aB1) (Nat.le_refl _) (G6 aZ1) (G6 H1).1 (G6 H1).2 (by simp));have hS3:=G6 HKS _ (G6 hX2).b;refine nxH hK hS3 ?_;clear hK K;refine tkH 15 hS3 ?_;refine wpAnyH_done (by kernel_rfl) ?_ _;go_wp2_with fail
   go_meet
   exact⟨_,gd,nd1,cd1,gl,cl1,gn,cn1,gi,ci1,gw,cw1,rfl,rfl,hX2⟩
 case rest=>
  obtain⟨q,gd,nd1,cd1,gl,cl1,gn,cn1,gi,ci1,gw,cw1,rfl,rfl,HQ⟩:=hcut;have D2:=G7 ((G6 D1).next (G6 HQ).b);clear HQ D1 HKS C1 HB1 hl1 hk1 C HS;go_wp2_with fail;refine(G6 CR _).mono ?_;rintro e w1 ⟨rfl,hb⟩;have D3:=(G6 D2).next hb;have b0:=D3.r.cells;have g0:=D3.r.GX;have X1:=G7 (G6 hX w1 D3);clear hb D3 D2 hX;unfold UC at X1;go_wp2_with fail;exact bodyPost_ret (v:=.agg #[I0 3,I0 0,.string ⟨#[]⟩,.string ⟨#[]⟩,I0 0,I0 0,I0 0,I0 0,I0 0,I0 0,I0 0,N0]) (by simp[results,results39,go_sem,b0]) rfl (G6 X1)
theorem BA9(p:Pw)(d:Dd)(k:Nat)(W:World)(hx:WX W k p)(hi:0<=d.s/\d.s<3)(hok:∀j,j<3->MN 300 (p.s j)):Calls prog 39 #[wP k,ddV d] W (Did W k 3 (QW p d.s.toNat d.ke)):=by
 cases hu:(p.s d.s.toNat).up with
 |false=>
  rw[QW,if_pos hu];exact AO2 p d k W hx hi hu
 |true=>
  by_cases hk:d.ke<0
  .rw[QW,if_neg (by simp[hu]),if_pos hk];exact BA8 p d k W hx hi (hok _ (by omega)) hu hk
  .exact BA7 p d k W hx hi hok hu (by omega)
theorem CP2(p:Pw)(d:Dd)(k:Nat)(W:World)(hx:WX W k p)(hi:0<=d.s/\d.s<3)(hok:∀j,j<3->MN 300 (p.s j)):Calls prog 40 #[wP k,ddV d] W (Did W k 4 (upW p d.s.toNat)):=by
 cases hu:(p.s d.s.toNat).up with
 |false=>exact CP1 p d k W hx hi hok hu
 |true=>exact CW5 p d k W hx hi hu
