/-
  Part.
-/
import Derived.Test.YtefephchbjfdfaaGreatDoorLMAF
import Derived.Test.YtefephchbjfdfaaGreatDoorLMAG
set_option maxRecDepth 20000
set_option maxHeartbeats 8000000
namespace Go.Proofs.YtefephchbjfdfaaGreatDoor
open Go.RowKit Go.Proofs.Tryz
open Go.Value renaming slice->FV
open _root_.Option renaming none->G6,some->G8
theorem BB9(p:Pw)(d:Dd)(k:Nat)(W:World)(hx:WX W k p)(hi:0<=d.s/\d.s<3)(ok:MP 300 (p.s d.s.toNat))(hu:(p.s d.s.toNat).up=true)(hk:d.ke<0):Calls prog 36 #[wP k,ddV d] W (Did W k 3 (U4 3,p)):=by
 have CR:=GH (fun W=>KQ 3 W);have D0:=GH (DB.start W d);obtain⟨i,hi3,hdi⟩:∃i:Nat,i<3/\d.s=i:=⟨d.s.toNat,by omega,by omega⟩;rw[hdi,Int.toNat_natCast]at hu ok;obtain⟨ad,nd,cd,al,cl,an,cn,ai,ci,aw,cw,S,hv,_⟩:=hx.srv hi3 rfl;have C:=(fun V (hV:B0 W V)=>(A49 (i:=i) ok hu hk _ V (hv.next hV)).mono fun _ _ h=>sH h rfl);have HS:=fun V (hV:B0 W V)=>S.next hx.lt hV;have hup:(svP i (p.s i)).up=true:=by rw[J5 hu]
 obtain⟨dk,dc,ds,⟨o,s,pp,dd,v,f⟩,lo,sl,ke,wt⟩:=d;simp only at hdi hk;subst hdi;generalize svP i (p.s i)=s0 at*;generalize sv0=s1 at*;unfold wP ddV;unfold UY at CR;simp only[hup,Nat.mul_comm 10 i]at HS;simp only[hup]at C;replace C:=GH C;replace HS:=GH HS;have HX:=GH hx;have hi4:(i:Int)<3:=by omega
 have hX:∀w1,DB W w1 ⟨dk,dc,(i:Int),⟨o,s,pp,dd,v,f⟩,lo,sl,ke,wt⟩->Did W k 3 (U4 3,p) (.returned (UY 3)) (gW w1 (W.heap.size+1) (I0 3) (I0 0) (.string ⟨#[]⟩) (.string ⟨#[]⟩) (I0 0) (I0 0) (I0 0) (I0 0) (I0 0) (I0 0) (I0 0) (N0)):=fun w1 h=>VW rfl (KH (Touch.of_below h.b) (by omega) _ _ _ _ _ _ _ _ _ _ _ _) (by decide);replace hX:=GH hX;clear S hi hv hup ok hx hu;go_enter func36,ntmps36;go_upto_region 1 with fail;generalize ((W.alloc _).alloc _)=W0 at*;obtain⟨⟨_,_,e2,_,_,_,_⟩,_,_,_,_,_,_⟩:=(G9 D0).cells;have c0:=(G9 HS W0 (G9 D0).b).c0;simp only at e2
 go_quiet (fail)
 go_upto_region 3 with fail;have D1:=GH ((G9 D0).next (TL W0 nq));have HB1:=GH ((G9 D0).next (TL W0 nq)).b;generalize W0.drewN nq=W1 at*;clear c0 e2 D0;have HKS:Hid (∀V,B0 W1 V->V.cell? ⟨W.heap.size,2,G6⟩=G8 (I0 i)/\V.cell? ⟨W.heap.size,11,G6⟩=G8 (I0 ke)/\V.cell? ⟨k,1+i*10,G6⟩=G8 (.bool true)/\V.cell? ⟨k,1+i*10+1,G6⟩=G8 (FV ad nd cd)/\V.cell? ⟨k,1+i*10+2,G6⟩=G8 (I0 s0.id)/\V.cell? ⟨k,1+i*10+3,G6⟩=G8 (I0 s0.ep)/\V.cell? ⟨k,1+i*10+4,G6⟩=G8 (FV al s0.ts.length cl)/\V.cell? ⟨k,1+i*10+5,G6⟩=G8 (I0 s0.dn)/\V.cell? ⟨k,1+i*10+6,G6⟩=G8 (I0 s0.tr.z)/\V.cell? ⟨k,1+i*10+7,G6⟩=G8 (FV an s0.tr.ns.length cn)/\V.cell? ⟨k,1+i*10+8,G6⟩=G8 (FV ai s0.tr.ss.length ci)/\V.cell? ⟨k,1+i*10+9,G6⟩=G8 (FV aw s0.ws.length cw)):=GH fun V hV=>by
  obtain⟨⟨_,_,e2,_,_,_,_⟩,_,_,_,_,e11,_⟩:=((G9 D1).next hV).cells;obtain⟨c0,c1,c2,c3,c4,c5,c6,c7,c8,c9⟩:=G9 HS V (GK (G9 D1).b hV);exact⟨e2,e11,c0,c1,c2,c3,c4,c5,c6,c7,c8,c9⟩
 have hl1:W.heap.size<W1.heap.size:=(G9 D1).d.ltz;have hk1:k<W1.heap.size:=Nat.lt_trans (G9 HX).lt hl1;have C1:=GH (fun V (hV:B0 W1 V)=>G9 C V (GK (G9 HB1) hV))
 go_cut [5,6]from 17 (fun t5 t6 wx=>∃q gd nd1 cd1 gl cl1 gn cn1 gi ci1 gw cw1,t5=P0 q/\t6=I0 3/\Hid (SBX W1 wx q s1 (FV gd nd1 cd1) (FV gl s1.ts.length cl1) (FV gn s1.tr.ns.length cn1) (FV gi s1.tr.ss.length ci1) (FV gw s1.ws.length cw1)))
 case first=>
  have hS0:=G9 HKS _ (Below.refl W1.heap.size W1).drew;refine wp_region_held (S:=fun V:World=>V.cell? ⟨W.heap.size,2,G6⟩=G8 (I0 i)/\V.cell? ⟨W.heap.size,11,G6⟩=G8 (I0 ke)/\V.cell? ⟨k,1+i*10,G6⟩=G8 (.bool true)/\V.cell? ⟨k,1+i*10+1,G6⟩=G8 (FV ad nd cd)/\V.cell? ⟨k,1+i*10+2,G6⟩=G8 (I0 s0.id)/\V.cell? ⟨k,1+i*10+3,G6⟩=G8 (I0 s0.ep)/\V.cell? ⟨k,1+i*10+4,G6⟩=G8 (FV al s0.ts.length cl)/\V.cell? ⟨k,1+i*10+5,G6⟩=G8 (I0 s0.dn)/\V.cell? ⟨k,1+i*10+6,G6⟩=G8 (I0 s0.tr.z)/\V.cell? ⟨k,1+i*10+7,G6⟩=G8 (FV an s0.tr.ns.length cn)/\V.cell? ⟨k,1+i*10+8,G6⟩=G8 (FV ai s0.tr.ss.length ci)/\V.cell? ⟨k,1+i*10+9,G6⟩=G8 (FV aw s0.ws.length cw)) (by kernel_rfl) ?_;change wpAnyH _ _ _ _ _ _ _ _ W1.drew;refine tkH 0 hS0 ?_;refine tkH 1 hS0 ?_;refine tkH 2 hS0 ?_;refine tkH 3 hS0 ?_;refine tkH 4 hS0 ?_;refine tkH 5 hS0 ?_;refine tkH 6 hS0 ?_;refine tkH 7 hS0 ?_;refine tkH 8 hS0 ?_;refine rd2 9 13 (fun K hK=>?_) (fun K hK=>?_)
  .clear hS0;go_simp;refine(G9 C1 _ (Below.refl _ _).drew).mono ?_;rintro e w1 ⟨gd,nd1,cd1,gl,cl1,gn,cn1,gi,ci1,gw,cw1,rfl,H1,hb1⟩;have aB1:Hid (B0 W1 w1):=GH (IG hb1);clear hb1;have hS1:=G9 HKS _ (G9 aB1);refine nxH hK hS1 ?_;clear hK K;refine tkH 10 hS1 ?_;refine tkH 11 hS1 ?_;refine tkH 12 hS1 ?_;refine rd1 13 (fun K hK=>?_);go_simp;have hS2:=G9 HKS _ (GK (G9 aB1) (GI w1 (.cells #[.bool false,N0,I0 0,I0 0,N0,I0 0,I0 0,N0,N0,N0] 55)));refine nxH hK hS2 ?_;clear hK K;refine rd1 14 (fun K hK=>?_);go_simp;have hX2:Hid (SBX W1 _ _ s1 _ _ _ _ _):=GH (fA (u:=W1) (G9 aB1) (G9 H1).1 (G9 H1).2 (Nat.le_refl _));have hS3:=G9 HKS _ (G9 hX2).b;refine nxH hK hS3 ?_;clear hK K;refine tkH 15 hS3 ?_;refine wpAnyH_done (by kernel_rfl) ?_ _;go_wp2_with fail
   go_meet
   exact⟨_,gd,nd1,cd1,gl,cl1,gn,cn1,gi,ci1,gw,cw1,rfl,rfl,hX2⟩
  .go_simp;have hS2:=G9 HKS _ (GK (Below.refl W1.heap.size W1).drew (GI W1.drew (.cells #[.bool false,N0,I0 0,I0 0,N0,I0 0,I0 0,N0,N0,N0] 55)));refine nxH hK hS2 ?_;clear hK K hS0;refine rd1 9 (fun K hK=>?_);go_simp;refine(G9 C1 _ (GK (Below.refl _ _).drew (GI _ _))).mono ?_;rintro e w1 ⟨gd,nd1,cd1,gl,cl1,gn,cn1,gi,ci1,gw,cw1,rfl,H1,hb1⟩;have aB1:Hid (B0 W1 w1):=GH (GK (GK (Below.refl _ _).drew (GI _ _)) hb1);have aZ1:Hid (IB w1 W1.heap.size false (N0) 0 0 (N0) 0 0 (N0) (N0) (N0)):=GH ((hb1.block _ (by simp)).trans (heap_alloc_new W1.drew _));clear hb1;have hS1:=G9 HKS _ (G9 aB1);refine nxH hK hS1 ?_;clear hK K;refine tkH 10 hS1 ?_;refine tkH 11 hS1 ?_;refine tkH 12 hS1 ?_;refine rd1 14 (fun K hK=>?_);have z0:=(G9 aZ1).H6 0;have z1:=(G9 aZ1).H6 1;have z2:=(G9 aZ1).H6 2;have z3:=(G9 aZ1).H6 3;have z4:=(G9 aZ1).H6 4;have z5:=(G9 aZ1).H6 5;have z6:=(G9 aZ1).H6 6;have z7:=(G9 aZ1).H6 7;have z8:=(G9 aZ1).H6 8;have z9:=(G9 aZ1).H6 9;obtain⟨x0,x1,x2,x3,x4,x5,x6,x7,x8,x9⟩:=(G9 aZ1).cells;go_simp;have hX2:Hid (SBX W1 _ _ s1 _ _ _ _ _):=GH (lI (u:=(W1.drew.alloc (.cells #[.bool false,N0,I0 0,I0 0,N0,I0 0,I0 0,N0,N0,N0] 55))) (G9 aB1) (Nat.le_refl _) (G9 aZ1) (G9 H1).1 (G9 H1).2 (by simp));have hS3:=G9 HKS _ (G9 hX2).b;refine nxH hK hS3 ?_;clear hK K;refine tkH 15 hS3 ?_;refine wpAnyH_done (by kernel_rfl) ?_ _;go_wp2_with fail
   go_meet
   exact⟨_,gd,nd1,cd1,gl,cl1,gn,cn1,gi,ci1,gw,cw1,rfl,rfl,hX2⟩
 case rest=>
  obtain⟨q,gd,nd1,cd1,gl,cl1,gn,cn1,gi,ci1,gw,cw1,rfl,rfl,HQ⟩:=hcut;have D2:=GH ((G9 D1).next (G9 HQ).b);clear HQ D1 HKS C1 HB1 hl1 hk1 C HS;go_wp2_with fail;refine(G9 CR _).mono ?_;rintro e w1 ⟨rfl,hb⟩;have D3:=(G9 D2).next hb;have b0:=D3.r.cells;have g0:=D3.r.H6;have X1:=GH (G9 hX w1 D3);clear hb D3 D2 hX;unfold UY at X1;go_wp2_with fail;exact bodyPost_ret (v:=.agg #[I0 3,I0 0,.string ⟨#[]⟩,.string ⟨#[]⟩,I0 0,I0 0,I0 0,I0 0,I0 0,I0 0,I0 0,N0]) (by simp[results,results36,go_sem,b0]) rfl (G9 X1)
theorem BC0(p:Pw)(d:Dd)(k:Nat)(W:World)(hx:WX W k p)(hi:0<=d.s/\d.s<3)(hok:∀j,j<3->MP 300 (p.s j)):Calls prog 36 #[wP k,ddV d] W (Did W k 3 (RS p d.s.toNat d.ke)):=by
 cases hu:(p.s d.s.toNat).up with
 |false=>
  rw[RS,if_pos hu];exact AO8 p d k W hx hi hu
 |true=>
  by_cases hk:d.ke<0
  .rw[RS,if_neg (by simp[hu]),if_pos hk];exact BB9 p d k W hx hi (hok _ (by omega)) hu hk
  .exact BB8 p d k W hx hi hok hu (by omega)
theorem CQ5(p:Pw)(d:Dd)(k:Nat)(W:World)(hx:WX W k p)(hi:0<=d.s/\d.s<3)(hok:∀j,j<3->MP 300 (p.s j)):Calls prog 37 #[wP k,ddV d] W (Did W k 4 (upW p d.s.toNat)):=by
 cases hu:(p.s d.s.toNat).up with
 |false=>exact CQ4 p d k W hx hi hok hu
 |true=>exact CX8 p d k W hx hi hu
