/-
  Part.
-/
import Derived.Test.YtenkgjfahcgppaaGreatDoorLOAA
set_option maxRecDepth 20000
set_option maxHeartbeats 8000000
namespace Go.Proofs.YtenkgjfahcgppaaGreatDoor
open Go.RowKit Go.Proofs.Tryz
theorem uD{W:World}{g:Nat}{d:Dd}(h:EW W g d):W.cell? ⟨g,9,none⟩=some (I0 d.lo)/\W.cell? ⟨g,10,none⟩=some (I0 d.sl):=by
 have r:=h.row;simp only[Nat.zero_add]at r;exact⟨r 9 _ rfl,r 10 _ rfl⟩
theorem BR9{B C:Nat}{vd vl vn vs vw:Value}(h:Fr5 B vd vl vn vs vw)(hc:C<=B):Fr5 C vd vl vn vs vw:=⟨fun g hg=>h.d g (by omega),fun g hg=>h.l g (by omega),fun g hg=>h.n g (by omega),fun g hg=>h.i g (by omega),fun g hg=>h.w g (by omega)⟩
structure SpM(W wr:World)(k:Nat)(d:Dd)(X:AQ)(P:Pw)(v:Value)(L:List Int):Prop where
 x:WXO wr k P v
 o:BD wr (W.heap.size+2) v L
 t:Touch (· =k) W wr
 a:TAt wr W.heap.size X
 d:EW wr (W.heap.size+1) d
section
variable {W wr V:World} {k:Nat} {d:Dd} {x:AQ} {P Q:Pw} {v v':Value} {L M:List Int}
theorem SpM.touch(h:SpM W wr k d x P v L)(hk:k<W.heap.size)(ht:Touch (· =k) wr V)(hx:WXO V k Q v):SpM W V k d x Q v L:=
 ⟨hx,FX h.o ht (fun g e=>by have:=MW h.o e;omega),h.t.trans ht,(ht.block _ (Array.getElem?_eq_some_iff.1 h.a).1 (by omega)).trans h.a,(ht.block _ h.d.ltz (by omega)).trans h.d⟩
theorem SpM.grown(h:SpM W wr k d x P v L)(hk:k<W.heap.size)(hg:wr.grownBy V v.ownBlock)(ho:BD V (W.heap.size+2) v' M)(hn:∀g,v'.ownBlock=some g->v.ownBlock=some g\/wr.heap.size<=g):SpM W V k d x P v' M:=
 ⟨h.x.grown (fun g e=>by have:=MW h.o e;omega) hg hn,ho,⟨hg.os.trans h.t.os,hg.tape.trans h.t.tape,hg.output.trans h.t.output,Nat.le_trans h.t.size hg.size,fun b hb hf=>(hg.block b (Nat.lt_of_lt_of_le hb h.t.size) (fun e=>by have:=MW h.o e.symm;omega)).trans (h.t.block b hb hf)⟩,
  (hg.block _ (Array.getElem?_eq_some_iff.1 h.a).1 (fun e=>by have:=MW h.o e.symm;omega)).trans h.a,(hg.block _ h.d.ltz (fun e=>by have:=MW h.o e.symm;omega)).trans h.d⟩
theorem SpM.start(W:World)(hx:WX W k P)(d:Dd)(x:AQ):SpM W ((W.alloc (.cells #[I0 x.z,I0 x.o,I0 x.s,S0 x.p,S0 x.d,I0 x.v,I0 x.w] 49)).alloc (.cells #[I0 d.k,I0 d.c,I0 d.s,I0 d.q.o,I0 d.q.s,S0 d.q.p,S0 d.q.d,I0 d.q.v,I0 d.q.f,I0 d.lo,I0 d.sl,I0 d.ke,.bool d.wt] 60)) k d x P (N0) []:=by
 exact⟨((hx.next (AB _ _)).next (AB _ _)).off,.inl ⟨rfl,rfl⟩,Touch.of_below (AL (AB _ _) (AB _ _)),(TAt.new W x).next (AB _ _),YE _ _ _⟩
end
theorem AI2(N:Int)(p:Pw)(d:Dd)(k b:Nat)(W:World)(hx:WX W k ⟨N,p.s,p.r,p.c,p.D,p.H,p.h⟩)(h:ND p)(w:Wr p d b):Calls prog 105 #[wP k,DW (wX p d),ddV d] W fun e w'=>∃v,e=.returned (.tuple #[v,I0 0])/\BD w' W.heap.size v ((wL p d).map fun i:Nat=>(i:Int))/\WX w' k ⟨N,wSv p d,wRo p d,p.c,p.D,p.H,p.h⟩/\Touch (· =k) W w':=by
 have HR:=AA h.r;have HTk:Hid (∀j,j<3->wT p d j=true->∀su v V,SvV V v (svP j (p.s j))->Calls prog 147 #[v,DW (wX p d),.bool su] V (B25 V (svP j (OZ (wX p d) su (p.s j))) 0)):=AA fun j hj ht su v V hv=>by
  obtain⟨e,hu⟩:=w.same h hj (CF5 ht);obtain⟨_,_,z3,_,_⟩:=w.zs h;exact(C15 (i:=j) su ((h.s j hj).more (by have:=w.n;omega)) hu (w.fit h).gd (by rw[e];exact z3) v V hv).mono fun _ _ h=>BL1 h.1 h.2
 have HSY:=AA (fun j=>C40 (p:=p) (d:=d) (j:=j));have IX:=AA (fun(m:Nat) (hm:m<3) (u:World)=>C47 p.r m hm u);have CB:=AA (fun n i hi V=>C48 n i hi V);have HM0:=AA (SpM.start W hx d (wX p d));have hk0:=hx.lt;obtain⟨i0,hi0,hz0,hz1,hz2⟩:=xE;clear h w hx;generalize wX p d=x at*;unfold wP DW ddV;go_enter func105,ntmps105;go_upto_region 2 with fail;generalize ((W.alloc _).alloc _)=W0 at*;have r0:=(A8 HM0).x.x.role (i:=0) (by omega);have r1:=(A8 HM0).x.x.role (i:=1) (by omega);have r2:=(A8 HM0).x.x.role (i:=2) (by omega);simp only[Nat.reduceAdd]at r0 r1 r2;go_wp2_with fail;clear r0 r1 r2
 go_loopg [8,19] 3 (fun kx s8 s19 wr=>∃j:Nat,∃a c,s19=I0 j/\s8=.slice a (spL p d j).length c/\j<=3/\3-j<=kx/\Hid (SpM W wr k d x ⟨N,spS p d j,spR p d j,p.c,p.D,p.H,p.h⟩ (.slice a (spL p d j).length c) (spL p d j)))
 case atStart=>exact⟨0,none,0,rfl,rfl,by omega,Nat.le_refl _,AA (by rw[B22.1,B22.2];exact A8 HM0)⟩
 case round=>
  obtain⟨j,a,c,rfl,rfl,hj,hg,HI⟩:=hrel;by_cases hlt:j<3
  .have IXm:=A8 IX j hlt;have hjj:(j:Int)<3:=by omega
   have e9:=(uD (A8 HI).d).1;have e10:=(uD (A8 HI).d).2;have hsl:=C42 (p:=p) (d:=d) (j:=j);have hcase:p.r j=0\/(p.r j=1/\A59 d.lo j=true)\/(p.r j=1/\A59 d.lo j=false/\A59 d.sl j=true)\/(p.r j=1/\A59 d.lo j=false/\A59 d.sl j=false)\/p.r j=2:=by
    rcases A8 HR j hlt with h|h|h
    .exact .inl h
    .cases h1:A59 d.lo j
     .cases h2:A59 d.sl j
      .exact .inr (.inr (.inr (.inl ⟨h,rfl,rfl⟩)))
      .exact .inr (.inr (.inl ⟨h,rfl,rfl⟩))
     .exact .inr (.inl ⟨h,rfl⟩)
    .exact .inr (.inr (.inr (.inr h)))
   rcases hcase with h0|⟨h1,hl⟩|hT
   .have hw:=C44 (d:=d) h0;have hL:=B23 hlt hw.2;have HN:Hid (SpM W wr k d x ⟨N,spS p d (j+1),spR p d (j+1),p.c,p.D,p.H,p.h⟩ (.slice a (spL p d (j+1)).length c) (spL p d (j+1))):=AA (by rw[BR7 hw.1,A80 (by rw[CH1 hw.1,h0]),hL];exact A8 HI);have HL:=AA hL;rw[h0]at IXm;clear hw hL h0 HI e9 e10;go_wp2_with fail
    go_roundg (3-(j+1))
    case measure=>omega
    case rel=>exact⟨j+1,a,c,by simp,by rw[A8 HL],by omega,Nat.le_refl _,HN⟩
   .have hw:=C45 (d:=d) h1 hl;have hL:=B23 hlt hw.2;have HN:Hid (SpM W (wr.setCell ⟨k,31+j,none⟩ (I0 0)) k d x ⟨N,spS p d (j+1),spR p d (j+1),p.c,p.D,p.H,p.h⟩ (.slice a (spL p d (j+1)).length c) (spL p d (j+1))):=AA (by
     rw[hL];refine(A8 HI).touch hk0 (ER wr k (31+j) (I0 0)) ?_;rw[BR7 hw.1,CH0 hw.1];exact(A8 HI).x.RS hlt 0)
    have HL:=AA hL;have rj:=(A8 HI).x.x.role hlt;have fj:=(A8 HI).x.x.AX (31+j);simp only[CG9,h1]at rj;rw[h1]at IXm;clear hw hL h1 HI e10;go_wp2_with fail;refine(A8 CB d.lo j hlt _).mono ?_;rintro e w1 ⟨rfl,hw1⟩;obtain rfl:=hw1.symm;simp only[hl];go_wp2_with fail
    go_roundg (3-(j+1))
    case measure=>omega
    case rel=>exact⟨j+1,a,c,by simp,by rw[A8 HL],by omega,Nat.le_refl _,HN⟩
   have hWT:wT p d j=true:=by
    rcases hT with⟨h1,hl,_⟩|⟨h1,hl,_⟩|h1
    .exact(YJ h1 hl).1
    .exact(YJ h1 hl).1
    .exact(B24 h1).1
   have HSJ:Hid (spS p d (j+1)=GX (spS p d j) j (OZ x (wS p d j) (p.s j))/\spR p d (j+1)=spR p d j):=AA ⟨A8 HSY j hWT,A80 (C46 hWT)⟩;obtain⟨ad,nd,cd,al,cl,an,cn,ai,ci,aw,cw,SS,hsv,_⟩:=(A8 HI).x.x.srv hlt (s:=svP j (p.s j)) (by simp only[CG8]);have HSS:=AA SS;have hkl:=(A8 HI).x.x.lt;clear SS hWT;refine Or.elim hT ?a0 (fun h=>Or.elim h ?a1 ?a2)
   all_goals clear hT
   case' a2=>
    intro h1;have HW:=AA (B24 (d:=d) h1);rw[h1]at IXm;have C0:=fun V (hV:B0 wr V)=>A8 HTk j hlt (A8 HW).1 true _ V (hsv.next hV);generalize hs1:svP j (OZ x true (p.s j))=s1 at C0;have HK:Hid (svP j (OZ x (wS p d j) (p.s j))=s1):=AA (by rw[(A8 HW).2];exact hs1);generalize svP j (p.s j)=s0 at*;unfold DW at C0;have C1:=AA C0;clear C0 hs1 hsv;go_upto_region 10 with fail
   case' a1=>
    rintro⟨h1,hl,hs⟩;have hw:=YJ (d:=d) h1 hl;have HW:Hid (wT p d j=true/\wS p d j=true):=AA ⟨hw.1,by rw[hw.2,hs];rfl⟩;clear hw;rw[h1]at IXm;have C0:=fun V (hV:B0 wr V)=>A8 HTk j hlt (A8 HW).1 true _ V (hsv.next hV);generalize hs1:svP j (OZ x true (p.s j))=s1 at C0;have HK:Hid (svP j (OZ x (wS p d j) (p.s j))=s1):=AA (by rw[(A8 HW).2];exact hs1);generalize svP j (p.s j)=s0 at*;unfold DW at C0;have C1:=AA C0;clear C0 hs1 hsv;go_wp2_with fail;refine(A8 CB d.lo j hlt _).mono ?_;rintro e w1 ⟨rfl,hw1⟩;obtain rfl:=hw1.symm;simp only[hl];go_wp2_with fail;refine(A8 CB d.sl j hlt _).mono ?_;rintro e w1 ⟨rfl,hw1⟩;obtain rfl:=hw1.symm;simp only[hs];go_upto_region 10 with fail
   case' a0=>
    rintro⟨h1,hl,hs⟩;have hw:=YJ (d:=d) h1 hl;have HW:Hid (wT p d j=true/\wS p d j=false):=AA ⟨hw.1,by rw[hw.2,hs];rfl⟩;clear hw;rw[h1]at IXm;have C0:=fun V (hV:B0 wr V)=>A8 HTk j hlt (A8 HW).1 false _ V (hsv.next hV);generalize hs1:svP j (OZ x false (p.s j))=s1 at C0;have HK:Hid (svP j (OZ x (wS p d j) (p.s j))=s1):=AA (by rw[(A8 HW).2];exact hs1);generalize svP j (p.s j)=s0 at*;unfold DW at C0;have C1:=AA C0;clear C0 hs1 hsv;go_wp2_with fail;refine(A8 CB d.lo j hlt _).mono ?_;rintro e w1 ⟨rfl,hw1⟩;obtain rfl:=hw1.symm;simp only[hl];go_wp2_with fail;refine(A8 CB d.sl j hlt _).mono ?_;rintro e w1 ⟨rfl,hw1⟩;obtain rfl:=hw1.symm;simp only[hs];go_upto_region 10 with fail
   all_goals
    have HKS:Hid (∀V,B0 wr V->V.cell? ⟨k,1+j*10,none⟩=some (.bool s0.up)/\V.cell? ⟨k,1+j*10+1,none⟩=some (.slice ad nd cd)/\V.cell? ⟨k,1+j*10+2,none⟩=some (I0 s0.id)/\V.cell? ⟨k,1+j*10+3,none⟩=some (I0 s0.ep)/\V.cell? ⟨k,1+j*10+4,none⟩=some (.slice al s0.ts.length cl)/\V.cell? ⟨k,1+j*10+5,none⟩=some (I0 s0.dn)/\V.cell? ⟨k,1+j*10+6,none⟩=some (I0 s0.tr.z)/\V.cell? ⟨k,1+j*10+7,none⟩=some (.slice an s0.tr.ns.length cn)/\V.cell? ⟨k,1+j*10+8,none⟩=some (.slice ai s0.tr.ss.length ci)/\V.cell? ⟨k,1+j*10+9,none⟩=some (.slice aw s0.ws.length cw)/\V.cell? ⟨W.heap.size,0,none⟩=some (I0 x.z)/\V.cell? ⟨W.heap.size,1,none⟩=some (I0 x.o)/\V.cell? ⟨W.heap.size,2,none⟩=some (I0 x.s)/\V.cell? ⟨W.heap.size,3,none⟩=some (S0 x.p)/\V.cell? ⟨W.heap.size,4,none⟩=some (S0 x.d)/\V.cell? ⟨W.heap.size,5,none⟩=some (I0 x.v)/\V.cell? ⟨W.heap.size,6,none⟩=some (I0 x.w)):=AA fun V hV=>by
     obtain⟨c0,c1,c2,c3,c4,c5,c6,c7,c8,c9⟩:=(A8 HSS).next hkl hV;simp only[Nat.mul_comm 10 j]at c0 c1 c2 c3 c4 c5 c6 c7 c8 c9;have ha:=(A8 HI).a.next hV;exact⟨c0,c1,c2,c3,c4,c5,c6,c7,c8,c9,ha.c0,ha.c1,ha.c2,ha.c3,ha.c4,ha.c5,ha.c6⟩
    clear IXm e9 e10
    go_cut [13,14]from 48 to 74 (fun t13 t14 wx=>∃q gd nd1 cd1 gl cl1 gn cn1 gi ci1 gw cw1,t13=P0 q/\t14=I0 0/\Hid (SBX wr wx q s1 (.slice gd nd1 cd1) (.slice gl s1.ts.length cl1) (.slice gn s1.tr.ns.length cn1) (.slice gi s1.tr.ss.length ci1) (.slice gw s1.ws.length cw1))/\Hid (Fr5 wr.heap.size (.slice gd nd1 cd1) (.slice gl s1.ts.length cl1) (.slice gn s1.tr.ns.length cn1) (.slice gi s1.tr.ss.length ci1) (.slice gw s1.ws.length cw1)))
    case first=>
     have hS0:=A8 HKS _ (Below.refl wr.heap.size wr).drew;refine wp_region_held (S:=fun V:World=>V.cell? ⟨k,1+j*10,none⟩=some (.bool s0.up)/\V.cell? ⟨k,1+j*10+1,none⟩=some (.slice ad nd cd)/\V.cell? ⟨k,1+j*10+2,none⟩=some (I0 s0.id)/\V.cell? ⟨k,1+j*10+3,none⟩=some (I0 s0.ep)/\V.cell? ⟨k,1+j*10+4,none⟩=some (.slice al s0.ts.length cl)/\V.cell? ⟨k,1+j*10+5,none⟩=some (I0 s0.dn)/\V.cell? ⟨k,1+j*10+6,none⟩=some (I0 s0.tr.z)/\V.cell? ⟨k,1+j*10+7,none⟩=some (.slice an s0.tr.ns.length cn)/\V.cell? ⟨k,1+j*10+8,none⟩=some (.slice ai s0.tr.ss.length ci)/\V.cell? ⟨k,1+j*10+9,none⟩=some (.slice aw s0.ws.length cw)/\V.cell? ⟨W.heap.size,0,none⟩=some (I0 x.z)/\V.cell? ⟨W.heap.size,1,none⟩=some (I0 x.o)/\V.cell? ⟨W.heap.size,2,none⟩=some (I0 x.s)/\V.cell? ⟨W.heap.size,3,none⟩=some (S0 x.p)/\V.cell? ⟨W.heap.size,4,none⟩=some (S0 x.d)/\V.cell? ⟨W.heap.size,5,none⟩=some (I0 x.v)/\V.cell? ⟨W.heap.size,6,none⟩=some (I0 x.w)) (by kernel_rfl) ?_;change wpAnyH _ _ _ _ _ _ _ _ wr.drew;refine tkH 0 hS0 ?_;refine tkH 1 hS0 ?_;refine tkH 2 hS0 ?_;refine tkH 3 hS0 ?_;refine tkH 4 hS0 ?_;refine tkH 5 hS0 ?_;refine tkH 6 hS0 ?_;refine tkH 7 hS0 ?_;refine rd2 8 12 (fun K hK=>?_) (fun K hK=>?_)
     .go_simp;refine(A8 C1 _ (Below.refl _ _).drew).mono ?_;rintro e w1 ⟨gd,nd1,cd1,gl,cl1,gn,cn1,gi,ci1,gw,cw1,rfl,H1,hb1⟩;have aB1:Hid (B0 wr w1):=AA (AL (Below.refl _ _).drew hb1);clear hb1;have hS1:=A8 HKS _ (A8 aB1);refine nxH hK hS1 ?_;clear hK K;refine tkH 9 hS1 ?_;refine tkH 10 hS1 ?_;refine tkH 11 hS1 ?_;refine rd1 12 (fun K hK=>?_);go_simp;have hS2:=A8 HKS _ (AL (A8 aB1) (AB w1 (.cells #[.bool false,N0,I0 0,I0 0,N0,I0 0,I0 0,N0,N0,N0] 43)));refine nxH hK hS2 ?_;clear hK K;refine rd1 13 (fun K hK=>?_);go_simp;have hX2:Hid (SBX wr _ _ s1 _ _ _ _ _):=AA (ZK (u:=wr) (A8 aB1) (A8 H1).1 (fun _=>(A8 H1).2.i) (Nat.le_refl _));have hF2:Hid (Fr5 wr.heap.size (.slice gd nd1 cd1) (.slice gl s1.ts.length cl1) (.slice gn s1.tr.ns.length cn1) (.slice gi s1.tr.ss.length ci1) (.slice gw s1.ws.length cw1)):=AA (BR9 (A8 H1).2 (Nat.le_refl _));have hS3:=A8 HKS _ (A8 hX2).b;refine nxH hK hS3 ?_;clear hK K;refine tkH 14 hS3 ?_;refine wpAnyH_done (by kernel_rfl) ?_ _;go_wp2_with fail
      go_meet
      exact⟨_,gd,nd1,cd1,gl,cl1,gn,cn1,gi,ci1,gw,cw1,rfl,rfl,hX2,hF2⟩
     .go_simp;have hS2:=A8 HKS _ (AL (Below.refl wr.heap.size wr).drew (AB wr.drew (.cells #[.bool false,N0,I0 0,I0 0,N0,I0 0,I0 0,N0,N0,N0] 43)));refine nxH hK hS2 ?_;clear hK K;refine rd1 8 (fun K hK=>?_);go_simp;refine(A8 C1 _ (AL (Below.refl _ _).drew (AB _ _))).mono ?_;rintro e w1 ⟨gd,nd1,cd1,gl,cl1,gn,cn1,gi,ci1,gw,cw1,rfl,H1,hb1⟩;have aB1:Hid (B0 wr w1):=AA (AL (AL (Below.refl _ _).drew (AB _ _)) hb1);have aZ1:Hid (BO w1 wr.heap.size false (N0) 0 0 (N0) 0 0 (N0) (N0) (N0)):=AA ((hb1.block _ (by simp)).trans (heap_alloc_new wr.drew _));clear hb1;have hS1:=A8 HKS _ (A8 aB1);refine nxH hK hS1 ?_;clear hK K;refine tkH 9 hS1 ?_;refine tkH 10 hS1 ?_;refine tkH 11 hS1 ?_;refine rd1 13 (fun K hK=>?_);have z0:=(A8 aZ1).AX 0;have z1:=(A8 aZ1).AX 1;have z2:=(A8 aZ1).AX 2;have z3:=(A8 aZ1).AX 3;have z4:=(A8 aZ1).AX 4;have z5:=(A8 aZ1).AX 5;have z6:=(A8 aZ1).AX 6;have z7:=(A8 aZ1).AX 7;have z8:=(A8 aZ1).AX 8;have z9:=(A8 aZ1).AX 9;obtain⟨x0,x1,x2,x3,x4,x5,x6,x7,x8,x9⟩:=(A8 aZ1).cells;go_simp;have hX2:Hid (SBX wr _ _ s1 _ _ _ _ _):=AA (gV (u:=(wr.drew.alloc (.cells #[.bool false,N0,I0 0,I0 0,N0,I0 0,I0 0,N0,N0,N0] 43))) (A8 aB1) (Nat.le_refl _) (A8 aZ1) (A8 H1).1 (fun _=>(A8 H1).2.i) (by simp));have hF2:Hid (Fr5 wr.heap.size (.slice gd nd1 cd1) (.slice gl s1.ts.length cl1) (.slice gn s1.tr.ns.length cn1) (.slice gi s1.tr.ss.length ci1) (.slice gw s1.ws.length cw1)):=AA (BR9 (A8 H1).2 (by simp));have hS3:=A8 HKS _ (A8 hX2).b;refine nxH hK hS3 ?_;clear hK K;refine tkH 14 hS3 ?_;refine wpAnyH_done (by kernel_rfl) ?_ _;go_wp2_with fail
      go_meet
      exact⟨_,gd,nd1,cd1,gl,cl1,gn,cn1,gi,ci1,gw,cw1,rfl,rfl,hX2,hF2⟩
    obtain⟨q,gd,nd1,cd1,gl,cl1,gn,cn1,gi,ci1,gw,cw1,rfl,rfl,HQ,HF⟩:=hcut;have X2:=AA ((A8 HI).x.next (A8 HQ).b);obtain⟨c0,c1,c2,c3,c4,c5,c6,c7,c8,c9,_⟩:=A8 HKS wc (A8 HQ).b;obtain⟨q0,q1,q2,q3,q4,q5,q6,q7,q8,q9⟩:=(A8 HQ).box.cells;have f0:=(A8 X2).x.AX (1+j*10);have f1:=(A8 X2).x.AX (1+j*10+1);have f2:=(A8 X2).x.AX (1+j*10+2);have f3:=(A8 X2).x.AX (1+j*10+3);have f4:=(A8 X2).x.AX (1+j*10+4);have f5:=(A8 X2).x.AX (1+j*10+5);have f6:=(A8 X2).x.AX (1+j*10+6);have f7:=(A8 X2).x.AX (1+j*10+7);have f8:=(A8 X2).x.AX (1+j*10+8);have f9:=(A8 X2).x.AX (1+j*10+9);have hkq:k≠q:=by have:=(A8 HQ).le;omega
    have hk2:=(A8 X2).x.lt;go_upto_region 13 with fail;go_region;have M3:Hid (SpM W (uZ wc k (1+10*j) (.bool s1.up) (.slice gd nd1 cd1) (I0 s1.id) (I0 s1.ep) (.slice gl s1.ts.length cl1) (I0 s1.dn) (I0 s1.tr.z) (.slice gn s1.tr.ns.length cn1) (.slice gi s1.tr.ss.length ci1) (.slice gw s1.ws.length cw1)).drew k d x ⟨N,spS p d (j+1),spR p d (j+1),p.c,p.D,p.H,p.h⟩ (.slice a (spL p d j).length c) (spL p d j)):=AA (by
     refine(A8 HI).touch hk0 (((Touch.of_below (A8 HQ).b).trans (U8 wc k (1+10*j) _ _ _ _ _ _ _ _ _ _)).trans (Touch.of_below (Below.refl _ _).drew)) ?_;rw[(A8 HSJ).1,(A8 HSJ).2];exact((A8 X2).kM hlt (q:=OZ x (wS p d j) (p.s j)) (A8 HK) (A8 HQ).v (A8 HF) hkl (fun g e=>(A8 HI).o.low g e)).next (Below.refl _ _).drew)
    unfold uZ at M3;rw[Nat.mul_comm 10 j]at M3;clear c0 c1 c2 c3 c4 c5 c6 c7 c8 c9 q0 q1 q2 q3 q4 q5 q6 q7 q8 q9 f0 f1 f2 f3 f4 f5 f6 f7 f8 f9 hkq hk2 X2 HQ HF HKS C1 HI HK hkl HSS HSJ;generalize World.drew _=W3 at*
   .have HL:=AA (B23 hlt (A8 HW).2);clear HW;go_wp2_with fail
    go_roundg (3-(j+1))
    case measure=>omega
    case rel=>exact⟨j+1,a,c,by simp,by rw[A8 HL],by omega,Nat.le_refl _,AA (by rw[A8 HL];exact A8 M3)⟩
   all_goals
    have HL:=AA (C41 hlt (A8 HW).2);clear HW;have O3:=AA (fun O=>(A8 M3).o.next (AB W3 O));have S3:=AA (fun O=>show W.heap.size+2<=(W3.alloc O).heap.size from Nat.le_trans (A8 M3).d.ltz (AB W3 O).size);go_wp2_with (at_builtin;refine tZ rfl _ _ 38 rfl i0 _ 8 underlying38 hi0 hz0 hz1 hz2 rfl (by decide) _ (spL p d j) rfl (W.heap.size+2) (A8 O3 _) W3.heap.size rfl (j:Int) (mW W3 j) (by omega) (by simp only[maxLen];omega) (A8 S3 _) ?_);intro a8 c8 w8 ho8 hg8 hn8;have HN:Hid (SpM W w8 k d x ⟨N,spS p d (j+1),spR p d (j+1),p.c,p.D,p.H,p.h⟩ (.slice a8 ((spL p d j).length+1) c8) (spL p d j++[(j:Int)])):=AA (((A8 M3).touch hk0 (Touch.of_below (AB W3 _)) ((A8 M3).x.next (AB W3 _))).grown hk0 hg8 ho8 (fun g e=>by simpa using hn8 g e));clear ho8 hg8 hn8 O3 S3 M3;go_wp2_with fail
    go_roundg (3-(j+1))
    case measure=>omega
    case rel=>exact⟨j+1,a8,c8,by simp,by rw[A8 HL,List.length_append];rfl,by omega,Nat.le_refl _,AA (by rw[A8 HL,List.length_append];exact A8 HN)⟩
  .obtain rfl:j=3:=by omega
   have HZ:=AA (And.intro (A8 HI).o (And.intro ((A8 HI).x.x.CH2 (fun i hi=>(BR8 i hi).1) (fun i hi=>(BR8 i hi).2)) (A8 HI).t));clear HI;go_wp2_with fail;exact bodyPost_ret (v:=.tuple #[.slice a (spL p d 3).length c,I0 0]) (by simp[results,results105,go_sem]) rfl ⟨_,rfl,by rw[<-C43];exact(A8 HZ).1.lower (by omega),(A8 HZ).2.1,(A8 HZ).2.2⟩
