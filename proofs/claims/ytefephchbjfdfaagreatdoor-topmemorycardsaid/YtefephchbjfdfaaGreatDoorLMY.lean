/-
  Part.
-/
import Derived.Test.YtefephchbjfdfaaGreatDoorLMX
set_option maxRecDepth 20000
set_option maxHeartbeats 8000000
namespace Go.Proofs.YtefephchbjfdfaaGreatDoor
open Go.RowKit Go.Proofs.Tryz
open _root_.Nat renaming le_refl->AA,le_trans->BP,mul_comm->DL
open Go.RowKit.Below renaming refl->AB
open Go.Value renaming slice->FV
open _root_.Option renaming none->G6,some->G8
theorem yL{W:World}{g:Nat}{d:Dd}(h:JU W g d):W.cell? ⟨g,9,G6⟩=G8 (I0 d.lo)/\W.cell? ⟨g,10,G6⟩=G8 (I0 d.sl):=by
 have r:=h.row;simp only[Nat.zero_add]at r;exact⟨r 9 _ rfl,r 10 _ rfl⟩
theorem BZ1{B C:Nat}{vd vl vn vs vw:Value}(h:Fr5 B vd vl vn vs vw)(hc:C<=B):Fr5 C vd vl vn vs vw:=⟨fun g hg=>h.d g (by omega),fun g hg=>h.l g (by omega),fun g hg=>h.n g (by omega),fun g hg=>h.i g (by omega),fun g hg=>h.w g (by omega)⟩
structure SpM(W wr:World)(k:Nat)(d:Dd)(X:GV)(P:Pw)(v:Value)(L:List Int):Prop where
 x:WXO wr k P v
 o:I5 wr (W.heap.size+2) v L
 t:Touch (· =k) W wr
 a:TAt wr W.heap.size X
 d:JU wr (W.heap.size+1) d
section
variable {W wr V:World} {k:Nat} {d:Dd} {x:GV} {P Q:Pw} {v v':Value} {L M:List Int}
theorem SpM.touch(h:SpM W wr k d x P v L)(hk:k<W.heap.size)(ht:Touch (· =k) wr V)(hx:WXO V k Q v):SpM W V k d x Q v L:=
 ⟨hx,PX h.o ht (fun g e=>by have:=QY h.o e;omega),h.t.trans ht,(ht.block _ (Array.getElem?_eq_some_iff.1 h.a).1 (by omega)).trans h.a,(ht.block _ h.d.ltz (by omega)).trans h.d⟩
theorem SpM.grown(h:SpM W wr k d x P v L)(hk:k<W.heap.size)(hg:wr.grownBy V v.ownBlock)(ho:I5 V (W.heap.size+2) v' M)(hn:∀g,v'.ownBlock=G8 g->v.ownBlock=G8 g\/wr.heap.size<=g):SpM W V k d x P v' M:=
 ⟨h.x.grown (fun g e=>by have:=QY h.o e;omega) hg hn,ho,⟨hg.os.trans h.t.os,hg.tape.trans h.t.tape,hg.output.trans h.t.output,BP h.t.size hg.size,fun b hb hf=>(hg.block b (Nat.lt_of_lt_of_le hb h.t.size) (fun e=>by have:=QY h.o e.symm;omega)).trans (h.t.block b hb hf)⟩,
  (hg.block _ (Array.getElem?_eq_some_iff.1 h.a).1 (fun e=>by have:=QY h.o e.symm;omega)).trans h.a,(hg.block _ h.d.ltz (fun e=>by have:=QY h.o e.symm;omega)).trans h.d⟩
theorem SpM.start(W:World)(hx:WX W k P)(d:Dd)(x:GV):SpM W ((W.alloc (.cells #[I0 x.z,I0 x.o,I0 x.s,S0 x.p,S0 x.d,I0 x.v,I0 x.w] 59)).alloc (.cells #[I0 d.k,I0 d.c,I0 d.s,I0 d.q.o,I0 d.q.s,S0 d.q.p,S0 d.q.d,I0 d.q.v,I0 d.q.f,I0 d.lo,I0 d.sl,I0 d.ke,.bool d.wt] 30)) k d x P (N0) []:=by
 exact⟨((hx.next (GI _ _)).next (GI _ _)).off,.inl ⟨rfl,rfl⟩,Touch.of_below (GK (GI _ _) (GI _ _)),(TAt.new W x).next (GI _ _),cO _ _ _⟩
end
theorem AQ0(N:Int)(p:Pw)(d:Dd)(k b:Nat)(W:World)(hx:WX W k ⟨N,p.s,p.r,p.c,p.D,p.H,p.h⟩)(h:QI p)(w:Wr p d b):Calls prog 47 #[wP k,JC (wX p d),ddV d] W fun e w'=>∃v,e=.returned (.tuple #[v,I0 0])/\I5 w' W.heap.size v ((wL p d).map fun i:Nat=>(i:Int))/\WX w' k ⟨N,wSv p d,wRo p d,p.c,p.D,p.H,p.h⟩/\Touch (· =k) W w':=by
 have HR:=GH h.r;have HTk:Hid (∀j,j<3->wT p d j=true->∀su v V,SvV V v (svP j (p.s j))->Calls prog 81 #[v,JC (wX p d),.bool su] V (BA0 V (svP j (TP (wX p d) su (p.s j))) 0)):=GH fun j hj ht su v V hv=>by
  obtain⟨e,hu⟩:=w.same h hj (CN1 ht);obtain⟨_,_,z3,_,_⟩:=w.zs h;exact(C83 (i:=j) su ((h.s j hj).more (by have:=w.n;omega)) hu (w.fit h).gd (by rw[e];exact z3) v V hv).mono fun _ _ h=>BS4 h.1 h.2
 have HSY:=GH (fun j=>CB9 (p:=p) (d:=d) (j:=j));have IX:=GH (fun(m:Nat) (hm:m<3) (u:World)=>CC7 p.r m hm u);have CB:=GH (fun n i hi V=>CC8 n i hi V);have HM0:=GH (SpM.start W hx d (wX p d));have hk0:=hx.lt;obtain⟨i0,hi0,hz0,hz1,hz2⟩:=A13;clear h w hx;generalize wX p d=x at*;unfold wP JC ddV;go_enter func47,ntmps47;go_upto_region 2 with fail;generalize ((W.alloc _).alloc _)=W0 at*;have r0:=(G9 HM0).x.x.role (i:=0) (by omega);have r1:=(G9 HM0).x.x.role (i:=1) (by omega);have r2:=(G9 HM0).x.x.role (i:=2) (by omega);simp only[Nat.reduceAdd]at r0 r1 r2;go_wp2_with fail;clear r0 r1 r2
 go_loopg [8,19] 3 (fun kx s8 s19 wr=>∃j:Nat,∃a c,s19=I0 j/\s8=FV a (spL p d j).length c/\j<=3/\3-j<=kx/\Hid (SpM W wr k d x ⟨N,spS p d j,spR p d j,p.c,p.D,p.H,p.h⟩ (FV a (spL p d j).length c) (spL p d j)))
 case atStart=>exact⟨0,G6,0,rfl,rfl,by omega,AA _,GH (by rw[B97.1,B97.2];exact G9 HM0)⟩
 case round=>
  obtain⟨j,a,c,rfl,rfl,hj,hg,HI⟩:=hrel;by_cases hlt:j<3
  .have IXm:=G9 IX j hlt;have hjj:(j:Int)<3:=by omega
   have e9:=(yL (G9 HI).d).1;have e10:=(yL (G9 HI).d).2;have hsl:=CC1 (p:=p) (d:=d) (j:=j);have hcase:p.r j=0\/(p.r j=1/\AD4 d.lo j=true)\/(p.r j=1/\AD4 d.lo j=false/\AD4 d.sl j=true)\/(p.r j=1/\AD4 d.lo j=false/\AD4 d.sl j=false)\/p.r j=2:=by
    rcases G9 HR j hlt with h|h|h
    .exact .inl h
    .cases h1:AD4 d.lo j
     .cases h2:AD4 d.sl j
      .exact .inr (.inr (.inr (.inl ⟨h,rfl,rfl⟩)))
      .exact .inr (.inr (.inl ⟨h,rfl,rfl⟩))
     .exact .inr (.inl ⟨h,rfl⟩)
    .exact .inr (.inr (.inr (.inr h)))
   rcases hcase with h0|⟨h1,hl⟩|hT
   .have hw:=CC4 (d:=d) h0;have hL:=B98 hlt hw.2;have HN:Hid (SpM W wr k d x ⟨N,spS p d (j+1),spR p d (j+1),p.c,p.D,p.H,p.h⟩ (FV a (spL p d (j+1)).length c) (spL p d (j+1))):=GH (by rw[BY9 hw.1,AF5 (by rw[CO9 hw.1,h0]),hL];exact G9 HI);have HL:=GH hL;rw[h0]at IXm;clear hw hL h0 HI e9 e10;go_wp2_with fail
    go_roundg (3-(j+1))
    case measure=>omega
    case rel=>exact⟨j+1,a,c,by simp,by rw[G9 HL],by omega,AA _,HN⟩
   .have hw:=CC5 (d:=d) h1 hl;have hL:=B98 hlt hw.2;have HN:Hid (SpM W (wr.setCell ⟨k,31+j,G6⟩ (I0 0)) k d x ⟨N,spS p d (j+1),spR p d (j+1),p.c,p.D,p.H,p.h⟩ (FV a (spL p d (j+1)).length c) (spL p d (j+1))):=GH (by
     rw[hL];refine(G9 HI).touch hk0 (JQ wr k (31+j) (I0 0)) ?_;rw[BY9 hw.1,CO8 hw.1];exact(G9 HI).x.VU hlt 0)
    have HL:=GH hL;have rj:=(G9 HI).x.x.role hlt;have fj:=(G9 HI).x.x.H6 (31+j);simp only[CO7,h1]at rj;rw[h1]at IXm;clear hw hL h1 HI e10;go_wp2_with fail;refine(G9 CB d.lo j hlt _).mono ?_;rintro e w1 ⟨rfl,hw1⟩;obtain rfl:=hw1.symm;simp only[hl];go_wp2_with fail
    go_roundg (3-(j+1))
    case measure=>omega
    case rel=>exact⟨j+1,a,c,by simp,by rw[G9 HL],by omega,AA _,HN⟩
   have hWT:wT p d j=true:=by
    rcases hT with⟨h1,hl,_⟩|⟨h1,hl,_⟩|h1
    .exact(dF h1 hl).1
    .exact(dF h1 hl).1
    .exact(B99 h1).1
   have HSJ:Hid (spS p d (j+1)=LZ (spS p d j) j (TP x (wS p d j) (p.s j))/\spR p d (j+1)=spR p d j):=GH ⟨G9 HSY j hWT,AF5 (CC6 hWT)⟩;obtain⟨ad,nd,cd,al,cl,an,cn,ai,ci,aw,cw,SS,hsv,_⟩:=(G9 HI).x.x.srv hlt (s:=svP j (p.s j)) (by simp only[CO6]);have HSS:=GH SS;have hkl:=(G9 HI).x.x.lt;clear SS hWT;refine Or.elim hT ?a0 (fun h=>Or.elim h ?a1 ?a2)
   all_goals clear hT
   case' a2=>
    intro h1;have HW:=GH (B99 (d:=d) h1);rw[h1]at IXm;have C0:=fun V (hV:B0 wr V)=>G9 HTk j hlt (G9 HW).1 true _ V (hsv.next hV);generalize hs1:svP j (TP x true (p.s j))=s1 at C0;have HK:Hid (svP j (TP x (wS p d j) (p.s j))=s1):=GH (by rw[(G9 HW).2];exact hs1);generalize svP j (p.s j)=s0 at*;unfold JC at C0;have C1:=GH C0;clear C0 hs1 hsv;go_upto_region 10 with fail
   case' a1=>
    rintro⟨h1,hl,hs⟩;have hw:=dF (d:=d) h1 hl;have HW:Hid (wT p d j=true/\wS p d j=true):=GH ⟨hw.1,by rw[hw.2,hs];rfl⟩;clear hw;rw[h1]at IXm;have C0:=fun V (hV:B0 wr V)=>G9 HTk j hlt (G9 HW).1 true _ V (hsv.next hV);generalize hs1:svP j (TP x true (p.s j))=s1 at C0;have HK:Hid (svP j (TP x (wS p d j) (p.s j))=s1):=GH (by rw[(G9 HW).2];exact hs1);generalize svP j (p.s j)=s0 at*;unfold JC at C0;have C1:=GH C0;clear C0 hs1 hsv;go_wp2_with fail;refine(G9 CB d.lo j hlt _).mono ?_;rintro e w1 ⟨rfl,hw1⟩;obtain rfl:=hw1.symm;simp only[hl];go_wp2_with fail;refine(G9 CB d.sl j hlt _).mono ?_;rintro e w1 ⟨rfl,hw1⟩;obtain rfl:=hw1.symm;simp only[hs];go_upto_region 10 with fail
   case' a0=>
    rintro⟨h1,hl,hs⟩;have hw:=dF (d:=d) h1 hl;have HW:Hid (wT p d j=true/\wS p d j=false):=GH ⟨hw.1,by rw[hw.2,hs];rfl⟩;clear hw;rw[h1]at IXm;have C0:=fun V (hV:B0 wr V)=>G9 HTk j hlt (G9 HW).1 false _ V (hsv.next hV);generalize hs1:svP j (TP x false (p.s j))=s1 at C0;have HK:Hid (svP j (TP x (wS p d j) (p.s j))=s1):=GH (by rw[(G9 HW).2];exact hs1);generalize svP j (p.s j)=s0 at*;unfold JC at C0;have C1:=GH C0;clear C0 hs1 hsv;go_wp2_with fail;refine(G9 CB d.lo j hlt _).mono ?_;rintro e w1 ⟨rfl,hw1⟩;obtain rfl:=hw1.symm;simp only[hl];go_wp2_with fail;refine(G9 CB d.sl j hlt _).mono ?_;rintro e w1 ⟨rfl,hw1⟩;obtain rfl:=hw1.symm;simp only[hs];go_upto_region 10 with fail
   all_goals
    have HKS:Hid (∀V,B0 wr V->V.cell? ⟨k,1+j*10,G6⟩=G8 (.bool s0.up)/\V.cell? ⟨k,1+j*10+1,G6⟩=G8 (FV ad nd cd)/\V.cell? ⟨k,1+j*10+2,G6⟩=G8 (I0 s0.id)/\V.cell? ⟨k,1+j*10+3,G6⟩=G8 (I0 s0.ep)/\V.cell? ⟨k,1+j*10+4,G6⟩=G8 (FV al s0.ts.length cl)/\V.cell? ⟨k,1+j*10+5,G6⟩=G8 (I0 s0.dn)/\V.cell? ⟨k,1+j*10+6,G6⟩=G8 (I0 s0.tr.z)/\V.cell? ⟨k,1+j*10+7,G6⟩=G8 (FV an s0.tr.ns.length cn)/\V.cell? ⟨k,1+j*10+8,G6⟩=G8 (FV ai s0.tr.ss.length ci)/\V.cell? ⟨k,1+j*10+9,G6⟩=G8 (FV aw s0.ws.length cw)/\V.cell? ⟨W.heap.size,0,G6⟩=G8 (I0 x.z)/\V.cell? ⟨W.heap.size,1,G6⟩=G8 (I0 x.o)/\V.cell? ⟨W.heap.size,2,G6⟩=G8 (I0 x.s)/\V.cell? ⟨W.heap.size,3,G6⟩=G8 (S0 x.p)/\V.cell? ⟨W.heap.size,4,G6⟩=G8 (S0 x.d)/\V.cell? ⟨W.heap.size,5,G6⟩=G8 (I0 x.v)/\V.cell? ⟨W.heap.size,6,G6⟩=G8 (I0 x.w)):=GH fun V hV=>by
     obtain⟨c0,c1,c2,c3,c4,c5,c6,c7,c8,c9⟩:=(G9 HSS).next hkl hV;simp only[DL 10 j]at c0 c1 c2 c3 c4 c5 c6 c7 c8 c9;have ha:=(G9 HI).a.next hV;exact⟨c0,c1,c2,c3,c4,c5,c6,c7,c8,c9,ha.c0,ha.c1,ha.c2,ha.c3,ha.c4,ha.c5,ha.c6⟩
    clear IXm e9 e10
    go_cut [13,14]from 48 to 74 (fun t13 t14 wx=>∃q gd nd1 cd1 gl cl1 gn cn1 gi ci1 gw cw1,t13=P0 q/\t14=I0 0/\Hid (SBX wr wx q s1 (FV gd nd1 cd1) (FV gl s1.ts.length cl1) (FV gn s1.tr.ns.length cn1) (FV gi s1.tr.ss.length ci1) (FV gw s1.ws.length cw1))/\Hid (Fr5 wr.heap.size (FV gd nd1 cd1) (FV gl s1.ts.length cl1) (FV gn s1.tr.ns.length cn1) (FV gi s1.tr.ss.length ci1) (FV gw s1.ws.length cw1)))
    case first=>
     have hS0:=G9 HKS _ (AB wr.heap.size wr).drew;refine wp_region_held (S:=fun V:World=>V.cell? ⟨k,1+j*10,G6⟩=G8 (.bool s0.up)/\V.cell? ⟨k,1+j*10+1,G6⟩=G8 (FV ad nd cd)/\V.cell? ⟨k,1+j*10+2,G6⟩=G8 (I0 s0.id)/\V.cell? ⟨k,1+j*10+3,G6⟩=G8 (I0 s0.ep)/\V.cell? ⟨k,1+j*10+4,G6⟩=G8 (FV al s0.ts.length cl)/\V.cell? ⟨k,1+j*10+5,G6⟩=G8 (I0 s0.dn)/\V.cell? ⟨k,1+j*10+6,G6⟩=G8 (I0 s0.tr.z)/\V.cell? ⟨k,1+j*10+7,G6⟩=G8 (FV an s0.tr.ns.length cn)/\V.cell? ⟨k,1+j*10+8,G6⟩=G8 (FV ai s0.tr.ss.length ci)/\V.cell? ⟨k,1+j*10+9,G6⟩=G8 (FV aw s0.ws.length cw)/\V.cell? ⟨W.heap.size,0,G6⟩=G8 (I0 x.z)/\V.cell? ⟨W.heap.size,1,G6⟩=G8 (I0 x.o)/\V.cell? ⟨W.heap.size,2,G6⟩=G8 (I0 x.s)/\V.cell? ⟨W.heap.size,3,G6⟩=G8 (S0 x.p)/\V.cell? ⟨W.heap.size,4,G6⟩=G8 (S0 x.d)/\V.cell? ⟨W.heap.size,5,G6⟩=G8 (I0 x.v)/\V.cell? ⟨W.heap.size,6,G6⟩=G8 (I0 x.w)) (by kernel_rfl) ?_;change wpAnyH _ _ _ _ _ _ _ _ wr.drew;refine tkH 0 hS0 ?_;refine tkH 1 hS0 ?_;refine tkH 2 hS0 ?_;refine tkH 3 hS0 ?_;refine tkH 4 hS0 ?_;refine tkH 5 hS0 ?_;refine tkH 6 hS0 ?_;refine tkH 7 hS0 ?_;refine rd2 8 12 (fun K hK=>?_) (fun K hK=>?_)
     .go_simp;refine(G9 C1 _ (AB _ _).drew).mono ?_;rintro e w1 ⟨gd,nd1,cd1,gl,cl1,gn,cn1,gi,ci1,gw,cw1,rfl,H1,hb1⟩;have aB1:Hid (B0 wr w1):=GH (GK (AB _ _).drew hb1);clear hb1;have hS1:=G9 HKS _ (G9 aB1);refine nxH hK hS1 ?_;clear hK K;refine tkH 9 hS1 ?_;refine tkH 10 hS1 ?_;refine tkH 11 hS1 ?_;refine rd1 12 (fun K hK=>?_);go_simp;have hS2:=G9 HKS _ (GK (G9 aB1) (GI w1 (.cells #[.bool false,N0,I0 0,I0 0,N0,I0 0,I0 0,N0,N0,N0] 55)));refine nxH hK hS2 ?_;clear hK K;refine rd1 13 (fun K hK=>?_);go_simp;have hX2:Hid (SBX wr _ _ s1 _ _ _ _ _):=GH (fA (u:=wr) (G9 aB1) (G9 H1).1 (fun _=>(G9 H1).2.i) (AA _));have hF2:Hid (Fr5 wr.heap.size (FV gd nd1 cd1) (FV gl s1.ts.length cl1) (FV gn s1.tr.ns.length cn1) (FV gi s1.tr.ss.length ci1) (FV gw s1.ws.length cw1)):=GH (BZ1 (G9 H1).2 (AA _));have hS3:=G9 HKS _ (G9 hX2).b;refine nxH hK hS3 ?_;clear hK K;refine tkH 14 hS3 ?_;refine wpAnyH_done (by kernel_rfl) ?_ _;go_wp2_with fail
      go_meet
      exact⟨_,gd,nd1,cd1,gl,cl1,gn,cn1,gi,ci1,gw,cw1,rfl,rfl,hX2,hF2⟩
     .go_simp;have hS2:=G9 HKS _ (GK (AB wr.heap.size wr).drew (GI wr.drew (.cells #[.bool false,N0,I0 0,I0 0,N0,I0 0,I0 0,N0,N0,N0] 55)));refine nxH hK hS2 ?_;clear hK K;refine rd1 8 (fun K hK=>?_);go_simp;refine(G9 C1 _ (GK (AB _ _).drew (GI _ _))).mono ?_;rintro e w1 ⟨gd,nd1,cd1,gl,cl1,gn,cn1,gi,ci1,gw,cw1,rfl,H1,hb1⟩;have aB1:Hid (B0 wr w1):=GH (GK (GK (AB _ _).drew (GI _ _)) hb1);have aZ1:Hid (IB w1 wr.heap.size false (N0) 0 0 (N0) 0 0 (N0) (N0) (N0)):=GH ((hb1.block _ (by simp)).trans (heap_alloc_new wr.drew _));clear hb1;have hS1:=G9 HKS _ (G9 aB1);refine nxH hK hS1 ?_;clear hK K;refine tkH 9 hS1 ?_;refine tkH 10 hS1 ?_;refine tkH 11 hS1 ?_;refine rd1 13 (fun K hK=>?_);have z0:=(G9 aZ1).H6 0;have z1:=(G9 aZ1).H6 1;have z2:=(G9 aZ1).H6 2;have z3:=(G9 aZ1).H6 3;have z4:=(G9 aZ1).H6 4;have z5:=(G9 aZ1).H6 5;have z6:=(G9 aZ1).H6 6;have z7:=(G9 aZ1).H6 7;have z8:=(G9 aZ1).H6 8;have z9:=(G9 aZ1).H6 9;obtain⟨x0,x1,x2,x3,x4,x5,x6,x7,x8,x9⟩:=(G9 aZ1).cells;go_simp;have hX2:Hid (SBX wr _ _ s1 _ _ _ _ _):=GH (lI (u:=(wr.drew.alloc (.cells #[.bool false,N0,I0 0,I0 0,N0,I0 0,I0 0,N0,N0,N0] 55))) (G9 aB1) (AA _) (G9 aZ1) (G9 H1).1 (fun _=>(G9 H1).2.i) (by simp));have hF2:Hid (Fr5 wr.heap.size (FV gd nd1 cd1) (FV gl s1.ts.length cl1) (FV gn s1.tr.ns.length cn1) (FV gi s1.tr.ss.length ci1) (FV gw s1.ws.length cw1)):=GH (BZ1 (G9 H1).2 (by simp));have hS3:=G9 HKS _ (G9 hX2).b;refine nxH hK hS3 ?_;clear hK K;refine tkH 14 hS3 ?_;refine wpAnyH_done (by kernel_rfl) ?_ _;go_wp2_with fail
      go_meet
      exact⟨_,gd,nd1,cd1,gl,cl1,gn,cn1,gi,ci1,gw,cw1,rfl,rfl,hX2,hF2⟩
    obtain⟨q,gd,nd1,cd1,gl,cl1,gn,cn1,gi,ci1,gw,cw1,rfl,rfl,HQ,HF⟩:=hcut;have X2:=GH ((G9 HI).x.next (G9 HQ).b);obtain⟨c0,c1,c2,c3,c4,c5,c6,c7,c8,c9,_⟩:=G9 HKS wc (G9 HQ).b;obtain⟨q0,q1,q2,q3,q4,q5,q6,q7,q8,q9⟩:=(G9 HQ).box.cells;have f0:=(G9 X2).x.H6 (1+j*10);have f1:=(G9 X2).x.H6 (1+j*10+1);have f2:=(G9 X2).x.H6 (1+j*10+2);have f3:=(G9 X2).x.H6 (1+j*10+3);have f4:=(G9 X2).x.H6 (1+j*10+4);have f5:=(G9 X2).x.H6 (1+j*10+5);have f6:=(G9 X2).x.H6 (1+j*10+6);have f7:=(G9 X2).x.H6 (1+j*10+7);have f8:=(G9 X2).x.H6 (1+j*10+8);have f9:=(G9 X2).x.H6 (1+j*10+9);have hkq:k≠q:=by have:=(G9 HQ).le;omega
    have hk2:=(G9 X2).x.lt;go_upto_region 13 with fail;go_region;have M3:Hid (SpM W (yY wc k (1+10*j) (.bool s1.up) (FV gd nd1 cd1) (I0 s1.id) (I0 s1.ep) (FV gl s1.ts.length cl1) (I0 s1.dn) (I0 s1.tr.z) (FV gn s1.tr.ns.length cn1) (FV gi s1.tr.ss.length ci1) (FV gw s1.ws.length cw1)).drew k d x ⟨N,spS p d (j+1),spR p d (j+1),p.c,p.D,p.H,p.h⟩ (FV a (spL p d j).length c) (spL p d j)):=GH (by
     refine(G9 HI).touch hk0 (((Touch.of_below (G9 HQ).b).trans (XZ wc k (1+10*j) _ _ _ _ _ _ _ _ _ _)).trans (Touch.of_below (AB _ _).drew)) ?_;rw[(G9 HSJ).1,(G9 HSJ).2];exact((G9 X2).oZ hlt (q:=TP x (wS p d j) (p.s j)) (G9 HK) (G9 HQ).v (G9 HF) hkl (fun b e=>(G9 HI).x.x.hlt e) (fun g e=>(G9 HI).o.low g e)).next (AB _ _).drew)
    unfold yY at M3;rw[DL 10 j]at M3;clear c0 c1 c2 c3 c4 c5 c6 c7 c8 c9 q0 q1 q2 q3 q4 q5 q6 q7 q8 q9 f0 f1 f2 f3 f4 f5 f6 f7 f8 f9 hkq hk2 X2 HQ HF HKS C1 HI HK hkl HSS HSJ;generalize World.drew _=W3 at*
   .have HL:=GH (B98 hlt (G9 HW).2);clear HW;go_wp2_with fail
    go_roundg (3-(j+1))
    case measure=>omega
    case rel=>exact⟨j+1,a,c,by simp,by rw[G9 HL],by omega,AA _,GH (by rw[G9 HL];exact G9 M3)⟩
   all_goals
    have HL:=GH (CC0 hlt (G9 HW).2);clear HW;have O3:=GH (fun O=>(G9 M3).o.next (GI W3 O));have S3:=GH (fun O=>show W.heap.size+2<=(W3.alloc O).heap.size from BP (G9 M3).d.ltz (GI W3 O).size);go_wp2_with (at_builtin;refine yK rfl _ _ 50 rfl i0 _ 8 underlying50 hi0 hz0 hz1 hz2 rfl (by decide) _ (spL p d j) rfl (W.heap.size+2) (G9 O3 _) W3.heap.size rfl (j:Int) (rH W3 j) (by omega) (by simp only[maxLen];omega) (G9 S3 _) ?_);intro a8 c8 w8 ho8 hg8 hn8;have HN:Hid (SpM W w8 k d x ⟨N,spS p d (j+1),spR p d (j+1),p.c,p.D,p.H,p.h⟩ (FV a8 ((spL p d j).length+1) c8) (spL p d j++[(j:Int)])):=GH (((G9 M3).touch hk0 (Touch.of_below (GI W3 _)) ((G9 M3).x.next (GI W3 _))).grown hk0 hg8 ho8 (fun g e=>by simpa using hn8 g e));clear ho8 hg8 hn8 O3 S3 M3;go_wp2_with fail
    go_roundg (3-(j+1))
    case measure=>omega
    case rel=>exact⟨j+1,a8,c8,by simp,by rw[G9 HL,List.length_append];rfl,by omega,AA _,GH (by rw[G9 HL,List.length_append];exact G9 HN)⟩
  .obtain rfl:j=3:=by omega
   have HZ:=GH (And.intro (G9 HI).o (And.intro ((G9 HI).x.x.CP0 (fun i hi=>(BZ0 i hi).1) (fun i hi=>(BZ0 i hi).2)) (G9 HI).t));clear HI;go_wp2_with fail;exact bodyPost_ret (v:=.tuple #[FV a (spL p d 3).length c,I0 0]) (by simp[results,results47,go_sem]) rfl ⟨_,rfl,by rw[<-CC3];exact(G9 HZ).1.lower (by omega),(G9 HZ).2.1,(G9 HZ).2.2⟩
