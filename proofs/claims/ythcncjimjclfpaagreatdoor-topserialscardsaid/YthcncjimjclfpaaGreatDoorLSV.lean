/-
  Part.
-/
import Derived.Test.YthcncjimjclfpaaGreatDoorLSF
import Derived.Sort.OwnSorted
import Derived.Test.YthcncjimjclfpaaGreatDoorLSD
set_option maxRecDepth 20000
set_option maxHeartbeats 8000000
namespace Go.Proofs.YthcncjimjclfpaaGreatDoor
open Go.RowKit Go.Proofs.Tryz
open _root_.Nat renaming le_refl->A8,lt_of_lt_of_le->AX,zero_le->AY,zero_add->BI,add_assoc->EI,add_sub_cancel_left->FB
open Go.RowKit.Below renaming refl->AA,heap_setCell->BF
open _root_.Array renaming getElem?_eq_some_iff->AB
open _root_.List renaming getElem?_eq_getElem->AL,length_append->AO,getElem?_eq_some_iff->AU,mem_of_getElem?->AZ,getElem?_append_right->BA,length_cons->BG,getElem?_append_left->BK,take_of_length_le->BL,mem_cons->BO,append_assoc->BQ,eq_nil_of_length_eq_zero->BR,append_nil->DL,mem_filter->EH,length_nil->ES,mem_map->EU,filter_append->EW
open Go.Value.slice renaming injEq->AP
open Go.World renaming cell?->AV,frozen?->F7
open _root_.Option.some renaming injEq->BD,inj->BN
open Go.Builtin renaming zeroCells->BH,copy_->DW
open Go.Addr renaming add_lit->BJ
open Go.Value renaming ownBlock->D8,slice->FQ
open Go.Lib renaming run_eql_slice_nil->EN,compareBytes->EO
open _root_.Option renaming map_eq_some_iff->FK,none->FX,some->FZ
open Go.Obj renaming cells->FT
open Go renaming World->FU,Value->FV,Calls->FW
variable{w W V:FU}{b off i k B g q cap:Nat}{xs:List En}{x:En}{α:Type}{v:FV}{s z:Int}{pr:En->Bool}{I:FU->Prop}
def OG(e:En):List FV:=[S0 e.p,S0 e.d,.bool e.t]
def enV(e:En):FV:=.agg #[S0 e.p,S0 e.d,.bool e.t]
def clV(s z:Int)(v:FV):FV:=.agg #[I0 s,I0 z,v]
instance layC:Lay En:=⟨3,OG,41,fun _=>rfl,fun x u hu=>by simp[OG]at hu;rcases hu with rfl|rfl|rfl<;>rfl⟩
theorem IE.en0(h:IE w b off (G9 xs))(hi:xs[i]?=FZ x):w.cell? ⟨b,off+i*3,FX⟩=FZ (S0 x.p):=
 h (i*3) _ (GV xs i x hi 0 (by decide))
theorem IE.en1(h:IE w b off (G9 xs))(hi:xs[i]?=FZ x):w.cell? ⟨b,off+i*3+1,FX⟩=FZ (S0 x.d):=by
 rw[EI];exact h (i*3+1) _ (GV xs i x hi 1 (by decide))
theorem IE.en2(h:IE w b off (G9 xs))(hi:xs[i]?=FZ x):w.cell? ⟨b,off+i*3+2,FX⟩=FZ (.bool x.t):=by
 rw[EI];exact h (i*3+2) _ (GV xs i x hi 2 (by decide))
theorem CM6:(prog.info? 41).map (fun i=>(i.zero,i.size,i.bytes))=FZ (FZ (.agg #[.string ⟨#[]⟩,.string ⟨#[]⟩,.bool false]),3,40):=by kernel_rfl
theorem BQ5:∃i0,prog.info? 41=FZ i0/\i0.zero=FZ (.agg #[.string ⟨#[]⟩,.string ⟨#[]⟩,.bool false])/\i0.size=3/\i0.bytes=40:=by
 obtain⟨i0,h,e⟩:=FK.1 CM6;simp only[Prod.mk.injEq]at e;exact⟨i0,h,e⟩
theorem sH(w:FU)(x:En):JF (w.alloc (FT #[S0 x.p,S0 x.d,.bool x.t] 41)) w.heap.size x:=heap_alloc_new w _
theorem crow[Lay α]{xs:List α}(hv:IU w v xs):∀W,B0 w W->∀ (k:Nat) (x:α),xs[k]?=FZ x->∃b off cap,v=FQ (FZ ⟨b,off,FX⟩) xs.length cap/\b<w.heap.size/\IE W b off (G9 xs):=fun W hW k x hx=>by
 obtain⟨b,off,cap,e,hb,hr,_,_⟩:=NZ hv (fun h0=>by obtain⟨h1,_⟩:=AU.1 hx;rw[h0]at h1;simp at h1);exact⟨b,off,cap,e,hb,hr.kept hW hb⟩
def OC(W:FU)(k:Nat)(s z:Int)(v:FV):Prop:=W.heap[k]?=FZ (FT #[I0 s,I0 z,v] 46 (0,0))
theorem OC.lt(h:OC W k s z v):k<W.heap.size:=(AB.1 h).1
theorem OC.c0(h:OC W k s z v):W.cell? ⟨k,0,FX⟩=FZ (I0 s):=by unfold OC at h;simp[AV,h]
theorem OC.c1(h:OC W k s z v):W.cell? ⟨k,1,FX⟩=FZ (I0 z):=by unfold OC at h;simp[AV,h]
theorem OC.c2(h:OC W k s z v):W.cell? ⟨k,2,FX⟩=FZ v:=by unfold OC at h;simp[AV,h]
theorem OC.fr(h:OC W k s z v)(j:Nat):W.frozen? ⟨k,j,FX⟩=false:=by unfold OC at h;simp[F7,h]
theorem OC.kept(h:OC W k s z v)(hb:Below B W V)(hk:k<B):OC V k s z v:=(hb.block k hk).trans h
theorem OC.next(h:OC W k s z v)(hb:B0 W V):OC V k s z v:=h.kept hb h.lt
theorem OC.grown{r:Option Nat}(h:OC W k s z v)(hg:W.grownBy V r)(hr:FZ k≠r):OC V k s z v:=(hg.block k h.lt hr).trans h
theorem OC.new(w:FU)(s z:Int)(v:FV):OC (w.alloc (FT #[I0 s,I0 z,v] 46)) w.heap.size s z v:=heap_alloc_new w _
theorem OC.set0{s':Int}(h:OC W k s z v):OC (W.setCell ⟨k,0,FX⟩ (I0 s')) k s' z v:=by unfold OC at h⊢;rw[GL _ h];rfl
theorem OC.set1{z':Int}(h:OC W k s z v):OC (W.setCell ⟨k,1,FX⟩ (I0 z')) k s z' v:=by unfold OC at h⊢;rw[GL _ h];rfl
theorem OC.set2{v':FV}(h:OC W k s z v):OC (W.setCell ⟨k,2,FX⟩ v') k s z v':=by unfold OC at h⊢;rw[GL _ h];rfl
theorem OC.other(h:OC W k s z v){a:Addr}(ha:k≠a.block)(u:FV):OC (W.setCell a u) k s z v:=(BF W a u k ha).trans h
theorem JF.ltz[Lay α]{x:α}(h:JF W b x):b<W.heap.size:=(AB.1 h).1
theorem JF.Y0[Lay α]{x:α}(h:JF W b x)(hb:Below B W V)(hk:b<B):JF V b x:=(hb.block b hk).trans h
theorem JF.OV[Lay α]{x:α}(h:JF W b x){a:Addr}(ha:b≠a.block)(u:FV):JF (W.setCell a u) b x:=(BF W a u b ha).trans h
theorem JF.e0(h:JF W b x):W.cell? ⟨b,0,FX⟩=FZ (S0 x.p):=h.row 0 _ rfl
theorem JF.e1(h:JF W b x):W.cell? ⟨b,1,FX⟩=FZ (S0 x.d):=by have:=h.row 1 _ rfl;simpa using this
theorem JF.e2(h:JF W b x):W.cell? ⟨b,2,FX⟩=FZ (.bool x.t):=by have:=h.row 2 _ rfl;simpa using this
theorem GZ.OV[Lay α]{xs:List α}(h:GZ W B v xs){j:Nat}(hk:k<B)(u:FV):GZ (W.setCell ⟨k,j,FX⟩ u) B v xs:=by
 rcases h with h|⟨g,cap,rfl,hB,h⟩
 .exact .inl h
 .exact .inr ⟨g,cap,rfl,hB,h.other (by simp only;omega) u⟩
theorem GZ.above[Lay α]{xs:List α}(h:GZ W B v xs):∀k,v.ownBlock=FZ k->B<=k:=by
 rcases h with⟨rfl,rfl⟩|⟨g,cap,rfl,hB,h⟩
 .intro k hk;simp[D8]at hk
 .intro k hk;simp only[D8,BD]at hk;omega
theorem gI(s:List UInt8)(w:FU)(hs:s.length<=281474976710656):
  FW prog 40 #[S0 s] w (R0 w (S0 s)):=by
 have C:=fun W=>stringslite_Clone ⟨s.toArray⟩ W (show (ByteArray.mk s.toArray).size<=_ from hs);go_enter func40,ntmps40;go_wp2_with fail;refine(C _).mono ?_;rintro e w1 ⟨rfl,hb1⟩;go_wp2_with fail;go_ret;exact⟨rfl,hb1⟩
theorem AF6(a:Addr)(cap:Nat)(xs:List En)(w:FU)(hl:xs.length*40<=140737488355328)(hc:∀j u,(G9 xs)[j]?=FZ u->w.cell? (a.add j)=FZ u):
  FW prog 20 #[FQ (FZ a) xs.length cap] w fun e w'=>∃v',e=.returned v'/\GZ w' w.heap.size v' xs/\B0 w w':=by
 have q22:∀ (w:FU) (a:Option Addr) (n c n' c':Nat),(binOp .eql 44 (FQ a n c) (FQ FX n' c')).run prog w=.ok (.bool a.isNone) w:=fun w a n c n' c'=>EN w _ _ a n c n' c' underlying44;have H:=G6 hc;clear hc;obtain⟨i0,hi0,hz0,hz1,hz2⟩:=BQ5;go_enter func20,ntmps20;go_wp2_with (at_builtin;refine wpList_append_own _ rfl _ _ 44 rfl w.heap.size 41 i0 _ 3 40 underlying44 hi0 hz0 hz1 hz2 rfl (by decide) _ _ _ rfl (World.ownsRow_made w #[] 0 (A8 _) (AY _) (by simp)) a xs.length cap (G9 xs) rfl ?qc1 ?qc2 ?qc3 ?qc4 ?qc5 ?qc6 ?_)
 case qc1=>exact GX xs
 case qc2=>
  intro j u hj;exact Lib.cell?_alloc_some _ (G5 H j u hj)
 case qc3=>exact JL xs
 case qc4=>simp only[maxLen];omega
 case qc5=>omega
 case qc6=>simp
 intro v' w1 hown hgrow hnil
 go_wp2
 go_ret;refine⟨v',rfl,GZ.LD (by first|exact hown|(simp only[List.nil_append,BI]at hown;exact hown)|simpa using hown),?_⟩;exact((AA _ w).alloc (A8 _) _).grown hgrow (by simp) (by intro k hk;simp[D8]at hk;omega)
theorem C89(n c:Nat)(w:FU):
  FW prog 20 #[FQ FX n c] w fun e w'=>e=.returned (N0)/\w'=w:=by
 have q22:∀ (w:FU) (a:Option Addr) (n c n' c':Nat),(binOp .eql 44 (FQ a n c) (FQ FX n' c')).run prog w=.ok (.bool a.isNone) w:=fun w a n c n' c'=>EN w _ _ a n c n' c' underlying44;go_enter func20,ntmps20
 go_wp2
 go_ret;exact⟨rfl,rfl⟩
theorem C90(v:FV)(xs:List En)(w:FU)(hv:IU w v xs)(hl:xs.length*40<=140737488355328):
  FW prog 20 #[v] w fun e w'=>∃v',e=.returned v'/\GZ w' w.heap.size v' xs/\B0 w w':=by
 rcases hv with⟨a,cap,rfl,rfl,_⟩|⟨b,off,cap,rfl,_,_,hb,_,hr⟩
 .cases a with
  |none=>exact(C89 0 cap w).mono fun e w' ⟨he,hw⟩=>⟨_,he,.inl ⟨rfl,rfl⟩,by rw[hw];exact AA _ _⟩
  |some a=>exact AF6 a cap [] w (by simp) (fun j u h=>by simp[G9]at h)
 .exact AF6 ⟨b,off,FX⟩ cap xs w hl (fun j u h=>by rw[BJ];exact hr j u h)
theorem AF7(x:En)(w:FU)(hp:x.p.length<=140737488355328)(hd:x.d.length<=140737488355328):
  FW prog 18 #[.agg #[S0 x.p,S0 x.d,.bool x.t]] w (R0 w (.agg #[S0 x.p,S0 x.d,.bool x.t])):=by
 obtain⟨xp,xd,xt⟩:=x;simp only at*;have Kp:=fun W=>gI xp W (by omega);have Kd:=fun W=>gI xd W (by omega);go_enter func18,ntmps18;go_wp2_with fail;generalize hW0:(w.alloc (FT #[S0 xp,S0 xd,.bool xt] 41)).alloc (FT #[.string ⟨#[]⟩,.string ⟨#[]⟩,.bool false] 41)=W0;have hB0:B0 w W0:=by rw[<-hW0];exact G8 (G7 _ _) (G7 _ _)
 have hz0:W0.heap.size=w.heap.size+2:=by rw[<-hW0];simp
 have p0:W0.cell? ⟨w.heap.size,0,FX⟩=FZ (S0 xp):=by rw[<-hW0];simp
 have r0:W0.cell? ⟨w.heap.size+1,0,FX⟩=FZ (.string ⟨#[]⟩):=by rw[<-hW0];simp
 have p1:W0.cell? ⟨w.heap.size,1,FX⟩=FZ (S0 xd):=by rw[<-hW0];simp
 have r1:W0.cell? ⟨w.heap.size+1,1,FX⟩=FZ (.string ⟨#[]⟩):=by rw[<-hW0];simp
 have p2:W0.cell? ⟨w.heap.size,2,FX⟩=FZ (.bool xt):=by rw[<-hW0];simp
 have r2:W0.cell? ⟨w.heap.size+1,2,FX⟩=FZ (.bool false):=by rw[<-hW0];simp
 have pf:∀j,W0.frozen? ⟨w.heap.size,j,FX⟩=false:=by intro j;rw[<-hW0];simp
 have rf:∀j,W0.frozen? ⟨w.heap.size+1,j,FX⟩=false:=by intro j;rw[<-hW0];simp
 clear hW0;have d0:∀d os,(Sort.grow (redrawn W0 d) os).cell? ⟨w.heap.size,0,FX⟩=FZ (S0 xp):=fun d os=>cell_regrown p0 d os;have g0:∀d os,(Sort.grow (redrawn W0 d) os).frozen? ⟨w.heap.size,0,FX⟩=false:=fun d os=>by rw[(below_regrown W0 d os).frozen (p:=⟨w.heap.size,0,FX⟩) (by simp only;omega)];exact pf 0
 have s0:∀d os,(Sort.grow (redrawn W0 d) os).setCell ⟨w.heap.size,0,FX⟩ (S0 xp)=Sort.grow (redrawn W0 d) os:=fun d os=>I8 (d0 d os);have c0:=fun d os=>Calls.regrown_of (w:=W0) (d:=d) (os:=os) (Kp _);have d1:∀d os,(Sort.grow (redrawn W0 d) os).cell? ⟨w.heap.size,1,FX⟩=FZ (S0 xd):=fun d os=>cell_regrown p1 d os;have g1:∀d os,(Sort.grow (redrawn W0 d) os).frozen? ⟨w.heap.size,1,FX⟩=false:=fun d os=>by rw[(below_regrown W0 d os).frozen (p:=⟨w.heap.size,1,FX⟩) (by simp only;omega)];exact pf 1
 have s1:∀d os,(Sort.grow (redrawn W0 d) os).setCell ⟨w.heap.size,1,FX⟩ (S0 xd)=Sort.grow (redrawn W0 d) os:=fun d os=>I8 (d1 d os);have c1:=fun d os=>Calls.regrown_of (w:=W0) (d:=d) (os:=os) (Kd _);refine wp_region_quiet_below (by kernel_rfl) (by kernel_rfl) ?_
 repeat (first|go_big_quiet_step (first|with_reducible exact c0 _ _|with_reducible exact c1 _ _)|quiet_step (first|with_reducible exact c0 _ _|with_reducible exact c1 _ _))
 refine wpQuiet_nil ?_;intro _ hw';obtain⟨⟨dq,osq⟩,hw''⟩:=hw';subst hw'';have hb1:=below_regrown W0 dq osq;have hB:=G8 hB0 hb1;have e0:=(hb1.cell (p:=⟨w.heap.size,0,FX⟩) (by simp only;omega)).trans p0;have u0:=(hb1.cell (p:=⟨w.heap.size+1,0,FX⟩) (by simp only;omega)).trans r0;have v0:=(hb1.frozen (p:=⟨w.heap.size+1,0,FX⟩) (by simp only;omega)).trans (rf 0);have e1:=(hb1.cell (p:=⟨w.heap.size,1,FX⟩) (by simp only;omega)).trans p1;have u1:=(hb1.cell (p:=⟨w.heap.size+1,1,FX⟩) (by simp only;omega)).trans r1;have v1:=(hb1.frozen (p:=⟨w.heap.size+1,1,FX⟩) (by simp only;omega)).trans (rf 1);have e2:=(hb1.cell (p:=⟨w.heap.size,2,FX⟩) (by simp only;omega)).trans p2;have u2:=(hb1.cell (p:=⟨w.heap.size+1,2,FX⟩) (by simp only;omega)).trans r2;have v2:=(hb1.frozen (p:=⟨w.heap.size+1,2,FX⟩) (by simp only;omega)).trans (rf 2);generalize Sort.grow (redrawn W0 dq) osq=w1 at*;clear hb1 hB0 hz0 pf rf p0 r0 p1 r1 p2 r2 d0 g0 s0 c0 Kp d1 g1 s1 c1 Kd;go_wp2_with fail;refine bodyPost_ret (v:=.agg #[S0 xp,S0 xd,.bool xt]) (by simp[results,results18,go_sem,u0,u1,u2]) rfl ⟨rfl,?_⟩;exact(((hB.setCell (by simp) _).setCell (by simp) _).setCell (by simp) _)
theorem ZX(s z:Int)(v:FV)(es:List En)(w:FU)(hv:IU w v es)(hs:yD es)(hl:es.length*40<=140737488355328):
  FW prog 97 #[clV s z v] w fun e w'=>∃v',e=.returned (clV s z v')/\GZ w' w.heap.size v' es/\B0 w w':=by
 have CC:=fun W (hW:B0 w W)=>C90 v es W (hv.next hW) hl;have HO:Hid (∀x∈es,∀W,FW prog 18 #[.agg #[S0 x.p,S0 x.d,.bool x.t]] W (R0 W (.agg #[S0 x.p,S0 x.d,.bool x.t]))):=G6 fun x hm W=>AF7 x W (hs x hm).1 (hs x hm).2;obtain⟨a,c,rfl⟩:=GK hv;unfold clV;clear hv hs;go_enter func97,ntmps97;go_wp2_with fail;refine(CC _ (G8 (G7 _ _) (G7 _ _))).mono ?_;rintro e w1 ⟨v',rfl,ho,hb1⟩;have HB1:=G6 (G8 (G8 (G7 w _) (G7 _ _)) hb1);have X1:=((OC.new w s z (FQ a es.length c)).next (G7 _ (FT #[I0 0,I0 0,N0] 46))).next hb1;have X2:=(OC.new (w.alloc (FT #[I0 s,I0 z,FQ a es.length c] 46)) 0 0 (N0)).next hb1;have hs1:(w.alloc (FT #[I0 s,I0 z,FQ a es.length c] 46)).heap.size=w.heap.size+1:=by simp
 rw[hs1]at X2;have hz1:w.heap.size+2<=w1.heap.size:=by have:=hb1.size;simpa using this
 have c2:=X1.c2;have f2:=X1.fr 2;have Y1:=X1.set2 (v':=v');have Y2:=X2.other (a:=⟨w.heap.size,2,FX⟩) (by simp) v';rcases ho with⟨rfl,rfl⟩|⟨g,cap,rfl,hg,ho⟩
 .clear CC hb1 X1 X2;have HY1:=G6 Y1;have HY2:=G6 Y2;clear Y1 Y2;go_wp2_with fail
  go_loopg [12] 1 (fun _ s wr=>s=I0 0/\wr=w1.setCell ⟨w.heap.size,2,FX⟩ (N0))
  case atStart=>exact⟨rfl,rfl⟩
  case round=>
   obtain⟨rfl,rfl⟩:=hrel;have q0:=(G5 HY1).c0;have q1:=(G5 HY1).c1;have q2:=(G5 HY1).c2;have r0:=(G5 HY2).c0;have r1:=(G5 HY2).c1;have r2:=(G5 HY2).c2;have t0:=(G5 HY2).fr 0;have t1:=(G5 HY2).fr 1;have t2:=(G5 HY2).fr 2;have HB2:=G6 ((G5 HB1).setCell (p:=⟨w.heap.size,2,FX⟩) (A8 _) (N0));generalize w1.setCell ⟨w.heap.size,2,FX⟩ (N0)=W at*;go_wp2_with fail;refine bodyPost_ret (v:=.agg #[I0 s,I0 z,N0]) (by simp[results,results97,go_sem,r0,r1,r2]) rfl ⟨_,rfl,.inl ⟨rfl,rfl⟩,?_⟩;exact(((G5 HB2).setCell (by simp) _).setCell (by simp) _).setCell (by simp) _
 .have hgl:=ho.lt;have hg2:w.heap.size+2<=g:=by simpa using hg
  have HW:=G6 (ho.other (a:=⟨w.heap.size,2,FX⟩) (by simp only;omega) (FQ (FZ ⟨g,0,FX⟩) es.length cap));have HY1:=G6 Y1;have HY2:=G6 Y2;have HB2:=G6 ((G5 HB1).setCell (p:=⟨w.heap.size,2,FX⟩) (A8 _) (FQ (FZ ⟨g,0,FX⟩) es.length cap));have hzs:(w1.setCell ⟨w.heap.size,2,FX⟩ (FQ (FZ ⟨g,0,FX⟩) es.length cap)).heap.size=w1.heap.size:=by simp[World.setCell]
  clear ho CC hb1 X1 X2 Y1 Y2 hg;go_wp2_with fail;generalize w1.setCell ⟨w.heap.size,2,FX⟩ (FQ (FZ ⟨g,0,FX⟩) es.length cap)=W at*
  go_loopg [12] es.length (fun kx s wr=>∃k:Nat,s=I0 k/\k<=es.length/\es.length-k<=kx/\Hid (B0 W wr))
  case atStart=>exact⟨0,rfl,AY _,by omega,G6 (AA _ _)⟩
  case round=>
   obtain⟨k,rfl,hk,hkx,hB⟩:=hrel;have Z1:=(G5 HY1).next (G5 hB);by_cases hlt:k<es.length
   .obtain⟨x,hx⟩:∃x,es[k]?=FZ x:=⟨_,AL hlt⟩;have o:=(G5 HW).next (G5 hB);have QX:=o.lt;have a0:=o.row.en0 hx;have a1:=o.row.en1 hx;have a2:=o.row.en2 hx;simp only[BI]at a0 a1 a2;have CX:=G5 HO x (AZ hx);have hzr:=(G5 hB).size;obtain⟨yp,yd,yt⟩:=x;simp only at a0 a1 a2 CX;have N1:=sH wr ⟨yp,yd,yt⟩;simp only at N1;have O2:=o.next (G7 wr (FT #[S0 yp,S0 yd,.bool yt] 41));have b2:=(Z1.next (G7 wr (FT #[S0 yp,S0 yd,.bool yt] 41))).c2;have p0:=N1.e0;have p1:=N1.e1;have p2:=N1.e2;have r0:=O2.row.en0 hx;have r1:=O2.row.en1 hx;have r2:=O2.row.en2 hx;have rf:=O2.frozen;have hg3:=O2.lt;simp only[BI]at r0 r1 r2 p0 p1 p2;have HB3:=G6 (G8 (G5 hB) (G7 wr (FT #[S0 yp,S0 yd,.bool yt] 41)));clear hx o O2 N1 Z1;go_wp2_with fail;generalize wr.alloc (FT #[S0 yp,S0 yd,.bool yt] 41)=W0 at*;have b2':=fun d os=>cell_regrown b2 d os;have p0':=fun d os=>cell_regrown p0 d os;have p1':=fun d os=>cell_regrown p1 d os;have p2':=fun d os=>cell_regrown p2 d os;have r0':=fun d os=>cell_regrown r0 d os;have r1':=fun d os=>cell_regrown r1 d os;have r2':=fun d os=>cell_regrown r2 d os;have t0:∀d os,(Sort.grow (redrawn W0 d) os).frozen? ⟨g,k*3,FX⟩=false:=fun d os=>by rw[(below_regrown W0 d os).frozen (p:=⟨g,k*3,FX⟩) hg3];exact rf _
    have t1:∀d os,(Sort.grow (redrawn W0 d) os).frozen? ⟨g,k*3+1,FX⟩=false:=fun d os=>by rw[(below_regrown W0 d os).frozen (p:=⟨g,k*3+1,FX⟩) hg3];exact rf _
    have t2:∀d os,(Sort.grow (redrawn W0 d) os).frozen? ⟨g,k*3+2,FX⟩=false:=fun d os=>by rw[(below_regrown W0 d os).frozen (p:=⟨g,k*3+2,FX⟩) hg3];exact rf _
    have s0:=fun d os=>I8 (r0' d os);have s1:=fun d os=>I8 (r1' d os);have s2:=fun d os=>I8 (r2' d os);have c0:=fun d os=>Calls.regrown_of (w:=W0) (d:=d) (os:=os) (CX _);clear rf p0 p1 p2 r0 r1 r2 b2;refine wp_region_quiet_below (by kernel_rfl) (by kernel_rfl) ?_
    repeat (first|go_big_quiet_step (with_reducible exact c0 _ _)|quiet_step (with_reducible exact c0 _ _))
    refine wpQuiet_nil ?_;intro _ hw';obtain⟨⟨dq,osq⟩,hw''⟩:=hw';subst hw'';have hB2:=G6 (G8 (G5 HB3) (below_regrown W0 dq osq));generalize Sort.grow (redrawn W0 dq) osq=w2 at*;clear b2' p0' p1' p2' r0' r1' r2' t0 t1 t2 s0 s1 s2 c0 CX;go_wp2_with fail
    go_roundg (es.length-(k+1))
    case measure=>omega
    case rel=>exact⟨k+1,rfl,by omega,A8 _,hB2⟩
   .have Z2:=(G5 HY2).next (G5 hB);have q0:=Z1.c0;have q1:=Z1.c1;have q2:=Z1.c2;have r0:=Z2.c0;have r1:=Z2.c1;have r2:=Z2.c2;have t0:=Z2.fr 0;have t1:=Z2.fr 1;have t2:=Z2.fr 2;have O2:=(G5 HW).next (G5 hB);clear Z1 Z2;go_wp2_with fail;refine bodyPost_ret (v:=.agg #[I0 s,I0 z,FQ (FZ ⟨g,0,FX⟩) es.length cap]) (by simp[results,results97,go_sem,r0,r1,r2]) rfl ⟨_,rfl,.inr ⟨g,cap,rfl,by omega,?_⟩,?_⟩
    .exact((O2.other (by simp only;omega) _).other (by simp only;omega) _).other (by simp only;omega) _
    .exact(((G8 (G5 HB2) (G5 hB)).setCell (by simp) _).setCell (by simp) _).setCell (by simp) _
theorem AF8(n:En)(p:List UInt8)(w:FU):
  FW prog 38 #[enV n,S0 p] w (R0 w (I0 (EO n.p p))):=by
 unfold enV;go_enter func38,ntmps38;go_wp2_with fail;refine(strings_Compare _ _ _).mono ?_;rintro e w1 ⟨rfl,rfl⟩;go_wp2_with fail;go_ret;exact⟨rfl,G7 _ _⟩
def sK(R:List En)(p:List UInt8):Bool:=match R with
 |[]=>false
 |f::_=>decide (f.p=p)
theorem AQ2(A R:List En)(p:List UInt8)(lo:∀a∈A,bl a.p p=true)(hi:∀a∈R,bl a.p p=false)(i:Nat)(h:i<A.length+R.length):∃y,(A++R)[i]?=FZ y/\bl y.p p=decide (i<A.length):=by
 by_cases h1:i<A.length
 .refine⟨A[i],by rw[BK h1,AL h1],?_⟩;rw[lo _ (List.getElem_mem h1)];simp[h1]
 .have h2:i-A.length<R.length:=by omega
  refine⟨R[i-A.length],by rw[BA (by omega),AL h2],?_⟩;rw[hi _ (List.getElem_mem h2)];simp[h1]
theorem BQ7(b off cap:Nat)(A R:List En)(p:List UInt8)(w:FU)(hcap:A.length+R.length<=100000)(hb:b<w.heap.size)(h:IE w b off (G9 (A++R)))
  (lo:∀a∈A,bl a.p p=true) (hi:∀a∈R,bl a.p p=false):
  FW prog 37 #[FQ (FZ ⟨b,off,FX⟩) (A.length+R.length) cap,S0 p,.func (.func 38) #[] #[]] w fun e w'=>
   e=.returned (.tuple #[I0 A.length,.bool (sK R p)])/\B0 w w':=by
 have H:=G6 h;have SG:=G6 (AQ2 A R p lo hi);obtain⟨fin,hfin⟩:∃x,sK R p=x:=⟨_,rfl⟩;have HF:=G6 hfin;rw[hfin];clear h hfin lo hi;go_enter func37,ntmps37;go_wp2_with fail
 go_loopg [9,10] (A.length+R.length) (fun kx s9 s10 wr=>∃lo hi:Nat,s9=I0 lo/\s10=I0 hi/\lo<=A.length/\A.length<=hi/\hi<=A.length+R.length/\hi-lo<=kx/\Hid (B0 w wr))
 case atStart=>exact⟨0,A.length+R.length,rfl,rfl,AY _,by omega,A8 _,by omega,G6 (AA _ _)⟩
 case round=>
  obtain⟨lo,hi,rfl,rfl,h1,h2,h3,hg,hB⟩:=hrel;by_cases hlt:lo<hi
  .obtain⟨y,hy,hyn⟩:=G5 SG ((lo+hi)/2) (by omega);have HY:=G6 hyn;have r:=(G5 H).kept (G5 hB) hb;have e0:=r.en0 hy;have e1:=r.en1 hy;have e2:=r.en2 hy;clear hyn hy r;have hc:=A90 y.p p;rw[G5 HY]at hc;have CM:=fun W=>AF8 y p W;generalize EO y.p p=cv at hc CM;by_cases hm:(lo+hi)/2<A.length
   .have hn:cv<0:=by simpa [hm]using hc
    clear hc;go_wp2_with fail;refine(CM _).mono ?_;rintro e w1 ⟨rfl,hb1⟩;have hB2:B0 w w1:=(G5 hB).trans (hb1.mono (G5 hB).size);clear CM;go_wp2_with fail
    go_roundg (hi-((lo+hi)/2+1))
    case measure=>omega
    case rel=>exact⟨(lo+hi)/2+1,hi,by rw[show ((lo:Int)+(hi:Int))/2+1=(((lo+hi)/2+1:Nat):Int) by omega],rfl,by omega,h2,h3,A8 _,G6 hB2⟩
   .have hn:¬cv<0:=by simpa [hm]using hc
    clear hc;go_wp2_with fail;refine(CM _).mono ?_;rintro e w1 ⟨rfl,hb1⟩;have hB2:B0 w w1:=(G5 hB).trans (hb1.mono (G5 hB).size);clear CM;go_wp2_with fail
    go_roundg ((lo+hi)/2-lo)
    case measure=>omega
    case rel=>exact⟨lo,(lo+hi)/2,rfl,by rw[show ((lo:Int)+(hi:Int))/2=(((lo+hi)/2:Nat):Int) by omega],h1,by omega,by omega,A8 _,G6 hB2⟩
  .obtain rfl:lo=A.length:=by omega
   obtain rfl:hi=A.length:=by omega
   cases R with
   |nil=>
    go_wp2_with fail
    go_ret2
    exact⟨by rw[<-G5 HF];rfl,G5 hB⟩
   |cons f R=>
    have r:=(G5 H).kept (G5 hB) hb;have hy:(A++f::R)[A.length]?=FZ f:=by simp
    have e0:=r.en0 hy;have e1:=r.en1 hy;have e2:=r.en2 hy;clear hy r;have hc:=iD f.p p;have CM:=fun W=>AF8 f p W;have hf:fin=decide (f.p=p):=(G5 HF).symm;rw[<-hc]at hf;clear hc HF;generalize EO f.p p=cv at hf CM;subst hf;simp only[BG];go_wp2_with fail;refine(CM _).mono ?_;rintro e w1 ⟨rfl,hb1⟩;have hB2:B0 w w1:=(G5 hB).trans (hb1.mono (G5 hB).size);clear CM;go_wp2_with fail
    go_ret2
    exact⟨by rfl,hB2⟩
theorem B74(a:Option Addr)(cap:Nat)(p:List UInt8)(w:FU):
  FW prog 37 #[FQ a 0 cap,S0 p,.func (.func 38) #[] #[]] w fun e w'=>
   e=.returned (.tuple #[I0 0,.bool false])/\B0 w w':=by
 go_enter func37,ntmps37;go_wp2_with fail
 go_loopg [9,10] 1 (fun _ s9 s10 wr=>s9=I0 0/\s10=I0 0/\Hid (B0 w wr))
 case atStart=>exact⟨rfl,rfl,G6 (AA _ _)⟩
 case round=>
  obtain⟨rfl,rfl,hB⟩:=hrel;go_wp2_with fail
  go_ret2
  exact⟨rfl,G5 hB⟩
theorem lT(v:FV)(ns A R:List En)(p:List UInt8)(w:FU)(hv:IU w v ns)(hl:ns.length<=100000)(he:ns=A++R)(lo:∀a∈A,bl a.p p=true)(hi:∀a∈R,bl a.p p=false):
  FW prog 17 #[v,S0 p] w (R0 w (.tuple #[I0 A.length,.bool (sK R p)])):=by
 have C:∀W:FU,B0 w W->FW prog 37 #[v,S0 p,.func (.func 38) #[] #[]] W fun e w'=>
   e=.returned (.tuple #[I0 A.length,.bool (sK R p)])/\B0 W w':=fun W hW=>by
  rcases hv with⟨a,cap,rfl,h0,_⟩|⟨b,off,cap,rfl,_,_,hb,_,hr⟩
  .rw[h0]at he;obtain⟨rfl,rfl⟩:A=[]/\R=[]:=by
    have:=congrArg List.length he;simp at this;exact⟨BR (by omega),BR (by omega)⟩
   exact B74 a cap p W
  .subst he;rw[AO];exact BQ7 b off cap A R p W (by simpa using hl) (AX hb hW.size) (hr.kept hW hb) lo hi
 have C':=G6 C;obtain⟨a,c,rfl⟩:=GK hv;clear C hv hl he lo hi;generalize sK R p=hd at C'⊢;go_enter func17,ntmps17;go_wp2_with fail;refine(G5 C' _ (AA _ _)).mono ?_;rintro e w1 ⟨rfl,hb1⟩;go_wp2_with fail
 go_ret2
 exact⟨rfl,hb1⟩
theorem A59(v:FV)(ns A B:List En)(f:En)(p:List UInt8)(w:FU)(hv:IU w v ns)(hl:ns.length<=100000)(T:AE9 ns A f B p):
  FW prog 17 #[v,S0 p] w (R0 w (.tuple #[I0 A.length,.bool true])):=by
 have:=lT v ns A (f::B) p w hv hl T.eq T.lo (fun a ha=>by
  rcases BO.1 ha with rfl|h
  .rw[T.nm];exact O9 _
  .exact OD (T.hi a h))
 rwa[show sK (f::B) p=true from by simp[sK,T.nm]]at this
theorem B75(v:FV)(ns A B:List En)(p:List UInt8)(w:FU)(hv:IU w v ns)(hl:ns.length<=100000)(G:CS9 ns A B p):
  FW prog 17 #[v,S0 p] w (R0 w (.tuple #[I0 A.length,.bool false])):=by
 have:=lT v ns A B p w hv hl G.eq G.lo (fun a ha=>OD (G.hi a ha));rwa[show sK B p=false from by
  cases B with
  |nil=>rfl
  |cons f B=>have:=WS (G.hi f (by simp));simp[sK,this.symm]]at this
theorem BQ8(s:Int)(w:FU)(h1:1<=s)(h2:s<=2147483647):
  FW prog 32 #[I0 s] w (R0 w (.tuple #[clV s 0 (N0),I0 0])):=by
 unfold clV;go_enter func32,ntmps32;go_wp2_with fail;refine bodyPost_ret (v:=.tuple #[.agg #[I0 s,I0 0,N0],I0 0]) (by simp[results,results32,go_sem]) rfl ⟨rfl,?_⟩
 first|exact G7 _ _|exact(((G7 w _).setCell (by simp) _).setCell (by simp) _).setCell (by simp) _
theorem C91(s z z':Int)(a:Option Addr)(n c:Nat)(w:FU)(h:z'<z):
  FW prog 66 #[clV s z (FQ a n c),I0 z'] w (R0 w (.tuple #[clV 0 0 (N0),I0 15])):=by
 unfold clV;go_enter func66,ntmps66;go_wp2_with fail;refine bodyPost_ret (v:=.tuple #[.agg #[I0 0,I0 0,N0],I0 15]) (by simp[results,results66,go_sem]) rfl ⟨rfl,?_⟩
 first|exact G8 (G7 _ _) (G7 _ _)|exact(((G8 (G7 w _) (G7 _ _)).setCell (by simp) _).setCell (by simp) _).setCell (by simp) _
theorem AF9(s z z':Int)(v:FV)(es:List En)(w:FU)(hv:IU w v es)(hs:yD es)(hl:es.length*40<=140737488355328)(h:z<=z'):
  FW prog 66 #[clV s z v,I0 z'] w fun e w'=>∃v',e=.returned (.tuple #[clV s z' v',I0 0])/\GZ w' w.heap.size v' es/\B0 w w':=by
 have CC:=fun W (hW:B0 w W)=>ZX s z v es W (hv.next hW) hs hl;obtain⟨a,c,rfl⟩:=GK hv;unfold clV at CC⊢;clear hv hs;go_enter func66,ntmps66;go_wp2_with fail;refine(CC _ (G8 (G7 _ _) (G7 _ _))).mono ?_;rintro e w1 ⟨v1,rfl,ho1,hb1⟩;obtain⟨a1,c1,rfl,_⟩:=ho1.slice;have X2:=(OC.new (w.alloc (FT #[I0 s,I0 z,FQ a es.length c] 46)) 0 0 (N0)).next hb1;have hs1:(w.alloc (FT #[I0 s,I0 z,FQ a es.length c] 46)).heap.size=w.heap.size+1:=by simp
 rw[hs1]at X2;have hz1:=hb1.size;have hz2:w.heap.size+2<=w1.heap.size:=by simpa using hz1
 have B2:=G8 (G8 (G8 (G7 w _) (G7 _ _)) hb1) (G7 w1 (FT #[I0 s,I0 z',FQ a1 es.length c1] 46));have O2:=ho1.next (G7 w1 (FT #[I0 s,I0 z',FQ a1 es.length c1] 46));have Y2:=X2.next (G7 w1 (FT #[I0 s,I0 z',FQ a1 es.length c1] 46));have Y1:=OC.new w1 s z' (FQ a1 es.length c1);have r0:=Y2.c0;have r1:=Y2.c1;have r2:=Y2.c2;have f0:=Y2.fr 0;have f1:=Y2.fr 1;have f2:=Y2.fr 2;have q0:=Y1.c0;have q1:=Y1.c1;have q2:=Y1.c2;have HB2:=G6 B2;have HO2:=G6 O2;clear CC hb1 X2 Y2 Y1 B2 O2 hz1;have hO1:=G6 ho1;clear ho1;go_wp2_with fail;refine bodyPost_ret (v:=.tuple #[.agg #[I0 s,I0 z',FQ a1 es.length c1],I0 0]) (by simp[results,results66,go_sem,r0,r1,r2]) rfl ⟨_,rfl,?_,?_⟩
 .exact((((G5 HO2).OV (by simp) _).OV (by simp) _).OV (by simp) _).lower (by simp;omega)
 .exact(((G5 HB2).setCell (by simp) _).setCell (by simp) _).setCell (by simp) _
def chP(s:Int)(l:List Nt):List (List UInt8):=(l.filter fun n=>decide (n.s=s)&& !decide (n.k=4)).map fun n=>n.p
def YC(l:List (List UInt8)):List (List UInt8):=l.mergeSort fun x y=>decide (x<=y)
theorem BT4(s:Int)(l:List Nt)(p:List UInt8):CM4 s l p=decide (p∈YC (chP s l)):=by
 rw[Bool.eq_iff_iff];constructor
 .intro h;obtain⟨n,h1,h2⟩:=List.any_eq_true.1 h;rw[Bool.and_eq_true]at h2;exact decide_eq_true (List.mem_mergeSort.2 (EU.2 ⟨n,EH.2 ⟨h1,h2.1⟩,of_decide_eq_true h2.2⟩))
 .intro h;obtain⟨n,h1,h2⟩:=EU.1 (List.mem_mergeSort.1 (of_decide_eq_true h));obtain⟨h3,h4⟩:=EH.1 h1;exact List.any_eq_true.2 ⟨n,h3,by rw[Bool.and_eq_true];exact⟨h4,decide_eq_true h2⟩⟩
theorem BT5(x y:List UInt8):decide (x<=y)= !bl y x:=by
 rw[show bl y x=decide (y<x)from Go.Proofs.bytesLess_eq y x];by_cases h:y<x
 .simp[h,List.not_le.2 h]
 .simp[h,List.not_lt.1 h]
theorem BA2{a b c:List UInt8}(h1:bl b a=false)(h2:bl c b=false):bl c a=false:=by
 cases h:bl c a with
 |false=>rfl
 |true=>
  cases h3:bl a b with
  |true=>rw[QH _ _ _ h h3]at h2;cases h2
  |false=>rw[TL _ _ h3 h1]at h;rw[h]at h2;cases h2
theorem BA3(l:List (List UInt8)):(YC l).Pairwise fun a b=>bl b a=false:=by
 have:=List.pairwise_mergeSort (le:=fun x y:List UInt8=>decide (x<=y)) (fun a b c h1 h2=>by
  rw[BT5]at h1 h2⊢;simp only[Bool.not_eq_true']at h1 h2⊢;exact BA2 h1 h2) (fun a b=>by
  rw[BT5,BT5]
  cases h:bl b a with
  |false=>rfl
  |true=>rw[OD h];rfl) l
 refine this.imp fun {a b} h=>?_;rw[BT5]at h;simpa using h
theorem yY(p:List UInt8):∀l:List (List UInt8),(l.Pairwise fun a b=>bl b a=false)->∃A R,l=A++R/\(∀a∈A,bl a p=true)/\(∀a∈R,bl a p=false)/\(decide (p∈l)=match R with|[]=>false|f::_=>decide (f=p))
 |[],_=>⟨[],[],rfl,by simp,by simp,by simp⟩
 |x::r,h=>by
  obtain⟨hx,hr⟩:=List.pairwise_cons.1 h
  cases h1:bl x p with
  |true=>
   obtain⟨A,R,e,lo,hi,hm⟩:=yY p r hr;refine⟨x::A,R,by rw[e];rfl,by simp[h1];exact lo,hi,?_⟩;rw[<-hm];have:p≠x:=fun e=>by rw[e,O9]at h1;cases h1
   simp[this]
  |false=>
   refine⟨[],x::r,rfl,by simp,?_,?_⟩
   .intro a ha;rcases BO.1 ha with rfl|ha
    .exact h1
    .cases hb:bl a p with
     |false=>rfl
     |true=>
      have h2:=hx a ha
      cases h3:bl x a with
      |true=>rw[QH _ _ _ h3 hb]at h1;cases h1
      |false=>rw[TL _ _ h3 h2,hb]at h1;cases h1
   .by_cases hp:x=p
    .simp[hp]
    .have:p∉x::r:=by
      intro hm;rcases BO.1 hm with rfl|hm
      .exact hp rfl
      .have h2:=hx p hm;exact hp (TL _ _ h1 h2)
     simp[this,hp]
theorem BA4(x:List UInt8)(w:FU):FW prog 206 #[S0 x] w fun e w'=>e=.returned (.bool false)/\w'=w:=by
 go_enter func206,ntmps206
 go_wp2
 go_ret;exact⟨by simp,rfl⟩
theorem BA5(x:List UInt8)(w:FU):FW prog 178 #[S0 x] w fun e w'=>e=.returned (.bool false)/\w'=w:=by
 go_enter func178,ntmps178
 go_wp2
 go_ret;exact⟨by simp,rfl⟩
theorem AR4(x y:List UInt8)(w:FU):FW prog 177 #[S0 x,S0 y] w fun e w'=>e=.returned (.bool (bl x y))/\w'=w:=by
 go_enter func177,ntmps177;go_wp2_with fail;refine(BA4 _ _).mono ?_;rintro e w1 ⟨rfl,rfl⟩;go_wp2_with fail;go_ret;exact⟨rfl,rfl⟩
def CP3(R:List (List UInt8))(p:List UInt8):Bool:=match R with
 |[]=>false
 |f::_=>decide (f=p)
theorem AR5(A R:List (List UInt8))(p:List UInt8)(lo:∀a∈A,bl a p=true)(hi:∀a∈R,bl a p=false)(i:Nat)(h:i<A.length+R.length):∃y,(A++R)[i]?=FZ y/\bl y p=decide (i<A.length):=by
 by_cases h1:i<A.length
 .refine⟨A[i],by rw[BK h1,AL h1],?_⟩;rw[lo _ (List.getElem_mem h1)];simp[h1]
 .have h2:i-A.length<R.length:=by omega
  refine⟨R[i-A.length],by rw[BA (by omega),AL h2],?_⟩;rw[hi _ (List.getElem_mem h2)];simp[h1]
theorem CD2(b off cap:Nat)(A R:List (List UInt8))(p:List UInt8)(w:FU)(hcap:A.length+R.length<=281474976710656)(h:IE w b off (G9 (A++R)))
  (lo:∀a∈A,bl a p=true) (hi:∀a∈R,bl a p=false):
  FW prog 135 #[FQ (FZ ⟨b,off,FX⟩) (A.length+R.length) cap,S0 p] w fun e w'=>
   e=.returned (.tuple #[I0 A.length,.bool (CP3 R p)])/\w'=w:=by
 have H:=G6 h;have SG:=G6 (AR5 A R p lo hi);obtain⟨fin,hfin⟩:∃x,CP3 R p=x:=⟨_,rfl⟩;have HF:=G6 hfin;rw[hfin];clear h hfin lo hi;go_enter func135,ntmps135;go_wp2_with fail
 go_loopg [7,8] (A.length+R.length) (fun kx s9 s10 wr=>∃lo hi:Nat,s9=I0 lo/\s10=I0 hi/\lo<=A.length/\A.length<=hi/\hi<=A.length+R.length/\hi-lo<=kx/\wr=w)
 case atStart=>exact⟨0,A.length+R.length,rfl,rfl,AY _,by omega,A8 _,by omega,rfl⟩
 case round=>
  obtain⟨lo,hi,rfl,rfl,h1,h2,h3,hg,rfl⟩:=hrel;by_cases hlt:lo<hi
  .obtain⟨y,hy,hyn⟩:=G5 SG ((lo+hi)/2) (by omega);have e0:=(G5 H).s0 hy;clear hy;have CM:=fun W=>AR4 y p W;rw[hyn]at CM;clear hyn;by_cases hm:(lo+hi)/2<A.length
   .simp only[hm,decide_true]at CM;go_wp2_with fail;refine(CM _).mono ?_;rintro e w1 ⟨rfl,rfl⟩;clear CM;go_wp2_with fail
    go_roundg (hi-((lo+hi)/2+1))
    case measure=>omega
    case rel=>exact⟨(lo+hi)/2+1,hi,by rw[show ((lo:Int)+(hi:Int))/2+1=(((lo+hi)/2+1:Nat):Int) by omega],rfl,by omega,h2,h3,A8 _,rfl⟩
   .simp only[hm,decide_false]at CM;go_wp2_with fail;refine(CM _).mono ?_;rintro e w1 ⟨rfl,rfl⟩;clear CM;go_wp2_with fail
    go_roundg ((lo+hi)/2-lo)
    case measure=>omega
    case rel=>exact⟨lo,(lo+hi)/2,rfl,by rw[show ((lo:Int)+(hi:Int))/2=(((lo+hi)/2:Nat):Int) by omega],h1,by omega,by omega,A8 _,rfl⟩
  .obtain rfl:lo=A.length:=by omega
   obtain rfl:hi=A.length:=by omega
   cases R with
   |nil=>
    go_wp2_with fail
    go_ret2
    exact⟨by rw[<-G5 HF];rfl,rfl⟩
   |cons f R=>
    have e0:=(G5 H).s0 (show (A++f::R)[A.length]?=FZ f by simp);have hf:decide (f=p)=fin:=G5 HF;clear HF;simp only[BG];by_cases hfs:f=p
    .subst hfs;simp only[decide_true]at hf;subst hf;go_wp2_with fail
     go_ret2
     exact⟨rfl,rfl⟩
    .simp only[hfs,decide_false]at hf;subst hf;have hq:(f==p)=false:=by simpa using hfs
     clear hfs;go_wp2_with fail;refine(BA5 _ _).mono ?_;rintro e w1 ⟨rfl,rfl⟩;go_wp2_with fail
     go_ret2
     exact⟨rfl,rfl⟩
theorem BT6(a:Option Addr)(cap:Nat)(p:List UInt8)(w:FU):
  FW prog 135 #[FQ a 0 cap,S0 p] w fun e w'=>e=.returned (.tuple #[I0 0,.bool false])/\w'=w:=by
 go_enter func135,ntmps135;go_wp2_with fail
 go_loopg [7,8] 1 (fun _ s9 s10 wr=>s9=I0 0/\s10=I0 0/\wr=w)
 case atStart=>exact⟨rfl,rfl,rfl⟩
 case round=>
  obtain⟨rfl,rfl,rfl⟩:=hrel;go_wp2_with fail
  go_ret2
  exact⟨rfl,rfl⟩
theorem AR6(v:FV)(ss:List (List UInt8))(p:List UInt8)(w:FU)(hv:IU w v ss)(hl:ss.length<=281474976710656)(hs:ss.Pairwise fun a b=>bl b a=false):
  ∃i:Nat,FW prog 135 #[v,S0 p] w fun e w'=>e=.returned (.tuple #[I0 i,.bool (decide (p∈ss))])/\w'=w:=by
 rcases hv with⟨a,cap,rfl,rfl,_⟩|⟨b,off,cap,rfl,_,_,hb,_,hr⟩
 .refine⟨0,?_⟩;have:=BT6 a cap p w;simpa using this
 .obtain⟨A,R,rfl,lo,hi,hm⟩:=yY p ss hs;refine⟨A.length,?_⟩;have:=CD2 b off cap A R p w (by simpa using hl) hr lo hi;rw[AO];rw[hm]
  cases R<;>exact this
def ZF(m:Nat):List FV:=(BH (Value.agg #[.string ⟨#[]⟩,.string ⟨#[]⟩,.bool false]).cells m).toList
theorem VU(m:Nat):(ZF m).length=m*3:=by
 rw[ZF,Array.length_toList,size_zeroCells];rfl
theorem AR7(m:Nat):∀u∈ZF m,u.oneCell'=true:=by
 intro u hu;simp only[ZF,BH,Value.cells,Array.toList_map,EU]at hu;obtain⟨i,_,rfl⟩:=hu;have:i%3<3:=Nat.mod_lt _ (by decide);show (#[Value.string ⟨#[]⟩,.string ⟨#[]⟩,.bool false][i%3]!).oneCell'=true;rcases(show i%3=0\/i%3=1\/i%3=2 by omega)with e|e|e<;>rw[e]<;>rfl
theorem AR8(w:FU)(ty:TypeId)(b o m c:Nat)(hm:0<m)(hc:∀j,j<m*3->(w.cell? ⟨b,o+j,FX⟩).isSome=true)(hf:∀j,j<m*3->w.frozen? ⟨b,o+j,FX⟩=false):
  (Builtin.clear_ #[44] ty #[FQ (FZ ⟨b,o,FX⟩) m c]).run prog w=.ok (.tuple #[]) (w.setCells b o (ZF m)):=by
 have hst:=run_storeCells_cells (P:=prog) b o (ZF m) 0 w (by rw[VU];simpa using hc) (by rw[VU];simpa using hf) (AR7 m);simp only[Nat.add_zero]at hst;obtain⟨k,rfl⟩:∃k,m=k+1:=⟨m-1,by omega⟩;simp[Builtin.clear_,run_underlying underlying44];exact(by
  have:=hst;unfold ZF at this⊢;rw[this];rfl)
structure BA6(g:FuncId)(B:Nat)(q:Nat)(pr:En->Bool)(I:FU->Prop):Prop where
 two:g=134
 keep:∀W V,I W->W.grownBy V (FZ q)->I V
 gives:∀W x,I W->FW prog g #[.agg #[S0 x.p,S0 x.d,.bool x.t],P0 B] W fun r w'=>r=.returned (.bool (pr x))/\B0 W w'
theorem CD3{g:FuncId}{B q:Nat}{pr:En->Bool}{I:FU->Prop}(C:BA6 g B q pr I)(b off cap:Nat)(A:List En)(x:En)(R:List En)(w:FU)(hi:I w)(hb:b<w.heap.size)(hr:IE w b off (G9 (A++x::R)))(hl:(A++x::R).length<=140737488355328)
  (hA:∀a∈A,pr a=false) (hx:pr x=true):
  FW prog 176 #[FQ (FZ ⟨b,off,FX⟩) (A++x::R).length cap,.func (.func g) #[] #[P0 B]] w (R0 w (I0 A.length)):=by
 have HR:=G6 (fun W (hW:B0 w W)=>hr.kept hW hb);have HC:=G6 C;have HI:=G6 (fun W (hW:B0 w W)=>C.keep w W hi (LP hW));have HX:=G6 hx;have HA:=G6 hA;have hAn:A.length<(A++x::R).length:=by simp
 obtain⟨n,hn⟩:∃n,(A++x::R).length=n:=⟨_,rfl⟩;rw[hn]at hl hAn⊢;have HN:=G6 hn;have two:=C.two;clear hr C hi hx hA hn;subst two
 all_goals
  go_enter func176,ntmps176;go_wp2_with fail
  go_loopg [8] n (fun kx s8 wr=>∃k:Nat,s8=I0 k/\k<=A.length/\n-k<=kx/\Hid (B0 w wr))
  case atStart=>exact⟨0,rfl,AY _,A8 _,G6 (AA _ _)⟩
  case round=>
   obtain⟨k,rfl,hk,hg,hB⟩:=hrel;have hlt:k<n:=by omega
   obtain⟨y,hy⟩:∃y,(A++x::R)[k]?=FZ y:=⟨_,AL (by rw[G5 HN];exact hlt)⟩;have qr:=G5 HR wr (G5 hB);have d0:=qr.en0 hy;have d1:=qr.en1 hy;have d2:=qr.en2 hy;have hbw:b<wr.heap.size:=AX hb (G5 hB).size;have CX:=(G5 HC).gives wr y (G5 HI wr (G5 hB));by_cases hka:k<A.length
   .have hp:pr y=false:=G5 HA y (by
     rw[BK hka]at hy;exact AZ hy)
    rw[hp]at CX;clear qr hy hp;go_wp2_with fail;refine CX.mono ?_;rintro e w1 ⟨rfl,hb1⟩;have hB1:=G8 (G5 hB) hb1;clear CX hb1;go_wp2_with fail
    go_roundg (n-(k+1))
    case measure=>omega
    case rel=>exact⟨k+1,rfl,by omega,A8 _,G6 hB1⟩
   .obtain rfl:k=A.length:=by omega
    have hp:pr y=true:=by
     have:(A++x::R)[A.length]?=FZ x:=by simp
     rw[this]at hy
     cases hy
     exact G5 HX
    rw[hp]at CX;clear qr hy hp;go_wp2_with fail;refine CX.mono ?_;rintro e w1 ⟨rfl,hb1⟩;have hB1:=G8 (G5 hB) hb1;clear CX hb1;go_wp2_with fail;go_ret;exact⟨rfl,hB1⟩
theorem yZ{g:FuncId}(C:BA6 g B q pr I)(v:FV)(A:List En)(w:FU)(hi:I w)(hv:IU w v A)(hl:A.length<=140737488355328)(hA:∀a∈A,pr a=false):
  FW prog 176 #[v,.func (.func g) #[] #[P0 B]] w (R0 w (I0 (-1))):=by
 have KR:∀W,B0 w W->∀k x,A[k]?=FZ x->∃b off cap,v=FQ (FZ ⟨b,off,FX⟩) A.length cap/\b<w.heap.size/\IE W b off (G9 A):=fun W hW k x hx=>by
  obtain⟨b,off,cap,e,hb,hr,_,_⟩:=NZ hv (fun h0=>by obtain⟨h1,_⟩:=AU.1 hx;rw[h0]at h1;simp at h1);exact⟨b,off,cap,e,hb,hr.kept hW hb⟩
 have HKR:=G6 KR;have HC:=G6 C;have HI:=G6 (fun W (hW:B0 w W)=>C.keep w W hi (LP hW));have HA:=G6 hA;have two:=C.two;obtain⟨va,vc,rfl⟩:=GK hv;clear C hi hA KR hv;subst two
 all_goals
  go_enter func176,ntmps176;go_wp2_with fail
  go_loopg [8] A.length (fun kx s8 wr=>∃k:Nat,s8=I0 k/\k<=A.length/\A.length-k<=kx/\Hid (B0 w wr))
  case atStart=>exact⟨0,rfl,AY _,A8 _,G6 (AA _ _)⟩
  case round=>
   obtain⟨k,rfl,hk,hg,hB⟩:=hrel;by_cases hlt:k<A.length
   .obtain⟨y,hy⟩:∃y,A[k]?=FZ y:=⟨_,AL hlt⟩;obtain⟨b,off,cap,he,hb,qr⟩:=G5 HKR wr (G5 hB) k y hy;simp only[AP]at he;obtain⟨rfl,_,rfl⟩:=he;have d0:=qr.en0 hy;have d1:=qr.en1 hy;have d2:=qr.en2 hy;have hbw:b<wr.heap.size:=AX hb (G5 hB).size;have CX:=(G5 HC).gives wr y (G5 HI wr (G5 hB));have hp:pr y=false:=G5 HA y (AZ hy);rw[hp]at CX;clear qr hy hp;go_wp2_with fail;refine CX.mono ?_;rintro e w1 ⟨rfl,hb1⟩;have hB1:=G8 (G5 hB) hb1;clear CX hb1;go_wp2_with fail
    go_roundg (A.length-(k+1))
    case measure=>omega
    case rel=>exact⟨k+1,rfl,by omega,A8 _,G6 hB1⟩
   .obtain rfl:k=A.length:=by omega
    go_wp2_with fail;go_ret;exact⟨rfl,G5 hB⟩
theorem zA(pr:En->Bool):∀ws:List En,(∀a∈ws,pr a=false)\/∃A x R,ws=A++x::R/\(∀a∈A,pr a=false)/\pr x=true
 |[]=>.inl (by simp)
 |y::r=>by
  cases h:pr y
  .rcases zA pr r with h1|⟨A,x,R,rfl,h1,h2⟩
   .exact .inl (by intro a ha;rcases BO.1 ha with rfl|ha;exact h;exact h1 a ha)
   .exact .inr ⟨y::A,x,R,rfl,(by intro a ha;rcases BO.1 ha with rfl|ha;exact h;exact h1 a ha),h2⟩
  .exact .inr ⟨[],y,r,rfl,by simp,h⟩
theorem qE{ws:List En}(h:∀a∈ws,pr a=false):ws.filter (fun x=> !pr x)=ws:=by
 rw[List.filter_eq_self];intro a ha;simp[h a ha]
theorem BT7{g:FuncId}(C:BA6 g B q pr I)(cap:Nat)(ws:List En)(w:FU)(hi:I w)(ho:J9 w q cap ws)(hl:ws.length<=140737488355328):
  FW prog 133 #[FQ (FZ ⟨q,0,FX⟩) ws.length cap,.func (.func g) #[] #[P0 B]] w fun e w'=>
   e=.returned (FQ (FZ ⟨q,0,FX⟩) (ws.filter (fun x=> !pr x)).length cap)/\J9 w' q cap (ws.filter (fun x=> !pr x))/\w.grownBy w' (FZ q):=by
 rcases zA pr ws with hA|⟨A,x,R,hws,hA,hx⟩
 .rw[qE hA];have CN:=yZ C _ ws w hi (GZ.seq (.inr ⟨q,cap,rfl,AY _,ho⟩)) hl hA;have HO:=G6 ho;have two:=C.two;clear C hA hi ho;subst two
  all_goals
   go_enter func133,ntmps133;go_wp2_with fail;refine CN.mono ?_;rintro e w1 ⟨rfl,hb1⟩;have HB:=G6 hb1;clear CN hb1;go_wp2_with fail;go_ret;exact⟨rfl,(G5 HO).next (G5 HB),LP (G5 HB)⟩
 .obtain⟨n,hn⟩:∃n,ws.length=n:=⟨_,rfl⟩;have hAn:A.length<n:=by rw[<-hn,hws];simp
  have hnc:n<=cap:=by rw[<-hn];exact ho.le
  have hcl:=ho.capLe;simp only[maxLen]at hcl;have CA:=CD3 C q 0 cap A x R w hi ho.lt (by rw[<-hws];exact ho.row) (by rw[<-hws];exact hl) hA hx;rw[<-hws,hn]at CA;obtain⟨T,hT⟩:∃T,ws.filter (fun x=> !pr x)=T:=⟨_,rfl⟩;rw[hn]at hl⊢;rw[hT];have HTk:Hid (∀j,n<=j->(ws.take j).filter (fun x=> !pr x)=T):=G6 (fun j hj=>by rw[BL (by omega)];exact hT);have HF0:Hid ((ws.take (A.length+1)).filter (fun x=> !pr x)=A):=G6 (by
   rw[hws,List.take_append,BL (by omega),EW,qE hA];simp[hx])
  have HG0:Hid (ws=A++[x]++ws.drop (A.length+1)):=G6 (by
   rw[hws];simp)
  have HN:=G6 hn;have HO:=G6 ho;have HC:=G6 C;have HI:=G6 (fun W (hW:w.grownBy W (FZ q))=>C.keep w W hi hW);have two:=C.two;clear hn hws hA hx ho C hT hi;subst two
  all_goals
   go_enter func133,ntmps133;go_wp2_with fail;refine CA.mono ?_;rintro e w1 ⟨rfl,hb1⟩;have HB:=G6 hb1;clear CA hb1;go_wp2_with fail
   go_loopg [5,6] n (fun kx s5 s6 wr=>∃ (j:Nat) (F G:List En),s5=I0 F.length/\s6=I0 j/\j<=n/\n-j<=kx/\F.length+G.length=j/\0<G.length/\Hid ((ws.take j).filter (fun x=> !pr x)=F)/\Hid (J9 wr q cap (F++G++ws.drop j))/\Hid (w.grownBy wr (FZ q)))
   case atStart=>exact⟨A.length+1,A,[x],rfl,rfl,by omega,by omega,rfl,by simp,HF0,G6 (by rw[<-G5 HG0];exact(G5 HO).next (G5 HB)),G6 (LP (G5 HB))⟩
   case round=>
    obtain⟨j,F,G,rfl,rfl,hj,hg,hFG,hG0,hF,hO,hW⟩:=hrel;have hFj:F.length<j:=by omega
    by_cases hlt:j<n
    .obtain⟨y,hy⟩:∃y,ws[j]?=FZ y:=⟨_,AL (by rw[G5 HN];exact hlt)⟩;have hd:ws.drop j=y::ws.drop (j+1):=by
      obtain⟨h1,h2⟩:=AU.1 hy;rw[List.drop_eq_getElem_cons h1,h2]
     have hf:(ws.take (j+1)).filter (fun x=> !pr x)=F++(if pr y=true then []else [y]):=by
      rw[PO hy,EW,G5 hF]
      cases hpy:pr y<;>simp[hpy]
     rw[hd]at hO;have hyr:(F++G++y::ws.drop (j+1))[j]?=FZ y:=by
      rw[BA (by simp;omega)];simp[hFG]
     obtain⟨z,G',rfl⟩:∃z G',G=z::G':=by
      cases G with
      |nil=>simp at hG0
      |cons z G'=>exact⟨z,G',rfl⟩
     have hzr:(F++z::G'++y::ws.drop (j+1))[F.length]?=FZ z:=by simp
     have d0:=(G5 hO).row.en0 hyr;have d1:=(G5 hO).row.en1 hyr;have d2:=(G5 hO).row.en2 hyr;have hq:=(G5 hO).lt;have hqn:q≠wr.heap.size:=by omega
     simp only[BI]at d0 d1 d2;have HW1:=G6 (IL (G5 hW) (LP (G7 wr (FT #[S0 y.p,S0 y.d,.bool y.t] 41))));have CX:=(G5 HC).gives _ y (G5 HI _ (G5 HW1));have hjn:(j:Int)<(n:Int):=by omega
     by_cases hp:pr y=true
     .rw[hp]at CX hf;rw[if_pos rfl,DL]at hf;have HF:=G6 hf;clear hy hd hf hyr hp hzr;go_wp2_with fail;refine CX.mono ?_;rintro e w2 ⟨rfl,hb2⟩;have HO2:Hid (J9 w2 q cap (F++(z::G'++[y])++ws.drop (j+1))):=G6 (by
       have:=((G5 hO).next (G7 wr (FT #[S0 y.p,S0 y.d,.bool y.t] 41))).next hb2;simpa using this)
      have HW2:=G6 (IL (G5 HW1) (LP hb2));clear CX hb2;go_wp2_with fail
      go_roundg (n-(j+1))
      case measure=>omega
      case rel=>exact⟨j+1,F,z::G'++[y],rfl,rfl,by omega,A8 _,by simp at hFG⊢;omega,by simp,HF,HO2,HW2⟩
     .have hp':pr y=false:=by simpa using hp
      rw[hp']at CX;rw[if_neg hp]at hf;have HF:=G6 hf;clear hy hd hf hyr hp hp';have hFn:(F.length:Int)<(n:Int):=by omega
      go_wp2_with fail;refine CX.mono ?_;rintro e w2 ⟨rfl,hb2⟩;have O2:=((G5 hO).next (G7 wr (FT #[S0 y.p,S0 y.d,.bool y.t] 41))).next hb2;have c0:w2.cell? ⟨wr.heap.size,0,FX⟩=FZ (S0 y.p):=by rw[hb2.cell (p:=⟨wr.heap.size,0,FX⟩) (by simp)];simp
      have c1:w2.cell? ⟨wr.heap.size,1,FX⟩=FZ (S0 y.d):=by rw[hb2.cell (p:=⟨wr.heap.size,1,FX⟩) (by simp)];simp
      have c2:w2.cell? ⟨wr.heap.size,2,FX⟩=FZ (.bool y.t):=by rw[hb2.cell (p:=⟨wr.heap.size,2,FX⟩) (by simp)];simp
      have e0:=O2.row.en0 hzr;have e1:=O2.row.en1 hzr;have e2:=O2.row.en2 hzr;simp only[BI]at e0 e1 e2;have f0:=O2.frozen (F.length*3);have f1:=O2.frozen (F.length*3+1);have f2:=O2.frozen (F.length*3+2);have hz2:wr.heap.size<w2.heap.size:=by have:=hb2.size;simp at this;omega
      have HO3:Hid (J9 (((w2.setCell ⟨q,F.length*3,FX⟩ (S0 y.p)).setCell ⟨q,F.length*3+1,FX⟩ (S0 y.d)).setCell ⟨q,F.length*3+2,FX⟩ (.bool y.t)) q cap ((F++[y])++(G'++[y])++ws.drop (j+1))):=G6 (by
       have O2':J9 w2 q cap (F++z::(G'++y::ws.drop (j+1))):=by simpa using O2
       have:=O2'.vX y;have e:F++[y]++(G'++[y])++ws.drop (j+1)=F++y::(G'++y::ws.drop (j+1)):=by simp
       rw[e];exact this)
      have HW3:Hid (w.grownBy (((w2.setCell ⟨q,F.length*3,FX⟩ (S0 y.p)).setCell ⟨q,F.length*3+1,FX⟩ (S0 y.d)).setCell ⟨q,F.length*3+2,FX⟩ (.bool y.t)) (FZ q)):=
       G6 (IL (IL (IL (IL (G5 HW1) (LP hb2)) (QC _)) (QC _)) (QC _))
      clear CX hb2 O2 hzr;go_wp2_with fail
      go_roundg (n-(j+1))
      case measure=>omega
      case rel=>exact⟨j+1,F++[y],G'++[y],by rw[AO];rfl,rfl,by omega,A8 _,by simp at hFG⊢;omega,by simp,HF,HO3,HW3⟩
    .obtain rfl:j=n:=by omega
     have hTF:T=F:=((G5 HTk j (A8 _)).symm.trans (G5 hF));have OF:J9 wr q cap F:=J9.head (B:=G++ws.drop j) (by have:=G5 hO;rwa[BQ]at this);have CS2:∀ty c,(Builtin.clear_ #[44] ty #[FQ (FZ ⟨q,F.length*3,FX⟩) (j-F.length) c]).run prog wr=.ok (.tuple #[]) (wr.setCells q (F.length*3) (ZF (j-F.length))):=fun ty c=>
      AR8 wr ty q _ _ c (by omega) (fun i hi=>OF.some (show F.length*3+i<cap*3 by omega)) (fun i hi=>OF.frozen _)
     have FIN:Hid (J9 (wr.setCells q (F.length*3) (ZF (j-F.length))) q cap F/\w.grownBy (wr.setCells q (F.length*3) (ZF (j-F.length))) (FZ q)):=
      G6 ⟨OF.spare _ _ (A8 _) (by rw[VU];show _<=cap*3;omega),IL (G5 hW) (I5 _ _ _)⟩
     have hcn:¬ (cap=F.length):=by omega
     have hFc:F.length<=cap:=by omega
     have hFn:F.length<=j:=by omega
     have hjj:¬ ((j:Int)<(j:Int)):=by omega
     clear OF hO hW hF HTk HF0 HG0;subst hTF;go_wp2_with fail;go_ret;exact⟨rfl,(G5 FIN).1,(G5 FIN).2⟩
open Go.Sort
theorem CD4:(prog.info? 9).map (fun i=>(i.zero,i.size,i.bytes))=FZ (FZ (.string ⟨#[]⟩),1,16):=by kernel_rfl
theorem CP6:∃i0,prog.info? 9=FZ i0/\i0.zero=FZ (.string ⟨#[]⟩)/\i0.size=1/\i0.bytes=16:=by
 obtain⟨i0,h,e⟩:=FK.1 CD4;simp only[Prod.mk.injEq]at e;exact⟨i0,h,e⟩
theorem BA7(l:List (List UInt8)):G9 l=l.map encStr:=by
 induction l with
 |nil=>rfl
 |cons x r ih=>rw[JO,ih];rfl
theorem CD5{l:List Nt}{n:Nt}(h:l[k]?=FZ n)(h1:n.s=s)(h2:n.k≠4):chP s (l.take (k+1))=chP s (l.take k)++[n.p]:=by
 rw[PO h];simp[chP,h1,h2]
theorem C03{l:List Nt}{n:Nt}(h:l[k]?=FZ n)(h1:n.s≠s\/n.k=4):chP s (l.take (k+1))=chP s (l.take k):=by
 rw[PO h];rcases h1 with h1|h1<;>simp[chP,h1]
theorem A71(s:Int)(l:List Nt):(chP s l).length<=l.length:=by unfold chP;rw[List.length_map];exact List.length_filter_le _ _
theorem qF{n:Nat}{ss:List (List UInt8)}{os:Array Obj}(hB:B<=g)(h:J9 W g cap ss):GZ (Sort.grow (Sort.putRow encStr (Sort.ahead W n) g 0 (YC ss).toArray) os) B (FQ (FZ ⟨g,0,FX⟩) ss.length cap) (YC ss)/\Holds encStr W g 0 ss.toArray:=by
 obtain⟨rest,h1,h2,h3,h4⟩:=h;have hk:ss.length*1+rest.length=cap*1:=h2;have hl:(YC ss).length=ss.length:=by unfold YC;simp
 refine⟨?_,holds_of_block h1 (by rw[BA7];simp)⟩;have:=ownsRow_sorted (n:=n) (os:=os) (ts:=YC ss) hl hB h1 h3 h4 (by simp[BA7];omega);rw[<-hl]at this⊢;refine GZ.LD ?_;rw[BA7];exact this
theorem zC(s:Int)(v:FV)(l:List Nt)(w:FU)(hv:IU w v l)(hl:l.length*32<=140737488355328):
  FW prog 132 #[I0 s,v] w fun e w'=>∃v',e=.returned v'/\GZ w' w.heap.size v' (YC (chP s l))/\B0 w w':=by
 have KR:=G6 (crow hv);obtain⟨i0,hi0,hz0,hz1,hz2⟩:=CP6;obtain⟨va,vc,rfl⟩:=GK hv;clear hv;go_enter func132,ntmps132;go_wp2_with fail
 go_loopg [5,10] l.length (fun kx s5 s10 wr=>∃ (k n:Nat) (a:Option Addr) (c:Nat),s10=I0 k/\s5=FQ a n c/\Hid ((chP s (l.take k)).length=n)/\k<=l.length/\l.length-k<=kx/\Hid (GZ wr w.heap.size (FQ a n c) (chP s (l.take k)))/\Hid (B0 w wr))
 case atStart=>exact⟨0,0,FX,0,rfl,rfl,G6 rfl,AY _,A8 _,G6 (.inl ⟨rfl,rfl⟩),G6 (AA _ _)⟩
 case round=>
  obtain⟨k,n,a,c,rfl,rfl,hn,hk,hg,hO,hB⟩:=hrel;by_cases hlt:k<l.length
  .obtain⟨x,hx⟩:∃x,l[k]?=FZ x:=⟨_,AL hlt⟩;obtain⟨b,off,cap,he,hb,q⟩:=G5 KR wr (G5 hB) k x hx;simp only[AP]at he;obtain⟨rfl,_,rfl⟩:=he;have d0:=q.t0 hx;have d1:=q.t1 hx;have d2:=q.t2 hx;have hbw:b<wr.heap.size:=AX hb (G5 hB).size;have HB1:=G6 (G8 (G5 hB) (G7 wr (FT #[I0 x.s,I0 x.k,S0 x.p] 252)));have HO1:=G6 ((G5 hO).next (G7 wr (FT #[I0 x.s,I0 x.k,S0 x.p] 252)));have hnl:n<=k:=by rw[<-G5 hn];exact Nat.le_trans (A71 _ _) (by simp;omega)
   by_cases h1:x.s=s
   .have hsb:(x.s==s)=true:=by simpa using h1
    by_cases h2:x.k=4
    .have hkb:(x.k==4)=true:=by simpa using h2
     have HE:=G6 (C03 hx (s:=s) (.inr h2));clear q hx h1 h2;go_wp2_with fail
     go_roundg (l.length-(k+1))
     case measure=>omega
     case rel=>exact⟨k+1,n,a,c,rfl,rfl,by rw[G5 HE];exact hn,by omega,A8 _,by rw[G5 HE];exact HO1,HB1⟩
    .have hkb:(x.k==4)=false:=by simpa using h2
     have HE:=G6 (CD5 hx h1 h2);clear q hx h1 h2;have HR:=G6 (((G5 HO1).next (G7 _ (FT #[S0 x.p] 9))).row);rw[G5 hn]at HR;have HB2:=G6 (G8 (G5 HB1) (G7 _ (FT #[S0 x.p] 9)));have HA:=G6 (G5 HO1).above;clear hO HO1;go_wp2_with (at_builtin;refine wpList_append_own _ rfl _ _ 211 rfl w.heap.size 9 i0 _ 1 16 underlying211 hi0 hz0 hz1 hz2 rfl (by decide) _ n (G9 (chP s (l.take k))) rfl (G5 HR) ⟨wr.heap.size+1,0,FX⟩ 1 1 [S0 x.p] rfl (by rfl) ?qc2 (by simp[Value.oneCell']) ?qc4 ?qc5 (G5 HB2).size ?_)
     case qc2=>
      intro j u hj
      match j with
      |0=>simp only[List.getElem?_cons_zero,BD]at hj;subst hj;rw[BJ];simp
      |j+1=>simp at hj
     case qc4=>simp only[maxLen];omega
     case qc5=>omega
     intro v' w1 hown hgrow _;have O2:GZ w1 w.heap.size v' (chP s (l.take (k+1))):=GZ.LD (by rw[G5 HE,AO,JE,G5 hn];exact hown);obtain⟨a2,c2,rfl,_⟩:=O2.slice;have HO2:=G6 O2;have HB3:=G6 ((G5 HB2).grown hgrow (G5 HB2).size (G5 HA));clear O2 hown hgrow;go_wp2_with fail
     go_roundg (l.length-(k+1))
     case measure=>omega
     case rel=>exact⟨k+1,_,a2,c2,rfl,rfl,G6 rfl,by omega,A8 _,HO2,HB3⟩
   .have hsb:(x.s==s)=false:=by simpa using h1
    have HE:=G6 (C03 hx (s:=s) (.inl h1));clear q hx h1;go_wp2_with fail
    go_roundg (l.length-(k+1))
    case measure=>omega
    case rel=>exact⟨k+1,n,a,c,rfl,rfl,by rw[G5 HE];exact hn,by omega,A8 _,by rw[G5 HE];exact HO1,HB1⟩
  .obtain rfl:k=l.length:=by omega
   rw[List.take_length]at hO hn;have hnl:n<=l.length:=by rw[<-G5 hn];exact A71 _ _
   rcases G5 hO with⟨h1,h0⟩|⟨g,cap,h1,hgB,ho⟩
   .simp only[AP]at h1;obtain⟨rfl,rfl,rfl⟩:=h1;have HS0:Hid (YC (chP s l)=[]):=G6 (by rw[h0];simp[YC]);clear h0 hO;have CS:=fun W=>slices_Sort_string_none FX 0 W;go_wp2_with fail;refine(CS _).mono ?_;rintro e w1 ⟨rfl,rfl⟩;go_wp2_with fail;go_ret;exact⟨_,rfl,.inl ⟨rfl,G5 HS0⟩,G5 hB⟩
   .simp only[AP]at h1;obtain⟨rfl,h3,rfl⟩:=h1;have CS:FW prog 175 #[FQ (FZ ⟨g,0,FX⟩) (chP s l).length c] wr fun e w'=>e=.returned (.tuple #[])/\∃n os,w'=Sort.grow (Sort.putRow encStr (Sort.ahead wr n) g 0 (YC (chP s l)).toArray) os:=slices_Sort_string g 0 c (chP s l) wr (qF (n:=0) (os:=#[]) hgB ho).2 ho.lt (by rw[<-h3];omega);rw[<-h3]at CS;have HO:=G6 ho;have H3:=G6 h3;clear hO ho h3;go_wp2_with fail;refine CS.mono ?_;rintro e w1 ⟨rfl,m,os,rfl⟩;have O4:=(qF (n:=m) (os:=os) hgB (G5 HO)).1;have B4:=(G5 hB).grown (grownBy_sorted (n:=m) (os:=os) (g:=g) (YC (chP s l)).toArray) (G5 hB).size (fun j e=>by cases e;exact hgB);rw[<-G5 H3]at O4;have HO4:=G6 O4;have HB4:=G6 B4;clear CS O4 B4;generalize Sort.grow (Sort.putRow encStr (Sort.ahead wr m) g 0 (YC (chP s l)).toArray) os=w4 at*;go_wp2_with fail;go_ret;exact⟨_,rfl,G5 HO4,G5 HB4⟩
structure CP7(B q:Nat)(va:FV)(ss:List (List UInt8))(W:FU):Prop where
 box:W.heap[B]?=FZ (FT #[va] 211 (0,0))
 own:GZ W 0 va ss
 ne:B≠q
 nq:∀k,va.ownBlock=FZ k->k≠q
theorem BA8(B q:Nat)(va:FV)(ss:List (List UInt8))(hs:ss.Pairwise fun a b=>bl b a=false)(hl:ss.length<=281474976710656)(W:FU)(x:En)(hI:CP7 B q va ss W):
  FW prog 134 #[.agg #[S0 x.p,S0 x.d,.bool x.t],P0 B] W fun r w'=>r=.returned (.bool (decide (x.p∈ss)))/\B0 W w':=by
 have C:=fun V (hV:B0 W V)=>AR6 va ss x.p V (hI.own.next hV).seq hl hs;have c0:(W.alloc (FT #[S0 x.p,S0 x.d,.bool x.t] 41)).cell? ⟨B,0,FX⟩=FZ va:=by
  have hb:=hI.box;have hlt:=(AB.1 hb).1;rw[(G7 W _).cell (p:=⟨B,0,FX⟩) hlt];simp[AV,hb]
 have hBl:B<W.heap.size:=(AB.1 hI.box).1;obtain⟨a,c,rfl,_⟩:=hI.own.slice;clear hI;generalize decide (x.p∈ss)=hd at C⊢;generalize ss.length=n at*;obtain⟨xp,xd,xt⟩:=x;simp only at*;go_enter func134,ntmps134;go_wp2_with fail;obtain⟨i,C2⟩:=C _ (G7 _ _);refine C2.mono ?_;rintro e w1 ⟨rfl,rfl⟩;go_wp2_with fail;go_ret;exact⟨rfl,G7 _ _⟩
theorem zF(B q:Nat)(va:FV)(ss:List (List UInt8))(hs:ss.Pairwise fun a b=>bl b a=false)(hl:ss.length<=281474976710656):BA6 134 B q (fun x=>decide (x.p∈ss)) (CP7 B q va ss):=
 ⟨rfl,fun _ _ h hg=>⟨(hg.block B (AB.1 h.box).1 (fun e=>h.ne (BN e))).trans h.box,h.own.grown hg (fun k hk e=>h.nq k hk (BN e)),h.ne,h.nq⟩,fun W x h=>BA8 B q va ss hs hl W x h⟩
theorem BT8{g:FuncId}(C:BA6 g B q pr I)(w:FU)(hi:I w):
  FW prog 133 #[N0,.func (.func g) #[] #[P0 B]] w (R0 w (N0)):=by
 have CN:=yZ C (N0) [] w hi (IU.nil w) (by simp) (by simp);have two:=C.two;clear C hi;subst two;go_enter func133,ntmps133;go_wp2_with fail;refine CN.mono ?_;rintro e w1 ⟨rfl,hb1⟩;go_wp2_with fail;go_ret;exact⟨rfl,hb1⟩
theorem BA9(s:Int)(l:List Nt):(YC (chP s l)).length<=l.length:=by
 unfold YC;rw[List.length_mergeSort];exact A71 s l
theorem A72(s:Int)(l:List Nt)(es:List En):es.filter (fun x=> !decide (x.p∈YC (chP s l)))=UN s l es:=by
 unfold UN
 congr 1
 funext x
 rw[BT4]
theorem BB0(s z:Int)(v vl:FV)(es:List En)(l:List Nt)(w:FU)(hv:IU w v es)(hs:yD es)(hl:es.length*40<=140737488355328)(hvl:IU w vl l)(hll:l.length*32<=140737488355328):
  FW prog 96 #[clV s z v,vl] w fun e w'=>∃v',e=.returned (clV s z v')/\GZ w' w.heap.size v' (UN s l es)/\B0 w w':=by
 have CH:=fun W (hW:B0 w W)=>zC s vl l W (hvl.next hW) hll;have CC:=fun W (hW:B0 w W)=>ZX s z v es W (hv.next hW) hs hl;have HT:=G6 (A72 s l es);have HA:=G6 (BA3 (chP s l));have hsl:=BA9 s l;obtain⟨a,c,rfl⟩:=GK hv;obtain⟨al,cl,rfl⟩:=GK hvl;unfold clV at CC⊢;clear hv hs hvl;generalize YC (chP s l)=ss at*;generalize UN s l es=R at*;go_enter func96,ntmps96;go_wp2_with fail;have B0:B0 w ((w.alloc (FT #[I0 s,I0 z,FQ a es.length c] 46)).alloc (FT #[I0 0,I0 0,N0] 46)):=G8 (G7 _ _) (G7 _ _);have K0:=(OC.new w s z (FQ a es.length c)).next (G7 _ (FT #[I0 0,I0 0,N0] 46));have K1:=OC.new (w.alloc (FT #[I0 s,I0 z,FQ a es.length c] 46)) 0 0 (N0);have hz0:((w.alloc (FT #[I0 s,I0 z,FQ a es.length c] 46)).alloc (FT #[I0 0,I0 0,N0] 46)).heap.size=w.heap.size+2:=by simp
 rw[show (w.alloc (FT #[I0 s,I0 z,FQ a es.length c] 46)).heap.size=w.heap.size+1 by simp]at K1;generalize (w.alloc (FT #[I0 s,I0 z,FQ a es.length c] 46)).alloc (FT #[I0 0,I0 0,N0] 46)=W0 at*;refine(CH _ B0).mono ?_;rintro e w1 ⟨va,rfl,ho1,hb1⟩;obtain⟨a1,c1,rfl,_⟩:=ho1.slice;have K0:=(K0.next hb1).next (G7 w1 (FT #[FQ a1 ss.length c1] 211));have K1:=(K1.next hb1).next (G7 w1 (FT #[FQ a1 ss.length c1] 211));have N1:=heap_alloc_new w1 (FT #[FQ a1 ss.length c1] 211);have O1:=ho1.next (G7 w1 (FT #[FQ a1 ss.length c1] 211));have B1:=G8 (G8 B0 hb1) (G7 w1 (FT #[FQ a1 ss.length c1] 211));have hz1:=hb1.size;have hlow1:=ho1.low;have hs1:(w1.alloc (FT #[FQ a1 ss.length c1] 211)).heap.size=w1.heap.size+1:=by simp
 have k0:=K0.c0;have k1:=K0.c1;have k2:=K0.c2;clear CH ho1 hb1 B0 K0;have HK1:=G6 K1;have HN1:=G6 N1;have HO1:=G6 O1;have HB1:=G6 B1;clear K1 N1 O1 B1;go_wp2_with fail;generalize w1.alloc (FT #[FQ a1 ss.length c1] 211)=W1 at*;refine(CC _ (G5 HB1)).mono ?_;rintro e w2 ⟨v2,rfl,ho2,hb2⟩;obtain⟨a2,c2,rfl,_⟩:=ho2.slice;have hlow2:=ho2.low;have hz2:=hb2.size;have hab2:=ho2.above;have K1:=((G5 HK1).next hb2).next (G7 w2 (FT #[I0 s,I0 z,FQ a2 es.length c2] 46));have K2:=OC.new w2 s z (FQ a2 es.length c2);have N2:=(Below.block (G7 w2 (FT #[I0 s,I0 z,FQ a2 es.length c2] 46)) w1.heap.size (by omega)).trans ((hb2.block w1.heap.size (by omega)).trans (G5 HN1));have O1:=((G5 HO1).next hb2).next (G7 w2 (FT #[I0 s,I0 z,FQ a2 es.length c2] 46));have O2:=ho2.next (G7 w2 (FT #[I0 s,I0 z,FQ a2 es.length c2] 46));have B2:=G8 (G8 (G5 HB1) hb2) (G7 w2 (FT #[I0 s,I0 z,FQ a2 es.length c2] 46));have hs2:(w2.alloc (FT #[I0 s,I0 z,FQ a2 es.length c2] 46)).heap.size=w2.heap.size+1:=by simp
 have q2:=K2.c2;have HK1:=G6 K1;have HK2:=G6 K2;have HB2:=G6 B2;clear CC hb2 ho2 HN1 HO1 HB1 k0 k1 k2 K1 K2 B2;rcases O2 with⟨h1,h2⟩|⟨g,cap,h1,hg,O2⟩
 .simp only[AP]at h1;obtain⟨rfl,h3,rfl⟩:=h1;have CD:=BT8 (zF w1.heap.size (w2.heap.size+7) (FQ a1 ss.length c1) ss (G5 HA) (by omega)) _ ⟨N2,O1.lower (AY _),by omega,fun k hk=>by have:=hlow1 k hk;omega⟩;rw[h3]at CD q2 HK2 HK1 HB2⊢;have HT0:Hid (R=[]):=G6 (by rw[<-G5 HT,h2];rfl);clear O1 N2 h2 h3;go_wp2_with fail;generalize w2.alloc (FT #[I0 s,I0 z,N0] 46)=W2 at*;refine CD.mono ?_;rintro e w3 ⟨rfl,hb3⟩;have X1:=(G5 HK1).next hb3;have X2:=(G5 HK2).next hb3;have B3:=G8 (G5 HB2) hb3;have p0:=X2.c0;have p1:=X2.c1;have p2:=X2.c2;have p3:=X2.fr 2;have ps:=I8 p2;have r0:=X1.c0;have r1:=X1.c1;have r2:=X1.c2;have f0:=X1.fr 0;have f1:=X1.fr 1;have f2:=X1.fr 2;have HB3:=G6 B3;clear CD hb3 X1 X2 B3;go_wp2_with fail;refine bodyPost_ret (v:=.agg #[I0 s,I0 z,N0]) (by simp[results,results96,go_sem,r0,r1,r2]) rfl ⟨_,rfl,.inl ⟨rfl,G5 HT0⟩,?_⟩;exact(((G5 HB3).setCell (by simp) _).setCell (by simp) _).setCell (by simp) _
 .simp only[AP]at h1;obtain⟨rfl,_,rfl⟩:=h1;have hg2:=hlow2 g rfl;have CD:=BT7 (zF w1.heap.size g (FQ a1 ss.length c1) ss (G5 HA) (by omega)) c2 es _ ⟨N2,O1.lower (AY _),by omega,fun k hk=>by have:=hlow1 k hk;omega⟩ O2 (by omega);rw[G5 HT]at CD;clear O1 N2;go_wp2_with fail;generalize w2.alloc (FT #[I0 s,I0 z,FQ (FZ ⟨g,0,FX⟩) es.length c2] 46)=W2 at*;refine CD.mono ?_;rintro e w3 ⟨rfl,O3,hg3⟩;have X1:=((G5 HK1).grown hg3 (fun e=>by have:=BN e;omega)).other (a:=⟨w2.heap.size,2,FX⟩) (by simp only;omega) (FQ (FZ ⟨g,0,FX⟩) R.length c2);have X0:=(G5 HK2).grown hg3 (fun e=>by have:=BN e;omega);have x2:=X0.c2;have x3:=X0.fr 2;have X2:=X0.set2 (v':=FQ (FZ ⟨g,0,FX⟩) R.length c2);have B3:=((G5 HB2).grown hg3 (G5 HB2).size (fun k e=>by cases e;omega)).setCell (p:=⟨w2.heap.size,2,FX⟩) (by simp only;omega) (FQ (FZ ⟨g,0,FX⟩) R.length c2);have O4:=O3.other (a:=⟨w2.heap.size,2,FX⟩) (by simp only;omega) (FQ (FZ ⟨g,0,FX⟩) R.length c2);have p0:=X2.c0;have p1:=X2.c1;have p2:=X2.c2;have r0:=X1.c0;have r1:=X1.c1;have r2:=X1.c2;have f0:=X1.fr 0;have f1:=X1.fr 1;have f2:=X1.fr 2;have HB3:=G6 B3;have HO4:=G6 O4;clear CD hg3 X1 X2 X0 B3 O3 O4;go_upto_region 4 with fail;generalize w3.setCell ⟨w2.heap.size,2,FX⟩ (FQ (FZ ⟨g,0,FX⟩) R.length c2)=w4 at*;go_wp2_with fail;refine bodyPost_ret (v:=.agg #[I0 s,I0 z,FQ (FZ ⟨g,0,FX⟩) R.length c2]) (by simp[results,results96,go_sem,r0,r1,r2]) rfl ⟨_,rfl,.inr ⟨g,c2,rfl,by omega,?_⟩,?_⟩
  .exact(((G5 HO4).other (by simp only;omega) _).other (by simp only;omega) _).other (by simp only;omega) _
  .exact(((G5 HB3).setCell (by simp only;omega) _).setCell (by simp only;omega) _).setCell (by simp only;omega) _
theorem KC(ns:List En):(G9 ns).length=ns.length*3:=GX ns
theorem J9.A74{pre tl:List En}(h:J9 W g cap (pre++tl))(new:List En)(hfit:pre.length+new.length<=cap):J9 (W.setCells g (pre.length*3) (G9 new)) g cap (pre++new):=h.splice new hfit
theorem J9.CX7{A B:List En}{y:En}(h:J9 W g cap (A++y::B))(x:En):J9 (W.setCells g (A.length*3) (OG x)) g cap (A++x::B):=h.vX x
theorem J9.BU3{fs:List En}(h:J9 W g cap fs){j:Nat}(hj:j<cap*3):(W.cell? ⟨g,j,FX⟩).isSome=true:=h.some hj
theorem AH8(w:FU)(ty:TypeId)(b o dLen dCap:Nat)(a:Addr)(sLen sCap:Nat)(cs:List FV)(hn:cs.length=Nat.min sLen dLen*3)
  (hsrc:∀j v,cs[j]?=FZ v->w.cell? (a.add j)=FZ v) (hc:∀j,j<cs.length->(w.cell? ⟨b,o+j,FX⟩).isSome=true) (hf:∀j,j<cs.length->w.frozen? ⟨b,o+j,FX⟩=false) (h1:∀v∈cs,v.oneCell'=true):
  (DW #[44,44] ty #[FQ (FZ ⟨b,o,FX⟩) dLen dCap,FQ (FZ a) sLen sCap]).run prog w=.ok (goInt (Nat.min sLen dLen)) (w.setCells b o cs):=by
 have hl:=run_loadCells_list (P:=prog) w a cs hsrc;have hst:=run_storeCells_cells (P:=prog) b o cs 0 w (by simpa using hc) (by simpa using hf) h1;obtain⟨i0,hi0,hz0,hz1,hz2⟩:=BQ5;simp[DW,run_underlying underlying44,Builtin.lenOf,Builtin.firstCells,sizeOf,typeInfo,hi0,hz1,<-hn,hl,hst]
theorem A75(v:FV)(A:List En)(x:En)(B b:Nat)(w:FU)(ho:GZ w B v A)(hB:B<=w.heap.size)(hl:A.length<=400)(h1:JF w b x):
  FW prog 102 #[v,I0 A.length,FQ (FZ ⟨b,0,FX⟩) 1 1] w fun e w'=>
   ∃v',e=.returned v'/\GZ w' B v' (A++[x])/\w.grownBy w' v.ownBlock/\(v'.ownBlock=v.ownBlock\/v'.ownBlock=FZ w.heap.size):=by
 obtain⟨i0,hi0,hz0,hz1,hz2⟩:=BQ5;have hrow:=ho.row;have HR:=G6 hrow;have H1:=G6 h1.row;have V:∃a c,v=FQ a A.length c/\A.length<=c:=by
  rcases ho with⟨rfl,rfl⟩|⟨g,cap,rfl,_,h⟩
  .exact⟨FX,0,rfl,A8 _⟩
  .exact⟨_,cap,rfl,h.le⟩
 obtain⟨a,c,rfl,hc⟩:=V;clear ho hrow h1;rcases Nat.lt_or_ge A.length c with hcl|hcl
 .have hne:¬c=A.length:=by omega
  go_enter func102,ntmps102;go_wp2_with (at_builtin;refine wpList_append_own_at _ rfl _ _ 44 rfl B 41 i0 _ 3 40 underlying44 hi0 hz0 hz1 hz2 rfl (by decide) _ A.length (G9 A) rfl (G5 HR) ⟨b,0,FX⟩ 1 1 (OG x) rfl (by rfl) ?qc2 ((Lay.one x)) ?qc4 ?qc5 hB ?_)
  case qc2=>
   intro j u hj;rw[BJ];exact G5 H1 j u hj
  case qc4=>simp only[maxLen];omega
  case qc5=>omega
  intro v' w1 hown hgrow _ hloc
  go_wp2
  go_ret;exact⟨v',rfl,GZ.LD (by rw[AO,JE];exact hown),hgrow,hloc⟩
 .obtain rfl:c=A.length:=by omega
  go_enter func102,ntmps102;go_wp2_with (at_builtin;refine wpList_append_own_at _ rfl _ _ 44 rfl B 41 i0 _ 3 40 underlying44 hi0 hz0 hz1 hz2 rfl (by decide) _ A.length (G9 A) rfl (G5 HR) ⟨b,0,FX⟩ 1 1 (OG x) rfl (by rfl) ?qc2 ((Lay.one x)) ?qc4 ?qc5 hB ?_)
  case qc2=>
   intro j u hj;rw[BJ];exact G5 H1 j u hj
  case qc4=>simp only[maxLen];omega
  case qc5=>omega
  intro v' w1 hown hgrow _ hloc
  go_wp2
  go_ret;exact⟨v',rfl,GZ.LD (by rw[AO,JE];exact hown),hgrow,hloc⟩
theorem tX(g cap:Nat)(A R:List En)(y x:En)(n b:Nat)(w:FU)(ho:J9 w g cap (A++y::R))(hn:n=A.length+R.length+1)(hsm:n<=400)(hroom:n+1<=cap)(h1:JF w b x)(hbg:b≠g):
  FW prog 102 #[FQ (FZ ⟨g,0,FX⟩) n cap,I0 A.length,FQ (FZ ⟨b,0,FX⟩) 1 1] w fun e w'=>
   e=.returned (FQ (FZ ⟨g,0,FX⟩) (n+1) cap)/\J9 w' g cap (A++x::y::R)/\w.grownBy w' (FZ g):=by
 have hcl:=ho.capLe;simp only[maxLen]at hcl;have hrow:=ho.row;have AZ7:w.shape? g=FZ (41,cap*3):=by
  obtain⟨rest,q1,q2,_⟩:=ho;rw[AO,BG]at q2;simp[World.shape?,q1,KC];exact⟨rfl,q2⟩
 have AZ8:w.shape? b=FZ (41,3):=by unfold JF at h1;simp[World.shape?,h1];exact⟨rfl,rfl⟩
 have hfb:∀j,w.frozen? ⟨b,j,FX⟩=false:=fun j=>by unfold JF at h1;simp[F7,h1]
 have hov:∀lb cb,(callFunc 138 #[FQ (FZ ⟨b,0,FX⟩) 1 1,FQ (FZ ⟨g,(A.length+1)*3,FX⟩) lb cb]).run prog w=.ok (.value (.bool false)) w:=fun lb cb=>by
  rw[run_callFunc_extern func138 (by kernel_rfl) (by kernel_rfl) (by kernel_rfl) (e:=Extern.SlicesOverlaps.overlaps #[44,44] #[4]) (by kernel_rfl),
   Lib.run_overlaps_apart w 44 4 41 underlying44 3 sizeOf41 ⟨b,0,FX⟩ ⟨g,(A.length+1)*3,FX⟩ 1 1 lb cb hbg 41 41 3 (cap*3) AZ8 AZ7 (by omega) (hfb 0) (hfb 3)]
  rfl
 obtain⟨W1,hW1⟩:∃W1,W1=w.drew.setCells g ((A.length+1)*3) (G9 (y::R)):=⟨_,rfl⟩;have ho1:J9 W1 g cap (A++y::y::R):=by
  have h:J9 w.drew g cap ((A++[y])++R):=by rw[BQ];exact ho
  have:=h.A74 (y::R) (by simp;omega);rw[hW1];simpa using this
 have hg1:w.grownBy W1 (FZ g):=by rw[hW1];have:=I5 (g:=g) (G9 (y::R)) ((A.length+1)*3) w.drew;exact⟨this.os,this.tape,this.output,this.size,this.block⟩
 have hcp1:∀ty dc sc,(DW #[44,44] ty #[FQ (FZ ⟨g,(A.length+1)*3,FX⟩) (n-A.length) dc,FQ (FZ ⟨g,A.length*3,FX⟩) (n+1-A.length) sc]).run prog w.drew=.ok (goInt (Nat.min (n+1-A.length) (n-A.length))) W1:=fun ty dc sc=>by
  rw[hW1];exact AH8 w.drew ty g _ _ dc ⟨g,A.length*3,FX⟩ _ sc (G9 (y::R)) (by rw[KC];simp only[Nat.min_def,BG];split<;>omega)
   (fun j v hj=>by
    rw[BJ];have:=hrow (A.length*3+j) v (by rw[H8,BA (by rw[KC];omega),KC,FB];exact hj);rw[BI]at this;exact this)
   (fun j hj=>by rw[KC]at hj;exact ho.BU3 (by simp at hj;omega)) (fun j _=>ho.frozen _) (JL _)
 have hcp2:∀ty dc,(DW #[44,44] ty #[FQ (FZ ⟨g,A.length*3,FX⟩) (n+1-A.length) dc,FQ (FZ ⟨b,0,FX⟩) 1 1]).run prog W1=.ok (goInt (Nat.min 1 (n+1-A.length))) (W1.setCells g (A.length*3) (OG x)):=fun ty dc=>
  AH8 W1 ty g _ _ dc ⟨b,0,FX⟩ 1 1 (OG x) (by simp only[Nat.min_def,OG,BG,ES];split<;>omega)
   (fun j v hj=>by
    rw[BJ];have hb2:W1.heap[b]?=w.heap[b]? :=hg1.block b (by unfold JF at h1;exact(AB.1 h1).1) (fun e=>hbg (BN e));have h2:JF W1 b x:=hb2.trans h1;exact h2.row j v hj)
   (fun j hj=>ho1.BU3 (by simp[OG]at hj;omega)) (fun j _=>ho1.frozen _) ((Lay.one x))
 have FIN:Hid (J9 (W1.setCells g (A.length*3) (OG x)) g cap (A++x::y::R)/\w.grownBy (W1.setCells g (A.length*3) (OG x)) (FZ g)):=
  ⟨ho1.CX7 x,IL hg1 (I5 _ _ _)⟩
 have hin:A.length<n:=by omega
 have C36:(A.length:Int)<(n:Int):=by omega
 have hw1:IntKind.i64.wrap ((A.length:Int)+1)=(A.length:Int)+1:=by rw[IntKind.wrap_i64];omega
 have hb1:(0:Int)<=(A.length:Int)+1:=by omega
 have hb2:¬ (cap=A.length+1):=by omega
 have hb3:(A.length:Int)<=(n:Int)+1:=by omega
 have hb4:¬ (cap=A.length):=by omega
 have hb5:(A.length:Int)+1<=(n:Int)+1:=by omega
 have hb6:¬ ((cap:Int)<(n:Int)+1):=by omega
 have hz2:¬ ((A.length:Int)=(n:Int)):=by omega
 have htn:((A.length:Int)+1).toNat=A.length+1:=by omega
 clear hW1 ho1 hg1 hrow AZ7 AZ8 hfb ho h1 hn;go_enter func102,ntmps102;go_wp2_with (simp only[hov])
 go_region_law (refine MX rfl (.tmp 73) (.tmp 76) 44 44 rfl (FQ (FZ ⟨g,(A.length+1)*3,FX⟩) (n-A.length) (cap-(A.length+1))) (FQ (FZ ⟨g,A.length*3,FX⟩) (n+1-A.length) (cap-A.length)) (by simp[Act.eval,Act.put]) (by simp[Act.eval,Act.put]) (hcp1 _ _ _) ?_)
 go_wp2_with (at_builtin;refine LH _ rfl _ _ 44 44 rfl _ _ rfl rfl (hcp2 _ _) ?_);go_ret;exact⟨rfl,FIN.out⟩
theorem CQ4(k:Nat):(BH (Value.agg #[.string ⟨#[]⟩,.string ⟨#[]⟩,.bool false]).cells k).size=k*3:=by
 simp[BH,Value.cells]
theorem zG(g cap:Nat)(A R:List En)(y x:En)(n b:Nat)(w:FU)(ho:J9 w g cap (A++y::R))(hn:n=A.length+R.length+1)(hsm:n<=400)(hroom:cap<n+1)(h1:JF w b x):
  FW prog 102 #[FQ (FZ ⟨g,0,FX⟩) n cap,I0 A.length,FQ (FZ ⟨b,0,FX⟩) 1 1] w fun e w'=>
   ∃cap',e=.returned (FQ (FZ ⟨w.heap.size,0,FX⟩) (n+1) cap')/\J9 w' w.heap.size cap' (A++x::y::R)/\B0 w w':=by
 have hcap:cap=n:=by have:=ho.le;simp at this;omega
 obtain⟨i0,hi0,hz0,hz1,hz2⟩:=BQ5;have hrow:=ho.row;have hgw:=ho.lt;have hbw:b<w.heap.size:=by unfold JF at h1;exact(AB.1 h1).1
 have hold:(Builtin.firstCells i0.size A.length (FQ (FZ ⟨g,0,FX⟩) A.length cap)).run prog w.drew=.ok (G9 A).toArray w.drew:=by
  rw[hz1];exact run_firstCells_some w.drew 3 A.length ⟨g,0,FX⟩ A.length cap (G9 A) (KC A) (fun j v hj=>by
   rw[BJ];exact hrow j v (by rw[H8,BK (AU.1 hj).1];exact hj))
 obtain⟨G,hG⟩:∃G,G=grownCap w (n+1) cap 41:=⟨_,rfl⟩;have hGn:n+1<=G:=by rw[hG];exact grownCap_ge w _ _ _
 have hGm:G<=maxLen:=by rw[hG];exact grownCap_le_maxLen w (n+1) cap _ (by unfold maxLen;omega)
 have hG63:G<=9223372036854775807:=by have:=hGm;unfold maxLen at this;omega
 obtain⟨ROW,hROW⟩:∃ROW:Array FV,ROW=(G9 A).toArray++BH (Value.agg #[.string ⟨#[]⟩,.string ⟨#[]⟩,.bool false]).cells (n+1-A.length)++BH (Value.agg #[.string ⟨#[]⟩,.string ⟨#[]⟩,.bool false]).cells (G-(n+1)):=⟨_,rfl⟩;obtain⟨W1,hW1⟩:∃W1,W1=w.drew.alloc (FT ROW 41):=⟨_,rfl⟩;have hik:A.length+(n+1-A.length)=n+1:=by omega
 have hrz:∀ty,(Builtin.append_ #[44,3] ty #[FQ (FZ ⟨g,0,FX⟩) A.length cap,I0 ((n:Int)+1-(A.length:Int))]).run prog w=
   .ok (FQ (FZ ⟨w.heap.size,0,FX⟩) (n+1) G) W1:=fun ty=>by
  have h:=Lib.run_append_grow_zeros w 44 3 ty 41 i0 _ .i64 .i64 underlying44 underlying3 hi0 hz0 (FZ ⟨g,0,FX⟩) A.length cap (G9 A) hold (n+1-A.length) (by omega) (by omega) (by omega) (by omega) (by rw[hz2];omega) (by rw[hz2,hik];exact growslice_fits hroom (by omega));rw[hik,<-hG,<-hROW,<-hW1]at h;rw[show (n:Int)+1-(A.length:Int)=((n+1-A.length:Nat):Int) by omega];exact h
 have ho1:J9 W1 w.heap.size G A:=by
  refine⟨(BH (Value.agg #[.string ⟨#[]⟩,.string ⟨#[]⟩,.bool false]).cells (n+1-A.length)++BH (Value.agg #[.string ⟨#[]⟩,.string ⟨#[]⟩,.bool false]).cells (G-(n+1))).toList,?_,?_,by omega,hGm⟩
  .rw[hW1,hROW];have:=heap_alloc_new w.drew (FT ((G9 A).toArray++BH (Value.agg #[.string ⟨#[]⟩,.string ⟨#[]⟩,.bool false]).cells (n+1-A.length)++BH (Value.agg #[.string ⟨#[]⟩,.string ⟨#[]⟩,.bool false]).cells (G-(n+1))) 41);refine Eq.trans this ?_
   congr 2
   apply Array.toList_inj.1
   simp
  .simp only[show Lay.k En=3 from rfl,Array.length_toList,Array.size_append,CQ4];omega
 have hB1:B0 w W1:=by rw[hW1];exact((AA _ w).drew).alloc (A8 _) _
 obtain⟨W2,hW2⟩:∃W2,W2=W1.setCells w.heap.size (A.length*3) (OG x):=⟨_,rfl⟩;have ho2:J9 W2 w.heap.size G (A++[x]):=by
  have h:J9 W1 w.heap.size G (A++[]):=by rw[DL];exact ho1
  have:=h.A74 [x] (by simp;omega);rw[hW2];rw[JO,SE,DL]at this;exact this
 have hg2:W1.grownBy W2 (FZ w.heap.size):=by rw[hW2];exact I5 _ _ _
 have hB2:B0 w W2:=hB1.grown hg2 hB1.size (fun k e=>by cases e;exact A8 _);have hcpA:∀ty dc,(DW #[44,44] ty #[FQ (FZ ⟨w.heap.size,A.length*3,FX⟩) (n+1-A.length) dc,FQ (FZ ⟨b,0,FX⟩) 1 1]).run prog W1=.ok (goInt (Nat.min 1 (n+1-A.length))) W2:=fun ty dc=>by
  rw[hW2];exact AH8 W1 ty w.heap.size _ _ dc ⟨b,0,FX⟩ 1 1 (OG x) (by simp only[Nat.min_def,OG,BG,ES];split<;>omega)
   (fun j v hj=>by rw[BJ];exact(show JF W1 b x from(hB1.block b hbw).trans h1).row j v hj)
   (fun j hj=>ho1.BU3 (by simp[OG]at hj;omega)) (fun j _=>ho1.frozen _) ((Lay.one x))
 obtain⟨W3,hW3⟩:∃W3,W3=W2.drew.setCells w.heap.size ((A.length+1)*3) (G9 (y::R)):=⟨_,rfl⟩;have hcpB:∀ty dc sc,(DW #[44,44] ty #[FQ (FZ ⟨w.heap.size,(A.length+1)*3,FX⟩) (n-A.length) dc,FQ (FZ ⟨g,A.length*3,FX⟩) (n-A.length) sc]).run prog W2.drew=.ok (goInt (Nat.min (n-A.length) (n-A.length))) W3:=fun ty dc sc=>by
  rw[hW3];exact AH8 W2.drew ty w.heap.size _ _ dc ⟨g,A.length*3,FX⟩ _ sc (G9 (y::R)) (by rw[KC];simp only[Nat.min_self,BG];omega)
   (fun j v hj=>by
    rw[BJ];have:=hrow (A.length*3+j) v (by rw[H8,BA (by rw[KC];omega),KC,FB];exact hj);rw[BI]at this;exact(hB2.cell (p:=⟨g,A.length*3+j,FX⟩) hgw).trans this)
   (fun j hj=>by rw[KC]at hj;exact ho2.drew.BU3 (by simp at hj;omega)) (fun j _=>ho2.drew.frozen _) (JL _)
 have FIN:Hid (J9 W3 w.heap.size G (A++x::y::R)/\B0 w W3):=by
  refine⟨?_,?_⟩
  .have h:J9 W2.drew w.heap.size G ((A++[x])++[]):=by rw[DL];exact ho2
   have:=h.A74 (y::R) (by simp;omega);rw[hW3];simpa using this
  .rw[hW3];exact hB2.drew.grown (I5 _ _ _) hB2.size (fun k e=>by cases e;exact A8 _)
 have hin:A.length<n:=by omega
 have C36:(A.length:Int)<(n:Int):=by omega
 have hw1:IntKind.i64.wrap ((A.length:Int)+1)=(A.length:Int)+1:=by rw[IntKind.wrap_i64];omega
 have hb1:(0:Int)<=(A.length:Int)+1:=by omega
 have hb2:¬ (G=A.length+1):=by omega
 have hb3:(A.length:Int)<=(n:Int)+1:=by omega
 have hb4:¬ (n=A.length):=by omega
 have hb5:(A.length:Int)+1<=(n:Int)+1:=by omega
 have hb6:¬ (G=A.length):=by omega
 have hb7:(A.length:Int)<=(n:Int):=by omega
 have hz3:¬ ((A.length:Int)=(n:Int)):=by omega
 have htn:((A.length:Int)+1).toNat=A.length+1:=by omega
 subst hcap;clear hn hROW hW1 hW2 hW3 hG hrow ho h1 ho1 ho2 hB1 hB2 hg2 hold hik;go_enter func102,ntmps102;go_wp2_with (first
  |(at_builtin;refine Lib.wpList_append_run _ rfl _ _ _ _ rfl _ _ rfl rfl _ _ (hrz _) ?_)
  |(at_builtin;refine LH _ rfl _ _ 44 44 rfl _ _ rfl rfl (hcpA _ _) ?_))
 go_region_law (refine MX rfl (.tmp 50) (.tmp 53) 44 44 rfl (FQ (FZ ⟨w.heap.size,(A.length+1)*3,FX⟩) (cap-A.length) (G-(A.length+1))) (FQ (FZ ⟨g,A.length*3,FX⟩) (cap-A.length) (cap-A.length)) (by simp[Act.eval,Act.put]) (by simp[Act.eval,Act.put]) (hcpB _ _ _) ?_)
 go_wp2
 go_ret;exact⟨G,rfl,FIN.out⟩
theorem A76(v:FV)(A R:List En)(x:En)(q:Nat)(w:FU)(ho:GZ w 0 v (A++R))(hl:(A++R).length<=400)(h1:JF w q x)(hq:v.ownBlock≠FZ q):
  FW prog 102 #[v,I0 A.length,FQ (FZ ⟨q,0,FX⟩) 1 1] w fun e w'=>
   ∃v',e=.returned v'/\GZ w' 0 v' (A++x::R)/\w.grownBy w' v.ownBlock/\(v'.ownBlock=v.ownBlock\/∃k,w.heap.size<=k/\v'.ownBlock=FZ k):=by
 cases R with
 |nil=>
  rw[DL]at ho hl;refine(A75 v A x 0 q w ho (AY _) hl h1).mono ?_;rintro e w' ⟨v',rfl,h2,h3,h4⟩;refine⟨v',rfl,h2,h3,?_⟩;rcases h4 with h|h
  .exact .inl h
  .exact .inr ⟨_,A8 _,h⟩
 |cons y R=>
  rcases ho with⟨_,h⟩|⟨g,cap,rfl,_,ho⟩
  .simp at h
  .have hn:(A++y::R).length=A.length+R.length+1:=by simp;omega
   by_cases hc:(A++y::R).length+1<=cap
   .refine(tX g cap A R y x _ q w ho hn hl hc h1 (fun e=>hq (by rw[e];rfl))).mono ?_;rintro e w' ⟨rfl,h2,h3⟩;exact⟨_,rfl,.inr ⟨g,cap,by simp;omega,AY _,h2⟩,h3,.inl rfl⟩
   .refine(zG g cap A R y x _ q w ho hn hl (by omega) h1).mono ?_;rintro e w' ⟨cap',rfl,h2,h3⟩;exact⟨_,rfl,.inr ⟨w.heap.size,cap',by simp;omega,AY _,h2⟩,⟨h3.os,h3.tape,h3.output,h3.size,fun k hk _=>h3.block k hk⟩,.inr ⟨_,A8 _,rfl⟩⟩
