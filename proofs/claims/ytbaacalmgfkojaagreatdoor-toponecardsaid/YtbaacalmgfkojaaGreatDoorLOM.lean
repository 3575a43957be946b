/-
  Part.
-/
import Derived.Test.YtbaacalmgfkojaaGreatDoorLOE
import Derived.Test.YtbaacalmgfkojaaGreatDoorLOL
set_option maxRecDepth 20000
set_option maxHeartbeats 8000000
namespace Go.Proofs.YtbaacalmgfkojaaGreatDoor
open Go.RowKit Go.Proofs.Tryz
open _root_.Nat renaming le_refl->A8,zero_le->AY,zero_add->BI,add_sub_cancel_left->FB
open Go.RowKit.Below renaming refl->AA
open _root_.Array renaming getElem?_eq_some_iff->AB
open _root_.List renaming length_append->AO,getElem?_eq_some_iff->AU,getElem?_append_right->BA,length_cons->BG,append_nil->DL,length_nil->ES
open Go.Value.slice renaming injEq->AP
open Go.World renaming cell?->AV,frozen?->F7
open _root_.Option.some renaming injEq->BD,inj->BN
open Go.Builtin renaming zeroCells->BH,copy_->DW
open Go.Addr renaming add_lit->BJ
open Go.Addr.mk renaming injEq->ER
open Go.Region renaming wanted->FI
open Go.Value renaming slice->FQ
open Go.Obj renaming cells->FT
open Go renaming World->FU,Value->FV,Calls->FW
open _root_.Option renaming none->FX,some->FZ
variable{W V:FU}{b:Nat}{n:Nd}{F:Nat->Prop}{z:Int}{vn vs ve:FV}{ns:List Nd}{ss:List Int}{es:List Ev}
theorem CC0:(prog.info? 3).map (fun i=>(i.zero,i.size,i.bytes))=FZ (FZ (I0 0),1,8):=by kernel_rfl
theorem zK:∃i0,prog.info? 3=FZ i0/\i0.zero=FZ (I0 0)/\i0.size=1/\i0.bytes=8:=by
 obtain⟨i0,h,e⟩:=Option.map_eq_some_iff.1 CC0;simp only[Prod.mk.injEq]at e;exact⟨i0,h,e⟩
def WJ:List FV:=[I0 0]
theorem BX8(w:FU)(ty:TypeId)(b o c:Nat)(hc:∀j,j<1->(w.cell? ⟨b,o+j,FX⟩).isSome=true)(hf:∀j,j<1->w.frozen? ⟨b,o+j,FX⟩=false):
  (Builtin.clear_ #[44] ty #[FQ (FZ ⟨b,o,FX⟩) 1 c]).run prog w=.ok (.tuple #[]) (w.setCells b o WJ):=by
 have hzc:(BH (I0 0).cells 1).toList=WJ:=by kernel_rfl
 have hst:=run_storeCells_cells (P:=prog) b o WJ 0 w (fun j hj=>hc j (by simpa [WJ]using hj)) (fun j hj=>hf j (by simpa [WJ]using hj)) (by simp[WJ,Value.oneCell']);simp only[Nat.add_zero]at hst;simp[Builtin.clear_,run_underlying underlying44,hzc,hst]
theorem zL(g cap:Nat)(A B:List Int)(f:Int)(n:Nat)(w:FU)(ho:J8 w g cap (A++f::B))(hn:n=A.length+B.length+1)(hsm:n<=2147483647):
  FW prog 225 #[FQ (FZ ⟨g,0,FX⟩) n cap,I0 A.length,I0 (A.length+1:Nat)] w fun e w'=>
   e=.returned (FQ (FZ ⟨g,0,FX⟩) (A.length+B.length) cap)/\J8 w' g cap (A++B)/\w.grownBy w' (FZ g):=by
 obtain⟨i0,hi0,hz0,hz1,hz2⟩:=zK;have hle:=ho.le;have hcl:=ho.capLe;simp only[maxLen]at hcl;rw[AO,BG]at hle;have hrow:=ho.row;obtain⟨AD,hAD,hsrc⟩:∃AD:Addr,(if cap=A.length+1 then FZ (⟨g,0,FX⟩:Addr)else FZ ⟨g,(A.length+1),FX⟩)=FZ AD/\Hid (∀t u,(G9 B)[t]?=FZ u->w.drew.cell? (AD.add t)=FZ u):=by
  by_cases h:cap=A.length+1
  .refine⟨⟨g,0,FX⟩,by simp[h],fun t u hu=>?_⟩;have h0:B=[]:=List.eq_nil_of_length_eq_zero (by omega);rw[h0]at hu;simp[RQ]at hu
  .refine⟨⟨g,(A.length+1),FX⟩,by simp[h],fun t u hu=>?_⟩;rw[BJ];have:=hrow ((A.length+1)+t) u (by
    rw[H7,BA (by rw[J5];omega),J5,JQ,BA (by rw[Lay.len];show 1<=_;omega)];rw[Lay.len,<-hu];congr 1;show _-1=_;omega)
   rw[BI]at this;exact this
 have s1:Hid ((G9 B).length=B.length*1):=(J5 B).trans (Nat.mul_one _).symm;have s2:Hid (∀u∈G9 B,u.oneCell'=true):=JL B;have s3:Hid (∀t,t<(G9 B).length->(w.drew.cell? ⟨g,0+A.length*1+t,FX⟩).isSome=true/\w.drew.frozen? ⟨g,0+A.length*1+t,FX⟩=false):=by
  intro t ht;rw[J5]at ht;exact⟨ho.AH2 (by omega),ho.frozen _⟩
 obtain⟨W1,hW1⟩:∃W1,W1=w.drew.setCells g (0+A.length*1) (G9 B):=⟨_,rfl⟩;have ho1:J8 W1 g cap (A++B):=by rw[hW1,BI,Nat.mul_one];exact ho.drew.pW B (by omega)
 have hg1:w.grownBy W1 (FZ g):=by rw[hW1];have:=H8 (g:=g) (G9 B) (0+A.length*1) w.drew;exact⟨this.os,this.tape,this.output,this.size,this.block⟩
 have CM1:∀ty c,(Builtin.clear_ #[44] ty #[FQ (FZ ⟨g,(A.length+B.length),FX⟩) 1 c]).run prog W1=.ok (.tuple #[]) (W1.setCells g ((A.length+B.length)) WJ):=fun ty c=>
  BX8 W1 ty g _ c (fun j hj=>ho1.AH2 (by omega)) (fun j hj=>ho1.frozen _)
 have FIN:Hid (J8 (W1.setCells g ((A.length+B.length)) WJ) g cap (A++B)/\w.grownBy (W1.setCells g ((A.length+B.length)) WJ) (FZ g)):=
  ⟨ho1.CB7 WJ _ (by rw[AO];omega) (by simp[WJ];omega),IJ hg1 (H8 _ _ _)⟩
 have hW:Hid (W1=w.drew.setCells g (0+A.length*1) (G9 B)):=hW1;have hic:A.length<=cap:=by omega
 have hjc:A.length+1<=cap:=by omega
 have hne:¬ (cap=A.length+B.length):=by omega
 have hb1:(0:Int)<=(A.length:Int)+1:=by omega
 have hb2:(A.length:Int)<=(A.length:Int)+(B.length:Int):=by omega
 have hb3:(0:Int)<=(A.length:Int)+(B.length:Int):=by omega
 have hs1:A.length+B.length+1-(A.length+B.length)=1:=by omega
 clear hW1 ho1 hg1 hrow ho;subst hn;go_enter func225,ntmps225;go_wp2_with fail
 go_region_law (refine step_append_room rfl (.tmp 22) (.tmp 25) 44 rfl 3 i0 1 underlying44 hi0 hz1 g 0 A.length cap (by simp[Act.eval,Act.put]) AD B.length (cap-(A.length+1)) (G9 B) (by simp[Act.eval,Act.put]) s1.out hsrc.out s2.out (by omega) s3.out ?_;rw[<-hW.out])
 go_wp2
 go_ret;exact⟨rfl,FIN.out⟩
theorem A77(w:FU)(ty:TypeId)(b o dLen dCap:Nat)(a:Addr)(sLen sCap:Nat)(cs:List FV)(hn:cs.length=Nat.min sLen dLen)
  (hsrc:∀j v,cs[j]?=FZ v->w.cell? (a.add j)=FZ v) (hc:∀j,j<cs.length->(w.cell? ⟨b,o+j,FX⟩).isSome=true) (hf:∀j,j<cs.length->w.frozen? ⟨b,o+j,FX⟩=false) (h1:∀v∈cs,v.oneCell'=true):
  (DW #[44,44] ty #[FQ (FZ ⟨b,o,FX⟩) dLen dCap,FQ (FZ a) sLen sCap]).run prog w=.ok (goInt (Nat.min sLen dLen)) (w.setCells b o cs):=by
 have hl:=run_loadCells_list (P:=prog) w a cs hsrc;have hst:=run_storeCells_cells (P:=prog) b o cs 0 w (by simpa using hc) (by simpa using hf) h1;obtain⟨i0,hi0,hz0,hz1,hz2⟩:=zK;simp[DW,run_underlying underlying44,Builtin.lenOf,Builtin.firstCells,sizeOf,typeInfo,hi0,hz1,<-hn,hl,hst]
theorem zM(v:FV)(A:List Int)(x:Int)(B b:Nat)(w:FU)(ho:GZ w B v A)(hB:B<=w.heap.size)(hl:A.length<=2147483647)(h1:JM w b x):
  FW prog 224 #[v,I0 A.length,FQ (FZ ⟨b,0,FX⟩) 1 1] w fun e w'=>
   ∃v',e=.returned v'/\GZ w' B v' (A++[x])/\w.grownBy w' v.ownBlock/\(v'.ownBlock=v.ownBlock\/v'.ownBlock=FZ w.heap.size):=by
 obtain⟨i0,hi0,hz0,hz1,hz2⟩:=zK;have hrow:=ho.row;have HR:=G6 hrow;have H1:=G6 h1.row;have V:∃a c,v=FQ a A.length c/\A.length<=c:=by
  rcases ho with⟨rfl,rfl⟩|⟨g,cap,rfl,_,h⟩
  .exact⟨FX,0,rfl,A8 _⟩
  .exact⟨_,cap,rfl,h.le⟩
 obtain⟨a,c,rfl,hc⟩:=V;clear ho hrow h1;rcases Nat.lt_or_ge A.length c with hcl|hcl
 .have hne:¬c=A.length:=by omega
  go_enter func224,ntmps224;go_wp2_with (at_builtin;refine wpList_append_own_at _ rfl _ _ 44 rfl B 3 i0 _ 1 8 underlying44 hi0 hz0 hz1 hz2 rfl (by decide) _ A.length (G9 A) rfl (G5 HR) ⟨b,0,FX⟩ 1 1 [I0 x] rfl (by rfl) ?qc2 ((Lay.one x)) ?qc4 ?qc5 hB ?_)
  case qc2=>
   intro j u hj;rw[BJ];exact G5 H1 j u hj
  case qc4=>simp only[maxLen];omega
  case qc5=>omega
  intro v' w1 hown hgrow _ hloc
  go_wp2
  go_ret;exact⟨v',rfl,GZ.KY (by rw[AO,JE];exact hown),hgrow,hloc⟩
 .obtain rfl:c=A.length:=by omega
  go_enter func224,ntmps224;go_wp2_with (at_builtin;refine wpList_append_own_at _ rfl _ _ 44 rfl B 3 i0 _ 1 8 underlying44 hi0 hz0 hz1 hz2 rfl (by decide) _ A.length (G9 A) rfl (G5 HR) ⟨b,0,FX⟩ 1 1 [I0 x] rfl (by rfl) ?qc2 ((Lay.one x)) ?qc4 ?qc5 hB ?_)
  case qc2=>
   intro j u hj;rw[BJ];exact G5 H1 j u hj
  case qc4=>simp only[maxLen];omega
  case qc5=>omega
  intro v' w1 hown hgrow _ hloc
  go_wp2
  go_ret;exact⟨v',rfl,GZ.KY (by rw[AO,JE];exact hown),hgrow,hloc⟩
theorem qB(g cap:Nat)(A R:List Int)(y x:Int)(n b:Nat)(w:FU)(ho:J8 w g cap (A++y::R))(hn:n=A.length+R.length+1)(hsm:n<=2147483647)(hroom:n+1<=cap)(h1:JM w b x)(hbg:b≠g):
  FW prog 224 #[FQ (FZ ⟨g,0,FX⟩) n cap,I0 A.length,FQ (FZ ⟨b,0,FX⟩) 1 1] w fun e w'=>
   e=.returned (FQ (FZ ⟨g,0,FX⟩) (n+1) cap)/\J8 w' g cap (A++x::y::R)/\w.grownBy w' (FZ g):=by
 have hcl:=ho.capLe;simp only[maxLen]at hcl;have hrow:=ho.row;have AU7:w.shape? g=FZ (3,cap):=by
  obtain⟨rest,q1,q2,_⟩:=ho;rw[AO,BG,show Lay.k Int=1 from rfl,Nat.mul_one,Nat.mul_one]at q2;simp[World.shape?,q1,J5];exact⟨rfl,q2⟩
 have AU8:w.shape? b=FZ (3,1):=by unfold JM at h1;simp[World.shape?,h1];exact⟨rfl,rfl⟩
 have hfb:∀j,w.frozen? ⟨b,j,FX⟩=false:=fun j=>by unfold JM at h1;simp[F7,h1]
 have hov:∀lb cb,(callFunc 249 #[FQ (FZ ⟨b,0,FX⟩) 1 1,FQ (FZ ⟨g,(A.length+1),FX⟩) lb cb]).run prog w=.ok (.value (.bool false)) w:=fun lb cb=>by
  rw[run_callFunc_extern func249 (by kernel_rfl) (by kernel_rfl) (by kernel_rfl) (e:=Extern.SlicesOverlaps.overlaps #[44,44] #[4]) (by kernel_rfl),
   Lib.run_overlaps_apart w 44 4 3 underlying44 1 sizeOf3 ⟨b,0,FX⟩ ⟨g,(A.length+1),FX⟩ 1 1 lb cb hbg 3 3 1 cap AU8 AU7 (by omega) (hfb 0) (hfb 1)]
  rfl
 obtain⟨W1,hW1⟩:∃W1,W1=w.drew.setCells g ((A.length+1)) (G9 (y::R)):=⟨_,rfl⟩;have ho1:J8 W1 g cap (A++y::y::R):=by
  have h:J8 w.drew g cap ((A++[y])++R):=by rw[List.append_assoc];exact ho
  have:=h.pW (y::R) (by simp;omega);rw[hW1];simpa using this
 have hg1:w.grownBy W1 (FZ g):=by rw[hW1];have:=H8 (g:=g) (G9 (y::R)) ((A.length+1)) w.drew;exact⟨this.os,this.tape,this.output,this.size,this.block⟩
 have hcp1:∀ty dc sc,(DW #[44,44] ty #[FQ (FZ ⟨g,(A.length+1),FX⟩) (n-A.length) dc,FQ (FZ ⟨g,A.length,FX⟩) (n+1-A.length) sc]).run prog w.drew=.ok (goInt (Nat.min (n+1-A.length) (n-A.length))) W1:=fun ty dc sc=>by
  rw[hW1];exact A77 w.drew ty g _ _ dc ⟨g,A.length,FX⟩ _ sc (G9 (y::R)) (by rw[J5];simp only[Nat.min_def,BG];split<;>omega)
   (fun j v hj=>by
    rw[BJ];have:=hrow (A.length+j) v (by rw[H7,BA (by rw[J5];omega),J5,FB];exact hj);rw[BI]at this;exact this)
   (fun j hj=>by rw[J5]at hj;exact ho.AH2 (by simp at hj;omega)) (fun j _=>ho.frozen _) (JL _)
 have hcp2:∀ty dc,(DW #[44,44] ty #[FQ (FZ ⟨g,A.length,FX⟩) (n+1-A.length) dc,FQ (FZ ⟨b,0,FX⟩) 1 1]).run prog W1=.ok (goInt (Nat.min 1 (n+1-A.length))) (W1.setCells g (A.length) [I0 x]):=fun ty dc=>
  A77 W1 ty g _ _ dc ⟨b,0,FX⟩ 1 1 [I0 x] (by simp only[Nat.min_def,BG,ES];split<;>omega)
   (fun j v hj=>by
    rw[BJ];have hb2:W1.heap[b]?=w.heap[b]? :=hg1.block b (by unfold JM at h1;exact(AB.1 h1).1) (fun e=>hbg (BN e));have h2:JM W1 b x:=hb2.trans h1;exact h2.row j v hj)
   (fun j hj=>ho1.AH2 (by simp at hj;omega)) (fun j _=>ho1.frozen _) ((Lay.one x))
 have FIN:Hid (J8 (W1.setCells g (A.length) [I0 x]) g cap (A++x::y::R)/\w.grownBy (W1.setCells g (A.length) [I0 x]) (FZ g)):=
  ⟨ho1.CN8 x,IJ hg1 (H8 _ _ _)⟩
 have hin:A.length<n:=by omega
 have BW9:(A.length:Int)<(n:Int):=by omega
 have hw1:IntKind.i64.wrap ((A.length:Int)+1)=(A.length:Int)+1:=by rw[IntKind.wrap_i64];omega
 have hb1:(0:Int)<=(A.length:Int)+1:=by omega
 have hb2:¬ (cap=A.length+1):=by omega
 have hb3:(A.length:Int)<=(n:Int)+1:=by omega
 have hb4:¬ (cap=A.length):=by omega
 have hb5:(A.length:Int)+1<=(n:Int)+1:=by omega
 have hb6:¬ ((cap:Int)<(n:Int)+1):=by omega
 have hz2:¬ ((A.length:Int)=(n:Int)):=by omega
 have htn:((A.length:Int)+1).toNat=A.length+1:=by omega
 clear hW1 ho1 hg1 hrow AU7 AU8 hfb ho h1 hn;go_enter func224,ntmps224;go_wp2_with (simp only[hov])
 go_region_law (refine MQ rfl (.tmp 73) (.tmp 76) 44 44 rfl (FQ (FZ ⟨g,(A.length+1),FX⟩) (n-A.length) (cap-(A.length+1))) (FQ (FZ ⟨g,A.length,FX⟩) (n+1-A.length) (cap-A.length)) (by simp[Act.eval,Act.put]) (by simp[Act.eval,Act.put]) (hcp1 _ _ _) ?_)
 go_wp2_with (at_builtin;refine L9 _ rfl _ _ 44 44 rfl _ _ rfl rfl (hcp2 _ _) ?_);go_ret;exact⟨rfl,FIN.out⟩
theorem CC1(k:Nat):(BH (I0 0).cells k).size=k:=by
 simp[BH,Value.cells]
theorem uX(g cap:Nat)(A R:List Int)(y x:Int)(n b:Nat)(w:FU)(ho:J8 w g cap (A++y::R))(hn:n=A.length+R.length+1)(hsm:n<=2147483647)(hroom:cap<n+1)(h1:JM w b x):
  FW prog 224 #[FQ (FZ ⟨g,0,FX⟩) n cap,I0 A.length,FQ (FZ ⟨b,0,FX⟩) 1 1] w fun e w'=>
   ∃cap',e=.returned (FQ (FZ ⟨w.heap.size,0,FX⟩) (n+1) cap')/\J8 w' w.heap.size cap' (A++x::y::R)/\B0 w w':=by
 have hcap:cap=n:=by have:=ho.le;simp at this;omega
 obtain⟨i0,hi0,hz0,hz1,hz2⟩:=zK;have hrow:=ho.row;have hgw:=ho.lt;have hbw:b<w.heap.size:=by unfold JM at h1;exact(AB.1 h1).1
 have hold:(Builtin.firstCells i0.size A.length (FQ (FZ ⟨g,0,FX⟩) A.length cap)).run prog w.drew=.ok (G9 A).toArray w.drew:=by
  rw[hz1];exact run_firstCells_some w.drew 1 A.length ⟨g,0,FX⟩ A.length cap (G9 A) ((J5 A).trans (Nat.mul_one _).symm) (fun j v hj=>by
   rw[BJ];exact hrow j v (by rw[H7,List.getElem?_append_left (AU.1 hj).1];exact hj))
 obtain⟨G,hG⟩:∃G,G=grownCap w (n+1) cap 3:=⟨_,rfl⟩;have hGn:n+1<=G:=by rw[hG];exact grownCap_ge w _ _ _
 have hGm:G<=maxLen:=by rw[hG];exact grownCap_le_maxLen w (n+1) cap _ (by unfold maxLen;omega)
 have hG63:G<=9223372036854775807:=by have:=hGm;unfold maxLen at this;omega
 obtain⟨ROW,hROW⟩:∃ROW:Array FV,ROW=(G9 A).toArray++BH (I0 0).cells (n+1-A.length)++BH (I0 0).cells (G-(n+1)):=⟨_,rfl⟩;obtain⟨W1,hW1⟩:∃W1,W1=w.drew.alloc (FT ROW 3):=⟨_,rfl⟩;have hik:A.length+(n+1-A.length)=n+1:=by omega
 have hrz:∀ty,(Builtin.append_ #[44,3] ty #[FQ (FZ ⟨g,0,FX⟩) A.length cap,I0 ((n:Int)+1-(A.length:Int))]).run prog w=
   .ok (FQ (FZ ⟨w.heap.size,0,FX⟩) (n+1) G) W1:=fun ty=>by
  have h:=Lib.run_append_grow_zeros w 44 3 ty 3 i0 _ .i64 .i64 underlying44 underlying3 hi0 hz0 (FZ ⟨g,0,FX⟩) A.length cap (G9 A) hold (n+1-A.length) (by omega) (by omega) (by omega) (by omega) (by rw[hz2];omega) (by rw[hz2,hik];exact growslice_fits hroom (by omega));rw[hik,<-hG,<-hROW,<-hW1]at h;rw[show (n:Int)+1-(A.length:Int)=((n+1-A.length:Nat):Int) by omega];exact h
 have ho1:J8 W1 w.heap.size G A:=by
  refine⟨(BH (I0 0).cells (n+1-A.length)++BH (I0 0).cells (G-(n+1))).toList,?_,?_,by omega,hGm⟩
  .rw[hW1,hROW];have:=heap_alloc_new w.drew (FT ((G9 A).toArray++BH (I0 0).cells (n+1-A.length)++BH (I0 0).cells (G-(n+1))) 3);refine Eq.trans this ?_
   congr 2
   apply Array.toList_inj.1
   simp
  .simp only[show Lay.k Int=1 from rfl,Array.length_toList,Array.size_append,CC1,Nat.mul_one];omega
 have hB1:B0 w W1:=by rw[hW1];exact((AA _ w).drew).alloc (A8 _) _
 obtain⟨W2,hW2⟩:∃W2,W2=W1.setCells w.heap.size (A.length) [I0 x]:=⟨_,rfl⟩;have ho2:J8 W2 w.heap.size G (A++[x]):=by
  have h:J8 W1 w.heap.size G (A++[]):=by rw[DL];exact ho1
  have:=h.pW [x] (by simp;omega);rw[hW2];rw[JQ,RQ,DL]at this;exact this
 have hg2:W1.grownBy W2 (FZ w.heap.size):=by rw[hW2];exact H8 _ _ _
 have hB2:B0 w W2:=hB1.grown hg2 hB1.size (fun k e=>by cases e;exact A8 _);have hcpA:∀ty dc,(DW #[44,44] ty #[FQ (FZ ⟨w.heap.size,A.length,FX⟩) (n+1-A.length) dc,FQ (FZ ⟨b,0,FX⟩) 1 1]).run prog W1=.ok (goInt (Nat.min 1 (n+1-A.length))) W2:=fun ty dc=>by
  rw[hW2];exact A77 W1 ty w.heap.size _ _ dc ⟨b,0,FX⟩ 1 1 [I0 x] (by simp only[Nat.min_def,BG,ES];split<;>omega)
   (fun j v hj=>by rw[BJ];exact(show JM W1 b x from(hB1.block b hbw).trans h1).row j v hj)
   (fun j hj=>ho1.AH2 (by simp at hj;omega)) (fun j _=>ho1.frozen _) ((Lay.one x))
 obtain⟨W3,hW3⟩:∃W3,W3=W2.drew.setCells w.heap.size ((A.length+1)) (G9 (y::R)):=⟨_,rfl⟩;have hcpB:∀ty dc sc,(DW #[44,44] ty #[FQ (FZ ⟨w.heap.size,(A.length+1),FX⟩) (n-A.length) dc,FQ (FZ ⟨g,A.length,FX⟩) (n-A.length) sc]).run prog W2.drew=.ok (goInt (Nat.min (n-A.length) (n-A.length))) W3:=fun ty dc sc=>by
  rw[hW3];exact A77 W2.drew ty w.heap.size _ _ dc ⟨g,A.length,FX⟩ _ sc (G9 (y::R)) (by rw[J5];simp only[Nat.min_self,BG];omega)
   (fun j v hj=>by
    rw[BJ];have:=hrow (A.length+j) v (by rw[H7,BA (by rw[J5];omega),J5,FB];exact hj);rw[BI]at this;exact(hB2.cell (p:=⟨g,A.length+j,FX⟩) hgw).trans this)
   (fun j hj=>by rw[J5]at hj;exact ho2.drew.AH2 (by simp at hj;omega)) (fun j _=>ho2.drew.frozen _) (JL _)
 have FIN:Hid (J8 W3 w.heap.size G (A++x::y::R)/\B0 w W3):=by
  refine⟨?_,?_⟩
  .have h:J8 W2.drew w.heap.size G ((A++[x])++[]):=by rw[DL];exact ho2
   have:=h.pW (y::R) (by simp;omega);rw[hW3];simpa using this
  .rw[hW3];exact hB2.drew.grown (H8 _ _ _) hB2.size (fun k e=>by cases e;exact A8 _)
 have hin:A.length<n:=by omega
 have BW9:(A.length:Int)<(n:Int):=by omega
 have hw1:IntKind.i64.wrap ((A.length:Int)+1)=(A.length:Int)+1:=by rw[IntKind.wrap_i64];omega
 have hb1:(0:Int)<=(A.length:Int)+1:=by omega
 have hb2:¬ (G=A.length+1):=by omega
 have hb3:(A.length:Int)<=(n:Int)+1:=by omega
 have hb4:¬ (n=A.length):=by omega
 have hb5:(A.length:Int)+1<=(n:Int)+1:=by omega
 have hb6:¬ (G=A.length):=by omega
 have hb7:(A.length:Int)<=(n:Int):=by omega
 have hz3:¬ ((A.length:Int)=(n:Int)):=by omega
 have htn:((A.length:Int)+1).toNat=A.length+1:=by omega
 subst hcap;clear hn hROW hW1 hW2 hW3 hG hrow ho h1 ho1 ho2 hB1 hB2 hg2 hold hik;go_enter func224,ntmps224;go_wp2_with (first
  |(at_builtin;refine Lib.wpList_append_run _ rfl _ _ _ _ rfl _ _ rfl rfl _ _ (hrz _) ?_)
  |(at_builtin;refine L9 _ rfl _ _ 44 44 rfl _ _ rfl rfl (hcpA _ _) ?_))
 go_region_law (refine MQ rfl (.tmp 50) (.tmp 53) 44 44 rfl (FQ (FZ ⟨w.heap.size,(A.length+1),FX⟩) (cap-A.length) (G-(A.length+1))) (FQ (FZ ⟨g,A.length,FX⟩) (cap-A.length) (cap-A.length)) (by simp[Act.eval,Act.put]) (by simp[Act.eval,Act.put]) (hcpB _ _ _) ?_)
 go_wp2
 go_ret;exact⟨G,rfl,FIN.out⟩
theorem zN(v:FV)(A R:List Int)(x:Int)(q:Nat)(w:FU)(ho:GZ w 0 v (A++R))(hl:(A++R).length<=2147483647)(h1:JM w q x)(hq:v.ownBlock≠FZ q):
  FW prog 224 #[v,I0 A.length,FQ (FZ ⟨q,0,FX⟩) 1 1] w fun e w'=>
   ∃v',e=.returned v'/\GZ w' 0 v' (A++x::R)/\w.grownBy w' v.ownBlock/\(v'.ownBlock=v.ownBlock\/∃k,w.heap.size<=k/\v'.ownBlock=FZ k):=by
 cases R with
 |nil=>
  rw[DL]at ho hl;refine(zM v A x 0 q w ho (AY _) hl h1).mono ?_;rintro e w' ⟨v',rfl,h2,h3,h4⟩;refine⟨v',rfl,h2,h3,?_⟩;rcases h4 with h|h
  .exact .inl h
  .exact .inr ⟨_,A8 _,h⟩
 |cons y R=>
  rcases ho with⟨_,h⟩|⟨g,cap,rfl,_,ho⟩
  .simp at h
  .have hn:(A++y::R).length=A.length+R.length+1:=by simp;omega
   by_cases hc:(A++y::R).length+1<=cap
   .refine(qB g cap A R y x _ q w ho hn hl hc h1 (fun e=>hq (by rw[e];rfl))).mono ?_;rintro e w' ⟨rfl,h2,h3⟩;exact⟨_,rfl,.inr ⟨g,cap,by simp;omega,AY _,h2⟩,h3,.inl rfl⟩
   .refine(uX g cap A R y x _ q w ho hn hl (by omega) h1).mono ?_;rintro e w' ⟨cap',rfl,h2,h3⟩;exact⟨_,rfl,.inr ⟨w.heap.size,cap',by simp;omega,AY _,h2⟩,⟨h3.os,h3.tape,h3.output,h3.size,fun k hk _=>h3.block k hk⟩,.inr ⟨_,A8 _,rfl⟩⟩
theorem ND(s:List UInt8)(w:FU)(hs:s.length<=281474976710656):
  FW prog 42 #[S0 s] w (R0 w (S0 s)):=VW ⟨s.toArray⟩ w hs
theorem JM.JH(h:JM W b n)(j:Nat)(v:FV)(hj:(MC n)[j]?=FZ v):W.cell? ⟨b,j,FX⟩=FZ v:=by
 have:=h.row j v hj;rwa[BI]at this
theorem JM.J6(h:JM W b n)(j:Nat):W.frozen? ⟨b,j,FX⟩=false:=by
 unfold JM at h;simp[F7,h]
theorem JM.BF5(h:JM W b n)(hb:B0 W V):JM V b n:=by
 unfold JM at h⊢;exact(hb.block _ (AB.1 h).1).trans h
def VJ:Nd:=⟨[],[],0,0,0,0,0,0,0⟩
theorem YP(n:Nd)(w:FU)(hp:n.p.length<=140737488355328)(hd:n.d.length<=140737488355328):
  FW prog 29 #[TM n] w (R0 w (TM n)):=by
 have C1:=fun W=>ND n.p W (by omega);have C2:=fun W=>ND n.d W (by omega);have X0:∀W,W=(w.alloc (FT (MC n).toArray 69)).alloc (FT (MC VJ).toArray 69)->JM W w.heap.size n/\JM W (w.heap.size+1) VJ/\B0 w W:=by
  rintro W rfl;refine⟨?_,?_,((AA _ _).alloc (A8 _) _).alloc (by simp) _⟩
  .unfold JM;exact(((AA (w.heap.size+1) (w.alloc (FT (MC n).toArray 69))).alloc (by simp) (FT (MC VJ).toArray 69)).block _ (by omega)).trans (heap_alloc_new w _)
  .have:=heap_alloc_new (w.alloc (FT (MC n).toArray 69)) (FT (MC VJ).toArray 69);rw[show (w.alloc (FT (MC n).toArray 69)).heap.size=w.heap.size+1 by simp]at this;exact this
 have X:=G6 X0;clear X0;unfold TM;go_enter func29,ntmps29;go_wp2_with fail;generalize hW0:(w.alloc _).alloc _=W0;obtain⟨x1,x2,x3⟩:=G5 X W0 hW0.symm;clear hW0 X;refine(C1 _).mono ?_;rintro e w1 ⟨rfl,hb1⟩;have y1:=x1.BF5 hb1;have e0:=y1.JH 0 _ rfl;have e1:=y1.JH 1 _ rfl;have f0:=y1.J6 0;have hs0:=I5 e0;have Y1:=G6 y1;have Y2:=G6 (x2.BF5 hb1);have B1:=G6 (G8 x3 hb1);clear y1 x1 x2 x3 hb1 C1;go_wp2_with fail;refine(C2 _).mono ?_;rintro e w2 ⟨rfl,hb2⟩;have y1:=(G5 Y1).BF5 hb2;have y2:=(G5 Y2).BF5 hb2;have B2:=G6 (G8 (G5 B1) hb2);clear e0 e1 f0 hs0 C2 hb2 Y1 Y2;have c0:=y1.JH 0 _ rfl;have c1:=y1.JH 1 _ rfl;have c2:=y1.JH 2 _ rfl;have c3:=y1.JH 3 _ rfl;have c4:=y1.JH 4 _ rfl;have c5:=y1.JH 5 _ rfl;have c6:=y1.JH 6 _ rfl;have c7:=y1.JH 7 _ rfl;have c8:=y1.JH 8 _ rfl;have d0:=y2.JH 0 _ rfl;have d1:=y2.JH 1 _ rfl;have d2:=y2.JH 2 _ rfl;have d3:=y2.JH 3 _ rfl;have d4:=y2.JH 4 _ rfl;have d5:=y2.JH 5 _ rfl;have d6:=y2.JH 6 _ rfl;have d7:=y2.JH 7 _ rfl;have d8:=y2.JH 8 _ rfl;have f1:=y1.J6 1;have g0:=y2.J6 0;have g1:=y2.J6 1;have g2:=y2.J6 2;have g3:=y2.J6 3;have g4:=y2.J6 4;have g5:=y2.J6 5;have g6:=y2.J6 6;have g7:=y2.J6 7;have g8:=y2.J6 8;have hs1:=I5 c1;have hne:w.heap.size≠w.heap.size+1:=by omega
 clear y1 y2;go_wp2_with fail;have BB:=G5 B2;exact bodyPost_ret (v:=TM n) (by simp[results,results29,go_sem,TM,d0,d1,d2,d3,d4,d5,d6,d7,d8]) rfl
  ⟨rfl,((((((((BB.setCell (by simp) _).setCell (by simp) _).setCell (by simp) _).setCell (by simp) _).setCell (by simp) _).setCell (by simp) _).setCell (by simp) _).setCell (by simp) _).setCell (by simp) _⟩
structure Grow(W:FU)(F:Nat->Prop)(b:Nat)(z:Int)(vn vs ve:FV)(ns:List Nd)(ss:List Int)(es:List Ev):Prop where
 blk:W.heap[b]?=FZ (FT #[I0 z,vn,vs,ve] 246 (0,0))
 fb:F b
 n:GZ W 0 vn ns
 s:GZ W 0 vs ss
 e:GZ W 0 ve es
 fn:∀k,vn.ownBlock=FZ k->F k/\k≠b
 fs:∀k,vs.ownBlock=FZ k->F k/\k≠b
 fe:∀k,ve.ownBlock=FZ k->F k/\k≠b
 an:∀k,vn.ownBlock=FZ k->vs.ownBlock≠FZ k/\ve.ownBlock≠FZ k
 asn:∀k,vs.ownBlock=FZ k->ve.ownBlock≠FZ k
theorem Grow.lt(h:Grow W F b z vn vs ve ns ss es):b<W.heap.size:=(AB.1 h.blk).1
theorem Grow.next(h:Grow W F b z vn vs ve ns ss es)(hb:B0 W V):Grow V F b z vn vs ve ns ss es:=
 ⟨(hb.block _ h.lt).trans h.blk,h.fb,h.n.next hb,h.s.next hb,h.e.next hb,h.fn,h.fs,h.fe,h.an,h.asn⟩
theorem Grow.cut{G:Nat->Prop}(h:Grow W F b z vn vs ve ns ss es)(hg:∀k,k<W.heap.size->F k->G k):Grow W G b z vn vs ve ns ss es:=
 ⟨h.blk,hg b h.lt h.fb,h.n,h.s,h.e,fun k hk=>⟨hg k (h.n.low k hk) (h.fn k hk).1,(h.fn k hk).2⟩,fun k hk=>⟨hg k (h.s.low k hk) (h.fs k hk).1,(h.fs k hk).2⟩,fun k hk=>⟨hg k (h.e.low k hk) (h.fe k hk).1,(h.fe k hk).2⟩,h.an,h.asn⟩
theorem Grow.c0(h:Grow W F b z vn vs ve ns ss es):W.cell? ⟨b,0,FX⟩=FZ (I0 z):=by simp[AV,h.blk]
theorem Grow.c1(h:Grow W F b z vn vs ve ns ss es):W.cell? ⟨b,1,FX⟩=FZ vn:=by simp[AV,h.blk]
theorem Grow.c2(h:Grow W F b z vn vs ve ns ss es):W.cell? ⟨b,2,FX⟩=FZ vs:=by simp[AV,h.blk]
theorem Grow.c3(h:Grow W F b z vn vs ve ns ss es):W.cell? ⟨b,3,FX⟩=FZ ve:=by simp[AV,h.blk]
theorem Grow.fz(h:Grow W F b z vn vs ve ns ss es)(j:Nat):W.frozen? ⟨b,j,FX⟩=false:=by simp[F7,h.blk]
theorem Grow.ev{ve':FV}{es':List Ev}(h:Grow W F b z vn vs ve ns ss es)(hF:∀k,W.heap.size<=k->F k)(hg:W.grownBy V ve.ownBlock)(he:GZ V 0 ve' es')(hl:ve'.ownBlock=ve.ownBlock\/ve'.ownBlock=FZ W.heap.size):
  Grow (V.setCell ⟨b,3,FX⟩ ve') F b z vn vs ve' ns ss es':=by
 have hbe:FZ b≠ve.ownBlock:=fun e=>(h.fe b e.symm).2 rfl;have hb:=h.lt;have hne:∀k,ve'.ownBlock=FZ k->F k/\k≠b/\vn.ownBlock≠FZ k/\vs.ownBlock≠FZ k:=by
  intro k hk;rcases hl with e|e
  .rw[e]at hk;exact⟨(h.fe k hk).1,(h.fe k hk).2,fun hn=>(h.an k hn).2 hk,fun hs=>h.asn k hs hk⟩
  .rw[e]at hk
   cases hk
   exact⟨hF _ (A8 _),by omega,fun hn=>by have:=h.n.low _ hn;omega,fun hs=>by have:=h.s.low _ hs;omega⟩
 refine⟨?_,h.fb,?_,?_,?_,h.fn,h.fs,fun k hk=>⟨(hne k hk).1,(hne k hk).2.1⟩,fun k hk=>⟨(h.an k hk).1,fun e=>(hne k e).2.2.1 hk⟩,fun k hk e=>(hne k e).2.2.2 hk⟩
 .rw[GL ve' ((hg.block b hb hbe).trans h.blk)];rfl
 .exact(h.n.grown hg (fun k hk e=>(h.an k hk).2 e.symm)).other (fun e=>(h.fn b e).2 rfl) _
 .exact(h.s.grown hg (fun k hk e=>h.asn k hk e.symm)).other (fun e=>(h.fs b e).2 rfl) _
 .exact he.other (fun e=>(hne b e).2.1 rfl) _
theorem Grow.nd{vn':FV}{ns':List Nd}(h:Grow W F b z vn vs ve ns ss es)(hF:∀k,W.heap.size<=k->F k)(hg:W.grownBy V vn.ownBlock)(hn':GZ V 0 vn' ns')(hl:vn'.ownBlock=vn.ownBlock\/∃k,W.heap.size<=k/\vn'.ownBlock=FZ k):
  Grow (V.setCell ⟨b,1,FX⟩ vn') F b z vn' vs ve ns' ss es:=by
 have hbn:FZ b≠vn.ownBlock:=fun e=>(h.fn b e.symm).2 rfl;have hb:=h.lt;have hne:∀k,vn'.ownBlock=FZ k->F k/\k≠b/\vs.ownBlock≠FZ k/\ve.ownBlock≠FZ k:=by
  intro k hk;rcases hl with e|⟨j,hj,e⟩
  .rw[e]at hk;exact⟨(h.fn k hk).1,(h.fn k hk).2,(h.an k hk).1,(h.an k hk).2⟩
  .rw[e]at hk
   cases hk
   exact⟨hF _ hj,by omega,fun hs=>by have:=h.s.low _ hs;omega,fun hs=>by have:=h.e.low _ hs;omega⟩
 refine⟨?_,h.fb,?_,?_,?_,fun k hk=>⟨(hne k hk).1,(hne k hk).2.1⟩,h.fs,h.fe,fun k hk=>(hne k hk).2.2,h.asn⟩
 .rw[GL vn' ((hg.block b hb hbn).trans h.blk)];rfl
 .exact hn'.other (fun e=>(hne b e).2.1 rfl) _
 .exact(h.s.grown hg (fun k hk e=>(h.an k e.symm).1 hk)).other (fun e=>(h.fs b e).2 rfl) _
 .exact(h.e.grown hg (fun k hk e=>(h.an k e.symm).2 hk)).other (fun e=>(h.fe b e).2 rfl) _
theorem Grow.se{vs':FV}{ss':List Int}(h:Grow W F b z vn vs ve ns ss es)(hF:∀k,W.heap.size<=k->F k)(hg:W.grownBy V vs.ownBlock)(hn':GZ V 0 vs' ss')(hl:vs'.ownBlock=vs.ownBlock\/∃k,W.heap.size<=k/\vs'.ownBlock=FZ k):
  Grow (V.setCell ⟨b,2,FX⟩ vs') F b z vn vs' ve ns ss' es:=by
 have hbn:FZ b≠vs.ownBlock:=fun e=>(h.fs b e.symm).2 rfl;have hb:=h.lt;have hne:∀k,vs'.ownBlock=FZ k->F k/\k≠b/\vn.ownBlock≠FZ k/\ve.ownBlock≠FZ k:=by
  intro k hk;rcases hl with e|⟨j,hj,e⟩
  .rw[e]at hk;exact⟨(h.fs k hk).1,(h.fs k hk).2,fun hn=>(h.an k hn).1 hk,h.asn k hk⟩
  .rw[e]at hk
   cases hk
   exact⟨hF _ hj,by omega,fun hs=>by have:=h.n.low _ hs;omega,fun hs=>by have:=h.e.low _ hs;omega⟩
 refine⟨?_,h.fb,?_,?_,?_,h.fn,fun k hk=>⟨(hne k hk).1,(hne k hk).2.1⟩,h.fe,fun k hk=>⟨fun e=>(hne k e).2.2.1 hk,(h.an k hk).2⟩,fun k hk=>(hne k hk).2.2.2⟩
 .rw[GL vs' ((hg.block b hb hbn).trans h.blk)];rfl
 .exact(h.n.grown hg (fun k hk e=>(h.an k hk).1 e.symm)).other (fun e=>(h.fn b e).2 rfl) _
 .exact hn'.other (fun e=>(hne b e).2.1 rfl) _
 .exact(h.e.grown hg (fun k hk e=>h.asn k e.symm hk)).other (fun e=>(h.fe b e).2 rfl) _
theorem Grow.put{g cap:Nat}{A B:List Nd}{m:Nd}{l:Nat}(h:Grow W F b z (FQ (FZ ⟨g,0,FX⟩) l cap) vs ve (A++n::B) ss es){c:Nat}(hc:c<9){v:FV}(hm:MC m=(MC n).set c v):
  Grow (W.setCell ⟨g,A.length*9+c,FX⟩ v) F b z (FQ (FZ ⟨g,0,FX⟩) l cap) vs ve (A++m::B) ss es:=by
 have hgb:=(h.fn g rfl).2;refine⟨(Below.heap_setCell W ⟨g,_,FX⟩ v b (fun e=>hgb e.symm)).trans h.blk,h.fb,?_,?_,?_,h.fn,h.fs,h.fe,h.an,h.asn⟩
 .rcases h.n with⟨h1,_⟩|⟨g',cap',h1,h2,h3⟩
  .cases h1
  .simp only[AP,BD,ER,and_true]at h1;obtain⟨rfl,rfl,rfl⟩:=h1;refine .inr ⟨g,cap,by simp,h2,?_⟩;exact h3.set (c:=c) (by exact hc) hm
 .exact h.s.other (fun e=>(h.an g rfl).1 e) _
 .exact h.e.other (fun e=>(h.an g rfl).2 e) _
theorem Grow.fM(h:Grow W F b z vn vs ve ns ss es)(h0:ns≠[]):∃g cap,vn=FQ (FZ ⟨g,0,FX⟩) ns.length cap/\J8 W g cap ns/\g≠b/\F g:=by
 rcases h.n with⟨_,h1⟩|⟨g,cap,rfl,_,h3⟩
 .exact absurd h1 h0
 .exact⟨g,cap,rfl,h3,(h.fn g rfl).2,(h.fn g rfl).1⟩
theorem zQ{w:FU}{ops:Array Oper}{o:Oper}{a:Act}{K:Act->FU->Prop}{Q:Exit->Act->FU->Prop}{E:Prop}(hgd:FI o (yielded ops a.tmps)=true)(s x:Operand)
  (ho:o.op=.call {callee:=.builtin .append,args:=#[s,x],argTypes:=#[206,206]})
  (v:FV) (es:List Ev) (hs:a.eval s=v) (hown:GZ w 0 v es)
  (q:Nat) (hx:a.eval x=FQ (FZ ⟨q,0,FX⟩) 1 1) (t:Ev) (hnews:JM w q t) (hl:es.length<=100000)
  (h:∀a' c' w',GZ w' 0 (FQ a' (es.length+1) c') (es++[t])->w.grownBy w' v.ownBlock->((Value.slice a' (es.length+1) c').ownBlock=v.ownBlock\/(Value.slice a' (es.length+1) c').ownBlock=FZ w.heap.size)->K (a.put o.dst (FQ a' (es.length+1) c')) w'):
  if FI o (yielded ops a.tmps)=true then Oper.wp prog o a w K Q else E:=by
 rw[if_pos hgd];obtain⟨i0,hi0,hz0,hz1,hz2⟩:=CN5;obtain⟨v',w',hr,h2,h3,_,h5⟩:=run_append_own_at (P:=prog) w 0 206 o.type 248 i0 _ 2 24 underlying206 hi0 hz0 hz1 hz2 rfl (by decide) v es.length (G9 es) hown.row ⟨q,0,FX⟩ 1 1 (AT0 t) rfl (QX hnews) (Lay.one t) (by simp only[maxLen];omega) (by omega) (AY _);have h2':GZ w' 0 v' (es++[t]):=GZ.KY (by rw[AO,JE];exact h2);obtain⟨a',c',rfl,_⟩:=h2'.slice;have hlen:(es++[t]).length=es.length+1:=by simp
 rw[hlen]at h2' hr h5;unfold Oper.wp execOp;simp only[ho,resolve,invoke,builtin,Sem.run_bind,Sem.run_pure,Result.andThen_ok,List.map_toArray,List.map_cons,List.map_nil,hs,hx,hr];exact h a' c' w' h2' h3 h5
theorem fO(F:Nat->Prop)(b:Nat)(z:Int)(vn vs ve:FV)(ns:List Nd)(ss:List Int)(es:List Ev)(kind:Int)(p:List UInt8)(w:FU)
  (h:Grow w F b z vn vs ve ns ss es) (hF:∀k,w.heap.size<=k->F k) (hp:p.length<=140737488355328) (hl:es.length<=100000):
  FW prog 228 #[P0 b,I0 kind,S0 p] w fun e w'=>
   e=.returned (.tuple #[])/\∃ve',Grow w' F b z vn vs ve' ns ss (es++[⟨kind,p⟩])/\Touch F w w':=by
 have C:=fun W=>ND p W (by omega);have c3:=h.c3;have f3:=h.fz 3;have HG:=G6 h;have HF:=G6 hF;obtain⟨ea,ec,rfl,_⟩:=h.e.slice;have K1:=G6 (fun w1 (hb1:B0 w w1)=>(⟨(h.next hb1).c3,(h.next hb1).fz 3,(h.next hb1).lt,((h.next hb1).next (G7 _ _)).c3⟩:w1.cell? ⟨b,3,FX⟩=FZ (FQ ea es.length ec)/\w1.frozen? ⟨b,3,FX⟩=false/\b<w1.heap.size/\(w1.alloc (FT #[I0 kind,S0 p] 248)).cell? ⟨b,3,FX⟩=FZ (FQ ea es.length ec)));have KE:=G6 (fun w1 (hb1:B0 w w1)=>(h.next hb1).e.next (G7 w1 (FT #[I0 kind,S0 p] 248)));have K2:∀ (w1 w2:FU) (a2:Option Addr) (c2:Nat),B0 w w1->GZ w2 0 (FQ a2 (es.length+1) c2) (es++[⟨kind,p⟩])->(w1.alloc (FT #[I0 kind,S0 p] 248)).grownBy w2 (Value.slice ea es.length ec).ownBlock->
   ((Value.slice a2 (es.length+1) c2).ownBlock=(Value.slice ea es.length ec).ownBlock\/(Value.slice a2 (es.length+1) c2).ownBlock=FZ (w1.alloc (FT #[I0 kind,S0 p] 248)).heap.size)->
   w2.cell? ⟨b,3,FX⟩=FZ (FQ ea es.length ec)/\w2.frozen? ⟨b,3,FX⟩=false/\Grow (w2.setCell ⟨b,3,FX⟩ (FQ a2 (es.length+1) c2)) F b z vn vs (FQ a2 (es.length+1) c2) ns ss (es++[⟨kind,p⟩])/\Touch F w (w2.setCell ⟨b,3,FX⟩ (FQ a2 (es.length+1) c2)):=by
  intro w1 w2 a2 c2 hb1 ho2 hg2 hl2;have g1:=(h.next hb1).next (G7 w1 (FT #[I0 kind,S0 p] 248));have n3:¬ (Value.slice ea es.length ec).ownBlock=FZ b:=fun e=>(h.fe b e).2 rfl;refine⟨hg2.cell g1.c3 (fun e=>n3 e.symm),(World.frozen?_of_block (hg2.block b g1.lt (fun e=>n3 e.symm))).trans (g1.fz 3),g1.ev (fun k hk=>hF k (by have:=hb1.size;simp at hk;omega)) hg2 ho2 hl2,?_⟩;exact(((Touch.of_below hb1).trans (Touch.of_below (G7 _ _))).trans (Touch.UR hg2 (fun k e=>(h.fe k e).1))).trans (Touch.set h.fb _)
 have HK2:=G6 K2;clear h hF hp K2;go_enter func228,ntmps228;go_wp2_with fail
 go_region_law (first
  |(refine zQ (by kernel_rfl) _ _ (by rfl) (FQ ea es.length ec) es (by rfl) (G5 KE w1 (G5 HB1)) w1.heap.size (by rfl) ⟨kind,p⟩ (yR w1 kind p) hl ?_;intro a2 c2 w2 ho2 hg2 hl2;obtain⟨m3,l3,g2,t2⟩:=G5 HK2 w1 w2 a2 c2 (G5 HB1) ho2 hg2 hl2;have HG2:=G6 g2;have HT2:=G6 t2;clear ho2 hg2 hl2 g2 t2)
  |(go_simp;refine(C _).mono ?_;rintro e w1 ⟨rfl,hb1⟩;have HB1:Hid (B0 w w1):=(by first|exact hb1|exact I8 hb1);obtain⟨d3,k3,hbn,d3a⟩:=G5 K1 w1 (G5 HB1);clear hb1))
 all_goals go_wp2_with fail
 all_goals go_end0
 all_goals exact⟨rfl,_,G5 HG2,G5 HT2⟩
theorem jB(a:Addr)(cap:Nat)(ss:List Int)(w:FU)(hl:ss.length<=2147483647)(hc:∀j u,(G9 ss)[j]?=FZ u->w.cell? (a.add j)=FZ u):
  FW prog 23 #[FQ (FZ a) ss.length cap] w fun e w'=>∃v',e=.returned v'/\GZ w' w.heap.size v' ss/\B0 w w':=by
 have q22:∀ (w:FU) (a:Option Addr) (n c n' c':Nat),(binOp .eql 44 (FQ a n c) (FQ FX n' c')).run prog w=.ok (.bool a.isNone) w:=fun w a n c n' c'=>Lib.run_eql_slice_nil w _ _ a n c n' c' underlying44;have H:Hid (∀j u,(G9 ss)[j]?=FZ u->w.cell? (a.add j)=FZ u):=hc;clear hc;obtain⟨i0,hi0,hz0,hz1,hz2⟩:=zK;go_enter func23,ntmps23;go_wp2_with (at_builtin;refine wpList_append_own _ rfl _ _ 44 rfl w.heap.size 3 i0 _ 1 8 underlying44 hi0 hz0 hz1 hz2 rfl (by decide) _ _ _ rfl (World.ownsRow_made w #[] 0 (A8 _) (AY _) (by simp)) a ss.length cap (G9 ss) rfl ?qc1 ?qc2 ?qc3 ?qc4 ?qc5 ?qc6 ?_)
 case qc1=>exact(J5 ss).trans (Nat.mul_one _).symm
 case qc2=>
  intro j u hj;exact Lib.cell?_alloc_some _ (H.out j u hj)
 case qc3=>exact JL ss
 case qc4=>simp only[maxLen];omega
 case qc5=>omega
 case qc6=>simp
 intro v' w1 hown hgrow hnil
 go_wp2
 go_ret;refine⟨v',rfl,GZ.KY hown,?_⟩;exact((AA _ w).alloc (A8 _) _).grown hgrow (by simp) (by intro k hk;simp[Value.ownBlock]at hk;omega)
theorem AH5(n c:Nat)(w:FU):
  FW prog 23 #[FQ FX n c] w fun e w'=>e=.returned (N0)/\w'=w:=by
 have q22:∀ (w:FU) (a:Option Addr) (n c n' c':Nat),(binOp .eql 44 (FQ a n c) (FQ FX n' c')).run prog w=.ok (.bool a.isNone) w:=fun w a n c n' c'=>Lib.run_eql_slice_nil w _ _ a n c n' c' underlying44;go_enter func23,ntmps23
 go_wp2
 go_ret;exact⟨rfl,rfl⟩
theorem bT(v:FV)(ss:List Int)(w:FU)(hv:IL w v ss)(hl:ss.length<=2147483647):
  FW prog 23 #[v] w fun e w'=>∃v',e=.returned v'/\GZ w' w.heap.size v' ss/\B0 w w':=by
 rcases hv with⟨a,cap,rfl,rfl,_⟩|⟨b,off,cap,rfl,_,_,hb,_,hr⟩
 .cases a with
  |none=>exact(AH5 0 cap w).mono fun e w' ⟨he,hw⟩=>⟨_,he,.inl ⟨rfl,rfl⟩,by rw[hw];exact AA _ _⟩
  |some a=>exact jB a cap [] w (by simp) (fun j u h=>by simp[RQ]at h)
 .exact jB ⟨b,off,FX⟩ cap ss w hl (fun j u h=>by rw[BJ];exact hr j u h)
theorem zS{w:FU}{ops:Array Oper}{o:Oper}{a:Act}{K:Act->FU->Prop}{Q:Exit->Act->FU->Prop}{E:Prop}(hgd:FI o (yielded ops a.tmps)=true)(s x:Operand)
  (ho:o.op=.call {callee:=.builtin .append,args:=#[s,x],argTypes:=#[43,43]})
  (v:FV) (ns:List Nd) (hs:a.eval s=v) (hown:GZ w 0 v ns)
  (q:Nat) (hx:a.eval x=FQ (FZ ⟨q,0,FX⟩) 1 1) (t:Nd) (hnews:JM w q t) (hl:ns.length<=100000)
  (h:∀a' c' w',GZ w' 0 (FQ a' (ns.length+1) c') (ns++[t])->w.grownBy w' v.ownBlock->((Value.slice a' (ns.length+1) c').ownBlock=v.ownBlock\/(Value.slice a' (ns.length+1) c').ownBlock=FZ w.heap.size)->K (a.put o.dst (FQ a' (ns.length+1) c')) w'):
  if FI o (yielded ops a.tmps)=true then Oper.wp prog o a w K Q else E:=by
 rw[if_pos hgd];obtain⟨i0,hi0,hz0,hz1,hz2⟩:=AH3;obtain⟨v',w',hr,h2,h3,_,h5⟩:=run_append_own_at (P:=prog) w 0 43 o.type 69 i0 _ 9 88 underlying43 hi0 hz0 hz1 hz2 rfl (by decide) v ns.length (G9 ns) hown.row ⟨q,0,FX⟩ 1 1 (MC t) rfl (QX hnews) (Lay.one t) (by simp only[maxLen];omega) (by omega) (AY _);have h2':GZ w' 0 v' (ns++[t]):=GZ.KY (by rw[AO,JE];exact h2);obtain⟨a',c',rfl,_⟩:=h2'.slice;have hlen:(ns++[t]).length=ns.length+1:=by simp
 rw[hlen]at h2' hr h5;unfold Oper.wp execOp;simp only[ho,resolve,invoke,builtin,Sem.run_bind,Sem.run_pure,Result.andThen_ok,List.map_toArray,List.map_cons,List.map_nil,hs,hx,hr];exact h a' c' w' h2' h3 h5
theorem qC(w:FU)(n:Nd):JM (w.alloc (FT #[S0 n.p,S0 n.d,I0 n.c,I0 n.m,I0 n.q,I0 n.v,I0 n.k,I0 n.o,I0 n.n] 69)) w.heap.size n:=heap_alloc_new w _
theorem AW8(t:Tr)(vn vs:FV)(z:Int)(w:FU)(hn:IL w vn t.ns)(hs:IL w vs t.ss)(hl:t.ns.length<=400)(hls:t.ss.length<=2147483647)(BX9:∀n∈t.ns,n.p.length<=140737488355328/\n.d.length<=140737488355328):
  FW prog 170 #[.agg #[I0 t.z,vn,vs],I0 z] w fun e w'=>
   ∃b vn' vs',e=.returned (P0 b)/\Grow w' (fun k=>w.heap.size<=k) b z vn' vs' (N0) t.ns t.ss []/\B0 w w':=by
 have CC:=G6 (fun n (hn:n∈t.ns) W=>YP n W (BX9 n hn).1 (BX9 n hn).2);have CI:=G6 (fun W (hW:B0 w W)=>bT vs t.ss W (hs.next hW) hls);have KR:∀W,B0 w W->∀k x,t.ns[k]?=FZ x->∃b off cap,vn=FQ (FZ ⟨b,off,FX⟩) t.ns.length cap/\b<w.heap.size/\IB W b off (G9 t.ns):=fun W hW k x hx=>by
  obtain⟨b,off,cap,e,hb,hr,_,_⟩:=NT hn (fun h0=>by obtain⟨h1,_⟩:=AU.1 hx;rw[h0]at h1;simp at h1);exact⟨b,off,cap,e,hb,hr.kept hW hb⟩
 have HKR:=G6 KR;obtain⟨na,nc,rfl⟩:=GK hn;obtain⟨sa,sc,rfl⟩:=GK hs;clear hn hs BX9 KR;unfold TM at CC;have S0:∀W,W=(w.alloc (FT #[I0 t.z,FQ na t.ns.length nc,FQ sa t.ss.length sc] 46)).alloc (FT #[I0 z,N0,N0,N0] 246)->
   Grow W (fun k=>w.heap.size+1<=k) (w.heap.size+1) z (N0) (N0) (N0) [] [] []/\Touch (fun k=>w.heap.size+1<=k) (w.alloc (FT #[I0 t.z,FQ na t.ns.length nc,FQ sa t.ss.length sc] 46)) W:=by
  rintro W rfl;refine⟨⟨?_,A8 _,.inl ⟨rfl,rfl⟩,.inl ⟨rfl,rfl⟩,.inl ⟨rfl,rfl⟩,(by intro k hk;cases hk),(by intro k hk;cases hk),(by intro k hk;cases hk),(by intro k hk;cases hk),(by intro k hk;cases hk)⟩,?_⟩
  .have:=heap_alloc_new (w.alloc (FT #[I0 t.z,FQ na t.ns.length nc,FQ sa t.ss.length sc] 46)) (FT #[I0 z,N0,N0,N0] 246);rw[show (w.alloc (FT #[I0 t.z,FQ na t.ns.length nc,FQ sa t.ss.length sc] 46)).heap.size=w.heap.size+1 by simp]at this;exact this
  .exact Touch.of_below (G7 _ _)
 have HS0:=G6 S0;have BX:∀W,Touch (fun k=>w.heap.size+1<=k) (w.alloc (FT #[I0 t.z,FQ na t.ns.length nc,FQ sa t.ss.length sc] 46)) W->B0 w W/\W.cell? ⟨w.heap.size,2,FX⟩=FZ (FQ sa t.ss.length sc)/\w.heap.size+1<=W.heap.size:=by
  intro W h;have hb:W.heap[w.heap.size]?=_:=(h.block w.heap.size (by simp) (by omega)).trans (heap_alloc_new w _);refine⟨(G7 w _).trans (h.below (by simp) (fun k hk=>by omega)),by simp[AV,hb],by have:=h.size;simpa using this⟩
 have HBX:=G6 BX;clear S0 BX;go_enter func170,ntmps170;go_wp2_with fail
 go_loopg [18] t.ns.length (fun kx s18 wr=>∃ (k:Nat) (vn':FV),s18=I0 k/\k<=t.ns.length/\t.ns.length-k<=kx/\Hid (Grow wr (fun k=>w.heap.size+1<=k) (w.heap.size+1) z vn' (N0) (N0) (t.ns.take k) [] [])/\Hid (Touch (fun k=>w.heap.size+1<=k) (w.alloc (FT #[I0 t.z,FQ na t.ns.length nc,FQ sa t.ss.length sc] 46)) wr))
 case atStart=>
  obtain⟨g0,t0⟩:=G5 HS0 _ rfl;exact⟨0,_,rfl,AY _,A8 _,G6 g0,G6 t0⟩
 case round=>
  obtain⟨k,vn',rfl,hk,hg,hG,hT⟩:=hrel;obtain⟨hBw,hc2,hsz⟩:=G5 HBX wr (G5 hT);have HBw:=G6 hBw;by_cases hlt:k<t.ns.length
  .obtain⟨x,hx⟩:∃x,t.ns[k]?=FZ x:=⟨_,List.getElem?_eq_getElem hlt⟩;obtain⟨b,off,cap,he,hb,q⟩:=G5 HKR wr hBw k x hx;simp only[AP]at he;obtain⟨rfl,_,rfl⟩:=he;have d0:=q.n0 hx;have d1:=q.n1 hx;have d2:=q.n2 hx;have d3:=q.n3 hx;have d4:=q.n4 hx;have d5:=q.n5 hx;have d6:=q.n6 hx;have d7:=q.n7 hx;have d8:=q.n8 hx;have hbw:b<wr.heap.size:=by omega
   have CX:=fun W=>G5 CC x (List.mem_of_getElem? hx) W;have HT1:=G6 (show t.ns.take (k+1)=t.ns.take k++[x] by rw[List.take_add_one,hx];rfl);have hlk:(t.ns.take k).length<=400:=by simp;omega
   obtain⟨P,hP⟩:∃P,t.ns.take k=P:=⟨_,rfl⟩;rw[hP]at hG hlk HT1;clear q hx hP;obtain⟨va,vc,rfl,_⟩:=(G5 hG).n.slice;have h:=G5 hG;have c1:=h.c1;have f1:=h.fz 1;have K1:=G6 (fun w1 (hb1:B0 wr w1)=>(⟨(h.next hb1).c1,(h.next hb1).fz 1,(h.next hb1).lt,((h.next hb1).next (G7 _ _)).c1⟩:w1.cell? ⟨w.heap.size+1,1,FX⟩=FZ (FQ va P.length vc)/\w1.frozen? ⟨w.heap.size+1,1,FX⟩=false/\w.heap.size+1<w1.heap.size/\(w1.alloc (FT #[S0 x.p,S0 x.d,I0 x.c,I0 x.m,I0 x.q,I0 x.v,I0 x.k,I0 x.o,I0 x.n] 69)).cell? ⟨w.heap.size+1,1,FX⟩=FZ (FQ va P.length vc)));have KE:=G6 (fun w1 (hb1:B0 wr w1)=>(h.next hb1).n.next (G7 w1 (FT #[S0 x.p,S0 x.d,I0 x.c,I0 x.m,I0 x.q,I0 x.v,I0 x.k,I0 x.o,I0 x.n] 69)));have K2:∀ (w1 w2:FU) (a2:Option Addr) (c2:Nat),B0 wr w1->GZ w2 0 (FQ a2 (P.length+1) c2) (P++[x])->(w1.alloc (FT #[S0 x.p,S0 x.d,I0 x.c,I0 x.m,I0 x.q,I0 x.v,I0 x.k,I0 x.o,I0 x.n] 69)).grownBy w2 (Value.slice va P.length vc).ownBlock->
     ((Value.slice a2 (P.length+1) c2).ownBlock=(Value.slice va P.length vc).ownBlock\/(Value.slice a2 (P.length+1) c2).ownBlock=FZ (w1.alloc (FT #[S0 x.p,S0 x.d,I0 x.c,I0 x.m,I0 x.q,I0 x.v,I0 x.k,I0 x.o,I0 x.n] 69)).heap.size)->
     w2.cell? ⟨w.heap.size+1,1,FX⟩=FZ (FQ va P.length vc)/\w2.frozen? ⟨w.heap.size+1,1,FX⟩=false/\Grow (w2.setCell ⟨w.heap.size+1,1,FX⟩ (FQ a2 (P.length+1) c2)) (fun k=>w.heap.size+1<=k) (w.heap.size+1) z (FQ a2 (P.length+1) c2) (N0) (N0) (P++[x]) [] []/\Touch (fun k=>w.heap.size+1<=k) wr (w2.setCell ⟨w.heap.size+1,1,FX⟩ (FQ a2 (P.length+1) c2)):=by
    intro w1 w2 a2 c2 hb1 ho2 hg2 hl2;have g1:=(h.next hb1).next (G7 w1 (FT #[S0 x.p,S0 x.d,I0 x.c,I0 x.m,I0 x.q,I0 x.v,I0 x.k,I0 x.o,I0 x.n] 69));have n3:¬ (Value.slice va P.length vc).ownBlock=FZ (w.heap.size+1):=fun e=>(h.fn _ e).2 rfl;refine⟨hg2.cell g1.c1 (fun e=>n3 e.symm),(World.frozen?_of_block (hg2.block _ g1.lt (fun e=>n3 e.symm))).trans (g1.fz 1),g1.nd (fun k hk=>by have:=hb1.size;simp at hk;omega) hg2 ho2 ?_,?_⟩
    .rcases hl2 with e|e
     .exact .inl e
     .exact .inr ⟨_,A8 _,e⟩
    .exact(((Touch.of_below hb1).trans (Touch.of_below (G7 _ _))).trans (Touch.UR hg2 (fun k e=>(h.fn k e).1))).trans (Touch.set h.fb _)
   have HK2:=G6 K2;have hbn:w.heap.size+1≠wr.heap.size:=by have:=h.lt;omega
   have hbl:=h.lt;clear h K2;go_wp2_with fail
   go_region_law (first
    |(refine zS (by kernel_rfl) _ _ (by rfl) (FQ va P.length vc) P (by rfl) (G5 KE w1 (G5 HB1)) w1.heap.size (by rfl) x (qC w1 x) (by omega) ?_;intro a2 c2 w2 ho2 hg2 hl2;obtain⟨m3,l3,g2,t2⟩:=G5 HK2 w1 w2 a2 c2 (G5 HB1) ho2 hg2 hl2;have HG2:=G6 g2;have HT2:=G6 ((G5 hT).trans t2);clear ho2 hg2 hl2 g2 t2)
    |(go_simp;refine(CX _).mono ?_;rintro e w1 ⟨rfl,hb1⟩;have HB1:Hid (B0 wr w1):=(by first|exact GU (I8 hb1)|exact GU hb1);obtain⟨e3,k3,hbn2,d3a⟩:=G5 K1 w1 (G5 HB1);clear hb1))
   all_goals
    go_wp2_with fail
    go_roundg (t.ns.length-(k+1))
    case measure=>omega
    case rel=>exact⟨k+1,_,rfl,by omega,A8 _,(by rw[G5 HT1];exact HG2),HT2⟩
  .obtain rfl:k=t.ns.length:=by omega
   clear hBw;go_wp2_with fail;refine(G5 CI wr (G5 HBw)).mono ?_;rintro e w1 ⟨vs',rfl,ho,hb1⟩;have h:=(G5 hG).next hb1;have c2:=h.c2;have f2:=h.fz 2;have g2:=(G5 hG).se (V:=w1) (vs':=vs') (ss':=t.ss) (fun k hk=>by omega) ⟨hb1.os,hb1.tape,hb1.output,hb1.size,fun k hk _=>hb1.block k hk⟩ (ho.lower (AY _)) (by
    rcases ho with⟨rfl,_⟩|⟨g,cap,rfl,hB,_⟩
    .exact .inl rfl
    .exact .inr ⟨g,hB,rfl⟩)
   have hne:w.heap.size+1≠w.heap.size:=by omega
   rw[List.take_length]at g2;have HG2:=G6 (g2.cut (G:=fun k=>w.heap.size<=k) (fun k _ hk=>by omega));have HB2:=G6 (G8 (G5 HBw) hb1);obtain⟨sa',sc',rfl,_⟩:=ho.slice;clear h g2 ho hb1;go_wp2_with fail;go_ret;exact⟨w.heap.size+1,_,_,rfl,G5 HG2,(G5 HB2).setCell (by simp) _⟩
theorem U7(A:List Nd)(x:Nd)(B:List Nd):(A++x::B)[A.length]?=FZ x:=by simp
theorem jC(F:Nat->Prop)(b:Nat)(z:Int)(vn vs ve:FV)(ns A B:List Nd)(u:Nd)(ss:List Int)(es:List Ev)(p:List UInt8)(more:Int)(w:FU)
  (h:Grow w F b z vn vs ve ns ss es) (T:KD ns A u B p) (hl:ns.length<=400) (hk:u.k=2147483647):
  FW prog 229 #[P0 b,S0 p,I0 more] w fun e w'=>e=.returned (I0 6)/\Touch F w w':=by
 have CF:=fun W (hW:B0 w W)=>JU vn ns A B u p W (h.n.next hW).seq (by omega) T;obtain⟨g,cap,rfl,hr,hgb,hFg⟩:=h.fM (by rw[T.eq];simp);have c1:=h.c1;have HG:=G6 h;have HE:=G6 T.eq;have hlt:A.length<ns.length:=by rw[T.eq];simp
 clear h hr T;go_enter func229,ntmps229;go_wp2_with fail;refine(CF _ (AA _ _)).mono ?_;rintro e w1 ⟨rfl,hb1⟩;have g1:=(G5 HG).next hb1;have d1:=g1.c1;obtain⟨g',cap',he,hr,_,_⟩:=g1.fM (by rw[G5 HE];simp);simp only[AP,BD,ER,and_true]at he;obtain⟨rfl,_,rfl⟩:=he;have r6:=hr.row.n6 (i:=A.length) (x:=u) (by rw[G5 HE];exact U7 A u B);rw[hk,BI]at r6;have HB:=G6 hb1;clear CF c1 g1 hr hb1;go_wp2_with fail;go_ret;exact⟨rfl,Touch.of_below (G5 HB)⟩
theorem uY(F:Nat->Prop)(b:Nat)(z:Int)(vn vs ve:FV)(ns A B:List Nd)(u:Nd)(ss:List Int)(es:List Ev)(p:List UInt8)(more:Int)(w:FU)
  (h:Grow w F b z vn vs ve ns ss es) (hF:∀k,w.heap.size<=k->F k) (T:KD ns A u B p) (hl:ns.length<=400) (hk:0<=u.k/\u.k<2147483647) (hn:0<=u.n/\u.n<=1000) (hm: -1<=more/\more<=1) (hp:p.length<=140737488355328) (hes:es.length<=99999):
  FW prog 229 #[P0 b,S0 p,I0 more] w fun e w'=>e=.returned (I0 0)/\∃ve',Grow w' F b z vn vs ve' (A++bump z more u::B) ss (es++[⟨4,p⟩])/\Touch F w w':=by
 have CF:=fun W (hW:B0 w W)=>JU vn ns A B u p W (h.n.next hW).seq (by omega) T;obtain⟨g,cap,rfl,hr,hgb,hFg⟩:=h.fM (by rw[T.eq];simp);have c1:=h.c1;have HG:=G6 h;have HE:=G6 T.eq;have HF:=G6 hF;have hlt:A.length<ns.length:=by rw[T.eq];simp
 clear h hr T hF;go_enter func229,ntmps229;go_wp2_with fail;refine(CF _ (AA _ _)).mono ?_;rintro e w1 ⟨rfl,hb1⟩;have g1:=(G5 HG).next hb1;have d1:=g1.c1;have d0:=g1.c0;obtain⟨g',cap',he,hr,_,_⟩:=g1.fM (by rw[G5 HE];simp);simp only[AP,BD,ER,and_true]at he;obtain⟨rfl,_,rfl⟩:=he;have at':ns[A.length]?=FZ u:=by rw[G5 HE];exact U7 A u B
 have r4:=hr.row.n4 at';have r6:=hr.row.n6 at';have r8:=hr.row.n8 at';have z4:=hr.frozen (A.length*9+4);have z6:=hr.frozen (A.length*9+6);have z8:=hr.frozen (A.length*9+8);rw[BI]at r4 r6 r8;have hne:g≠b:=hgb;have hne':b≠g:=Ne.symm hgb;have hk1:=hk.1;have hk2:=hk.2;have hkn:¬u.k=2147483647:=by omega
 have g4:Grow (((w1.setCell ⟨g,A.length*9+8,FX⟩ (I0 (u.n+more))).setCell ⟨g,A.length*9+6,FX⟩ (I0 (u.k+1))).setCell ⟨g,A.length*9+4,FX⟩ (I0 z)) F b z (FQ (FZ ⟨g,0,FX⟩) ns.length cap) vs ve (A++bump z more u::B) ss es:=by
  have e0:=g1;rw[G5 HE]at e0;have e1:=e0.put (m:=⟨u.p,u.d,u.c,u.m,u.q,u.v,u.k,u.o,u.n+more⟩) (c:=8) (by omega) (v:=I0 (u.n+more)) rfl;have e2:=e1.put (m:=⟨u.p,u.d,u.c,u.m,u.q,u.v,u.k+1,u.o,u.n+more⟩) (c:=6) (by omega) (v:=I0 (u.k+1)) rfl;have e3:=e2.put (m:=bump z more u) (c:=4) (by omega) (v:=I0 z) rfl;rw[G5 HE];exact e3
 have T4:Touch F w (((w1.setCell ⟨g,A.length*9+8,FX⟩ (I0 (u.n+more))).setCell ⟨g,A.length*9+6,FX⟩ (I0 (u.k+1))).setCell ⟨g,A.length*9+4,FX⟩ (I0 z)):=
  (((Touch.of_below hb1).trans (Touch.set hFg _)).trans (Touch.set hFg _)).trans (Touch.set hFg _)
 have CT:=fun W (hW:Grow W F b z (FQ (FZ ⟨g,0,FX⟩) ns.length cap) vs ve (A++bump z more u::B) ss es) (hs:w.heap.size<=W.heap.size)=>fO F b z _ vs ve _ ss es 4 p W hW (fun k hk=>G5 HF k (by omega)) hp (by omega);have HG4:=G6 g4;have HT4:=G6 T4;have HCT:=G6 CT;clear CF c1 g1 hr hb1 at' g4 T4 CT;go_wp2_with fail;refine(G5 HCT _ (G5 HG4) (G5 HT4).size).mono ?_;rintro e w5 ⟨rfl,ve',g5,t5⟩;have HG5:=G6 g5;have HT5:=G6 ((G5 HT4).trans t5);clear g5 t5;go_wp2_with fail;go_ret;exact⟨rfl,ve',G5 HG5,G5 HT5⟩
theorem AH6(F:Nat->Prop)(b:Nat)(z:Int)(vn vs ve:FV)(ns A B:List Nd)(ss:List Int)(es:List Ev)(p:List UInt8)(w:FU)
  (h:Grow w F b z vn vs ve ns ss es) (G:lU ns A B p) (hl:ns.length<=400):
  FW prog 203 #[P0 b,S0 p] w fun e w'=>e=.returned (I0 7)/\Touch F w w':=by
 have CF:=fun W (hW:B0 w W)=>N7 vn ns A B p W (h.n.next hW).seq (by omega) G;have c1:=h.c1;obtain⟨na,nc,rfl,_⟩:=h.n.slice;clear h G;go_enter func203,ntmps203;go_wp2_with fail;refine(CF _ (AA _ _)).mono ?_;rintro e w1 ⟨rfl,hb1⟩;clear CF;go_wp2_with fail;go_ret;exact⟨rfl,Touch.of_below hb1⟩
theorem zT(F:Nat->Prop)(b:Nat)(z:Int)(vn vs ve:FV)(ns A B:List Nd)(u:Nd)(ss:List Int)(es:List Ev)(p:List UInt8)(w:FU)
  (h:Grow w F b z vn vs ve ns ss es) (T:KD ns A u B p) (hl:ns.length<=400) (hk:u.n≠0):
  FW prog 203 #[P0 b,S0 p] w fun e w'=>e=.returned (I0 10)/\Touch F w w':=by
 have CF:=fun W (hW:B0 w W)=>JU vn ns A B u p W (h.n.next hW).seq (by omega) T;obtain⟨g,cap,rfl,hr,hgb,hFg⟩:=h.fM (by rw[T.eq];simp);have c1:=h.c1;have HG:=G6 h;have HE:=G6 T.eq;have hlt:A.length<ns.length:=by rw[T.eq];simp
 clear h hr T;go_enter func203,ntmps203;go_wp2_with fail;refine(CF _ (AA _ _)).mono ?_;rintro e w1 ⟨rfl,hb1⟩;have g1:=(G5 HG).next hb1;have d1:=g1.c1;obtain⟨g',cap',he,hr,_,_⟩:=g1.fM (by rw[G5 HE];simp);simp only[AP,BD,ER,and_true]at he;obtain⟨rfl,_,rfl⟩:=he;have r8:=hr.row.n8 (i:=A.length) (x:=u) (by rw[G5 HE];exact U7 A u B);rw[BI]at r8;have hk':(u.n !=0)=true:=by simpa using hk
 have HB:=G6 hb1;clear CF c1 g1 hr hb1 hk;go_wp2_with fail;go_ret;exact⟨rfl,Touch.of_below (G5 HB)⟩
theorem jD(F:Nat->Prop)(b:Nat)(z:Int)(vn vs ve:FV)(ns A B:List Nd)(n:Nd)(ss:List Int)(es:List Ev)(p:List UInt8)(w:FU)(E:Int)(Post:FU->Prop)
  (h:Grow w F b z vn vs ve ns ss es) (hF:∀k,w.heap.size<=k->F k) (T:KD ns A n B p) (hl:ns.length<=400) (hk:n.n=0) (hp:p.length<=140737488355328) (hes:es.length<=99998)
  (hpar:∀W vn' ve',Grow W F b z vn' vs ve' (A++B) ss (es++[⟨2,p⟩])->w.heap.size<=W.heap.size->Touch F w W->FW prog 229 #[P0 b,S0 (IG p),I0 (-1)] W fun e w'=>e=.returned (I0 E)/\Post w'):
  FW prog 203 #[P0 b,S0 p] w fun e w'=>e=.returned (I0 E)/\Post w':=by
 have CF:=fun W (hW:B0 w W)=>JU vn ns A B n p W (h.n.next hW).seq (by omega) T;obtain⟨g,cap,rfl,hr,hgb,hFg⟩:=h.fM (by rw[T.eq];simp);have c1:=h.c1;have HG:=G6 h;have HE:=G6 T.eq;have HF:=G6 hF;have HP:=G6 hpar;have hlen:ns.length=A.length+B.length+1:=by rw[T.eq];simp;omega
 have hlt:A.length<ns.length:=by omega
 have HL:=G6 hlen;have CD:=fun W (ho:J8 W g cap (A++n::B))=>zH g cap A B n ns.length W ho (G5 HL) hl;have CS:=fun W=>MZ p W;have HCD:=G6 CD;have HCS:=G6 CS;clear h hr T hF hpar CD CS hlen;go_enter func203,ntmps203;go_wp2_with fail;refine(CF _ (AA _ _)).mono ?_;rintro e w1 ⟨rfl,hb1⟩;have g1:=(G5 HG).next hb1;have d1:=g1.c1;obtain⟨g',cap',he,hr,_,_⟩:=g1.fM (by rw[G5 HE];simp);simp only[AP,BD,ER,and_true]at he;obtain⟨rfl,_,rfl⟩:=he;have r8:=hr.row.n8 (i:=A.length) (x:=n) (by rw[G5 HE];exact U7 A n B);rw[BI,hk]at r8;have HB:=G6 hb1;have HG1:=G6 g1;have HR:=G6 (show J8 w1 g cap (A++n::B) by rw[<-G5 HE];exact hr);clear CF c1 g1 hr hb1;go_wp2_with fail;rw[show ((A.length:Int)+1)=((A.length+1:Nat):Int)from by omega];refine(G5 HCD _ (G5 HR)).mono ?_;rintro e w2 ⟨rfl,ho2,hg2⟩;have m1:w2.cell? ⟨b,1,FX⟩=FZ (FQ (FZ ⟨g,0,FX⟩) ns.length cap):=hg2.cell d1 (fun e=>hgb (BN e).symm);have l1:w2.frozen? ⟨b,1,FX⟩=false:=(World.frozen?_of_block (hg2.block b (G5 HG1).lt (fun e=>hgb (BN e).symm))).trans ((G5 HG1).fz 1);have g2:=(G5 HG1).nd (vn':=FQ (FZ ⟨g,0,FX⟩) (A.length+B.length) cap) (ns':=A++B) (fun k hk=>G5 HF k (by have:=(G5 HB).size;omega)) hg2 (.inr ⟨g,cap,by rw[AO],AY _,ho2⟩) (.inl rfl);have t2:Touch F w (w2.setCell ⟨b,1,FX⟩ (FQ (FZ ⟨g,0,FX⟩) (A.length+B.length) cap)):=((Touch.of_below (G5 HB)).trans (Touch.UR hg2 (fun k e=>by cases e;exact hFg))).trans (Touch.set g2.fb _);have HG2:=G6 g2;have HT2:=G6 t2;clear g2 t2 ho2 hg2 d1 r8 HR;go_wp2_with fail;refine(fO F b z _ vs ve _ ss es 2 p _ (G5 HG2) (fun k hk=>G5 HF k (by have:=(G5 HT2).size;omega)) hp (by omega)).mono ?_;rintro e w3 ⟨rfl,ve',g3,t3⟩;have HG3:=G6 g3;have HT3:=G6 ((G5 HT2).trans t3);clear g3 t3 m1 l1;go_wp2_with fail;refine(G5 HCS _).mono ?_;rintro e w4 ⟨rfl,hb4⟩;have HG4:=G6 ((G5 HG3).next hb4);have HT4:=G6 ((G5 HT3).trans (Touch.of_below hb4));clear hb4;go_wp2_with fail;refine(G5 HP _ _ _ (G5 HG4) (G5 HT4).size (G5 HT4)).mono ?_;rintro e w5 ⟨rfl,hp5⟩;have HP5:=G6 hp5;clear hp5;go_wp2_with fail;go_ret;exact⟨rfl,G5 HP5⟩
theorem uZ(F:Nat->Prop)(b:Nat)(z:Int)(vn vs ve:FV)(ns A B A' B':List Nd)(n u:Nd)(ss:List Int)(es:List Ev)(p:List UInt8)(w:FU)
  (h:Grow w F b z vn vs ve ns ss es) (hF:∀k,w.heap.size<=k->F k) (T:KD ns A n B p) (T':KD (A++B) A' u B' (IG p)) (hl:ns.length<=400) (hk:n.n=0) (hu:0<=u.k/\u.k<2147483647) (hn:0<=u.n/\u.n<=1000) (hp:p.length<=140737488355328) (hd:(IG p).length<=140737488355328) (hes:es.length<=99998):
  FW prog 203 #[P0 b,S0 p] w fun e w'=>e=.returned (I0 0)/\∃vn' ve',Grow w' F b z vn' vs ve' (rmN z ns p) ss (es++[⟨2,p⟩,⟨4,IG p⟩])/\Touch F w w':=by
 refine jD F b z vn vs ve ns A B n ss es p w 0 _ h hF T hl hk hp hes (fun W vn' ve' hG hs ht=>?_);have hlen:(A++B).length<=400:=by have:=congrArg List.length T.eq;simp at this⊢;omega
 refine(uY F b z vn' vs ve' (A++B) A' B' u ss _ (IG p) (-1) W hG (fun k hk=>hF k (by omega)) T' hlen hu hn (by omega) hd (by simp;omega)).mono ?_;rintro e w' ⟨rfl,ve2,g,t⟩;refine⟨rfl,vn',ve2,?_,ht.trans t⟩;rw[rmN,T.drop,T'.bump];simpa using g
theorem jE(F:Nat->Prop)(b:Nat)(z:Int)(vn vs ve:FV)(ns A B A' B':List Nd)(n u:Nd)(ss:List Int)(es:List Ev)(p:List UInt8)(w:FU)
  (h:Grow w F b z vn vs ve ns ss es) (hF:∀k,w.heap.size<=k->F k) (T:KD ns A n B p) (T':KD (A++B) A' u B' (IG p)) (hl:ns.length<=400) (hk:n.n=0) (hu:u.k=2147483647) (hp:p.length<=140737488355328) (hes:es.length<=99998):
  FW prog 203 #[P0 b,S0 p] w fun e w'=>e=.returned (I0 6)/\Touch F w w':=by
 refine jD F b z vn vs ve ns A B n ss es p w 6 _ h hF T hl hk hp hes (fun W vn' ve' hG hs ht=>?_);have hlen:(A++B).length<=400:=by have:=congrArg List.length T.eq;simp at this⊢;omega
 refine(jC F b z vn' vs ve' (A++B) A' B' u ss _ (IG p) (-1) W hG T' hlen hu).mono ?_;rintro e w' ⟨rfl,t⟩;exact⟨rfl,ht.trans t⟩
