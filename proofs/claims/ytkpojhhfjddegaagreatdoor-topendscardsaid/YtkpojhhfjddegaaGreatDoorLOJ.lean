/-
  Part.
-/
import Derived.Test.YtkpojhhfjddegaaGreatDoorLOD
import Derived.Test.YtkpojhhfjddegaaGreatDoorLOI
set_option maxRecDepth 20000
set_option maxHeartbeats 8000000
namespace Go.Proofs.YtkpojhhfjddegaaGreatDoor
open Go.RowKit Go.Proofs.Tryz
open _root_.Nat renaming le_refl->A8,zero_le->AZ,zero_add->BJ,add_sub_cancel_left->FH
open Go.RowKit.Below renaming refl->AA
open _root_.Array renaming getElem?_eq_some_iff->AL
open _root_.List renaming length_append->AP,getElem?_eq_some_iff->AV,getElem?_append_right->BD,length_cons->BH,append_nil->DV,length_nil->EZ
open Go.Value.slice renaming injEq->AQ
open Go.World renaming cell?->AX,frozen?->FC
open _root_.Option.some renaming injEq->BF,inj->BQ
open Go.Builtin renaming zeroCells->BI,copy_->EC
open Go.Addr renaming add_lit->BM
open Go.Addr.mk renaming injEq->EW
open Go.Region renaming wanted->FP
open Go.Value renaming slice->FV
open Go.Obj renaming cells->FW
open Go renaming World->FX,Value->FZ,Calls->G5
open _root_.Option renaming none->G6,some->G7
variable{W V:FX}{b:Nat}{n:Nd}{F:Nat->Prop}{z:Int}{vn vs ve:FZ}{ns:List Nd}{ss:List Int}{es:List Ev}
theorem CM0:(prog.info? 3).map (fun i=>(i.zero,i.size,i.bytes))=G7 (G7 (I0 0),1,8):=by kernel_rfl
theorem A36:∃i0,prog.info? 3=G7 i0/\i0.zero=G7 (I0 0)/\i0.size=1/\i0.bytes=8:=by
 obtain⟨i0,h,e⟩:=Option.map_eq_some_iff.1 CM0;simp only[Prod.mk.injEq]at e;exact⟨i0,h,e⟩
def XU:List FZ:=[I0 0]
theorem C69(w:FX)(ty:TypeId)(b o c:Nat)(hc:∀j,j<1->(w.cell? ⟨b,o+j,G6⟩).isSome=true)(hf:∀j,j<1->w.frozen? ⟨b,o+j,G6⟩=false):
  (Builtin.clear_ #[50] ty #[FV (G7 ⟨b,o,G6⟩) 1 c]).run prog w=.ok (.tuple #[]) (w.setCells b o XU):=by
 have hzc:(BI (I0 0).cells 1).toList=XU:=by kernel_rfl
 have hst:=run_storeCells_cells (P:=prog) b o XU 0 w (fun j hj=>hc j (by simpa [XU]using hj)) (fun j hj=>hf j (by simpa [XU]using hj)) (by simp[XU,Value.oneCell']);simp only[Nat.add_zero]at hst;simp[Builtin.clear_,run_underlying underlying50,hzc,hst]
theorem A37(g cap:Nat)(A B:List Int)(f:Int)(n:Nat)(w:FX)(ho:JB w g cap (A++f::B))(hn:n=A.length+B.length+1)(hsm:n<=2147483647):
  G5 prog 224 #[FV (G7 ⟨g,0,G6⟩) n cap,I0 A.length,I0 (A.length+1:Nat)] w fun e w'=>
   e=.returned (FV (G7 ⟨g,0,G6⟩) (A.length+B.length) cap)/\JB w' g cap (A++B)/\w.grownBy w' (G7 g):=by
 obtain⟨i0,hi0,hz0,hz1,hz2⟩:=A36;have hle:=ho.le;have hcl:=ho.capLe;simp only[maxLen]at hcl;rw[AP,BH]at hle;have hrow:=ho.row;obtain⟨AD,hAD,hsrc⟩:∃AD:Addr,(if cap=A.length+1 then G7 (⟨g,0,G6⟩:Addr)else G7 ⟨g,(A.length+1),G6⟩)=G7 AD/\Hid (∀t u,(GK B)[t]?=G7 u->w.drew.cell? (AD.add t)=G7 u):=by
  by_cases h:cap=A.length+1
  .refine⟨⟨g,0,G6⟩,by simp[h],fun t u hu=>?_⟩;have h0:B=[]:=List.eq_nil_of_length_eq_zero (by omega);rw[h0]at hu;simp[TL]at hu
  .refine⟨⟨g,(A.length+1),G6⟩,by simp[h],fun t u hu=>?_⟩;rw[BM];have:=hrow ((A.length+1)+t) u (by
    rw[I8,BD (by rw[J8];omega),J8,JV,BD (by rw[Lay.len];show 1<=_;omega)];rw[Lay.len,<-hu];congr 1;show _-1=_;omega)
   rw[BJ]at this;exact this
 have s1:Hid ((GK B).length=B.length*1):=(J8 B).trans (Nat.mul_one _).symm;have s2:Hid (∀u∈GK B,u.oneCell'=true):=JR B;have s3:Hid (∀t,t<(GK B).length->(w.drew.cell? ⟨g,0+A.length*1+t,G6⟩).isSome=true/\w.drew.frozen? ⟨g,0+A.length*1+t,G6⟩=false):=by
  intro t ht;rw[J8]at ht;exact⟨ho.AN8 (by omega),ho.frozen _⟩
 obtain⟨W1,hW1⟩:∃W1,W1=w.drew.setCells g (0+A.length*1) (GK B):=⟨_,rfl⟩;have ho1:JB W1 g cap (A++B):=by rw[hW1,BJ,Nat.mul_one];exact ho.drew.rZ B (by omega)
 have hg1:w.grownBy W1 (G7 g):=by rw[hW1];have:=I9 (g:=g) (GK B) (0+A.length*1) w.drew;exact⟨this.os,this.tape,this.output,this.size,this.block⟩
 have CV9:∀ty c,(Builtin.clear_ #[50] ty #[FV (G7 ⟨g,(A.length+B.length),G6⟩) 1 c]).run prog W1=.ok (.tuple #[]) (W1.setCells g ((A.length+B.length)) XU):=fun ty c=>
  C69 W1 ty g _ c (fun j hj=>ho1.AN8 (by omega)) (fun j hj=>ho1.frozen _)
 have FIN:Hid (JB (W1.setCells g ((A.length+B.length)) XU) g cap (A++B)/\w.grownBy (W1.setCells g ((A.length+B.length)) XU) (G7 g)):=
  ⟨ho1.CL7 XU _ (by rw[AP];omega) (by simp[XU];omega),IV hg1 (I9 _ _ _)⟩
 have hW:Hid (W1=w.drew.setCells g (0+A.length*1) (GK B)):=hW1;have hic:A.length<=cap:=by omega
 have hjc:A.length+1<=cap:=by omega
 have hne:¬ (cap=A.length+B.length):=by omega
 have hb1:(0:Int)<=(A.length:Int)+1:=by omega
 have hb2:(A.length:Int)<=(A.length:Int)+(B.length:Int):=by omega
 have hb3:(0:Int)<=(A.length:Int)+(B.length:Int):=by omega
 have hs1:A.length+B.length+1-(A.length+B.length)=1:=by omega
 clear hW1 ho1 hg1 hrow ho;subst hn;go_enter func224,ntmps224;go_wp2_with fail
 go_region_law (refine step_append_room rfl (.tmp 22) (.tmp 25) 50 rfl 3 i0 1 underlying50 hi0 hz1 g 0 A.length cap (by simp[Act.eval,Act.put]) AD B.length (cap-(A.length+1)) (GK B) (by simp[Act.eval,Act.put]) s1.out hsrc.out s2.out (by omega) s3.out ?_;rw[<-hW.out])
 go_wp2
 go_ret;exact⟨rfl,FIN.out⟩
theorem AD4(w:FX)(ty:TypeId)(b o dLen dCap:Nat)(a:Addr)(sLen sCap:Nat)(cs:List FZ)(hn:cs.length=Nat.min sLen dLen)
  (hsrc:∀j v,cs[j]?=G7 v->w.cell? (a.add j)=G7 v) (hc:∀j,j<cs.length->(w.cell? ⟨b,o+j,G6⟩).isSome=true) (hf:∀j,j<cs.length->w.frozen? ⟨b,o+j,G6⟩=false) (h1:∀v∈cs,v.oneCell'=true):
  (EC #[50,50] ty #[FV (G7 ⟨b,o,G6⟩) dLen dCap,FV (G7 a) sLen sCap]).run prog w=.ok (goInt (Nat.min sLen dLen)) (w.setCells b o cs):=by
 have hl:=run_loadCells_list (P:=prog) w a cs hsrc;have hst:=run_storeCells_cells (P:=prog) b o cs 0 w (by simpa using hc) (by simpa using hf) h1;obtain⟨i0,hi0,hz0,hz1,hz2⟩:=A36;simp[EC,run_underlying underlying50,Builtin.lenOf,Builtin.firstCells,sizeOf,typeInfo,hi0,hz1,<-hn,hl,hst]
theorem A38(v:FZ)(A:List Int)(x:Int)(B b:Nat)(w:FX)(ho:H6 w B v A)(hB:B<=w.heap.size)(hl:A.length<=2147483647)(h1:JM w b x):
  G5 prog 223 #[v,I0 A.length,FV (G7 ⟨b,0,G6⟩) 1 1] w fun e w'=>
   ∃v',e=.returned v'/\H6 w' B v' (A++[x])/\w.grownBy w' v.ownBlock/\(v'.ownBlock=v.ownBlock\/v'.ownBlock=G7 w.heap.size):=by
 obtain⟨i0,hi0,hz0,hz1,hz2⟩:=A36;have hrow:=ho.row;have HR:=G9 hrow;have H1:=G9 h1.row;have V:∃a c,v=FV a A.length c/\A.length<=c:=by
  rcases ho with⟨rfl,rfl⟩|⟨g,cap,rfl,_,h⟩
  .exact⟨G6,0,rfl,A8 _⟩
  .exact⟨_,cap,rfl,h.le⟩
 obtain⟨a,c,rfl,hc⟩:=V;clear ho hrow h1;rcases Nat.lt_or_ge A.length c with hcl|hcl
 .have hne:¬c=A.length:=by omega
  go_enter func223,ntmps223;go_wp2_with (at_builtin;refine wpList_append_own_at _ rfl _ _ 50 rfl B 3 i0 _ 1 8 underlying50 hi0 hz0 hz1 hz2 rfl (by decide) _ A.length (GK A) rfl (G8 HR) ⟨b,0,G6⟩ 1 1 [I0 x] rfl (by rfl) ?qc2 ((Lay.one x)) ?qc4 ?qc5 hB ?_)
  case qc2=>
   intro j u hj;rw[BM];exact G8 H1 j u hj
  case qc4=>simp only[maxLen];omega
  case qc5=>omega
  intro v' w1 hown hgrow _ hloc
  go_wp2
  go_ret;exact⟨v',rfl,H6.LC (by rw[AP,JH];exact hown),hgrow,hloc⟩
 .obtain rfl:c=A.length:=by omega
  go_enter func223,ntmps223;go_wp2_with (at_builtin;refine wpList_append_own_at _ rfl _ _ 50 rfl B 3 i0 _ 1 8 underlying50 hi0 hz0 hz1 hz2 rfl (by decide) _ A.length (GK A) rfl (G8 HR) ⟨b,0,G6⟩ 1 1 [I0 x] rfl (by rfl) ?qc2 ((Lay.one x)) ?qc4 ?qc5 hB ?_)
  case qc2=>
   intro j u hj;rw[BM];exact G8 H1 j u hj
  case qc4=>simp only[maxLen];omega
  case qc5=>omega
  intro v' w1 hown hgrow _ hloc
  go_wp2
  go_ret;exact⟨v',rfl,H6.LC (by rw[AP,JH];exact hown),hgrow,hloc⟩
theorem sH(g cap:Nat)(A R:List Int)(y x:Int)(n b:Nat)(w:FX)(ho:JB w g cap (A++y::R))(hn:n=A.length+R.length+1)(hsm:n<=2147483647)(hroom:n+1<=cap)(h1:JM w b x)(hbg:b≠g):
  G5 prog 223 #[FV (G7 ⟨g,0,G6⟩) n cap,I0 A.length,FV (G7 ⟨b,0,G6⟩) 1 1] w fun e w'=>
   e=.returned (FV (G7 ⟨g,0,G6⟩) (n+1) cap)/\JB w' g cap (A++x::y::R)/\w.grownBy w' (G7 g):=by
 have hcl:=ho.capLe;simp only[maxLen]at hcl;have hrow:=ho.row;have B21:w.shape? g=G7 (3,cap):=by
  obtain⟨rest,q1,q2,_⟩:=ho;rw[AP,BH,show Lay.k Int=1 from rfl,Nat.mul_one,Nat.mul_one]at q2;simp[World.shape?,q1,J8];exact⟨rfl,q2⟩
 have B22:w.shape? b=G7 (3,1):=by unfold JM at h1;simp[World.shape?,h1];exact⟨rfl,rfl⟩
 have hfb:∀j,w.frozen? ⟨b,j,G6⟩=false:=fun j=>by unfold JM at h1;simp[FC,h1]
 have hov:∀lb cb,(callFunc 250 #[FV (G7 ⟨b,0,G6⟩) 1 1,FV (G7 ⟨g,(A.length+1),G6⟩) lb cb]).run prog w=.ok (.value (.bool false)) w:=fun lb cb=>by
  rw[run_callFunc_extern func250 (by kernel_rfl) (by kernel_rfl) (by kernel_rfl) (e:=Extern.SlicesOverlaps.overlaps #[50,50] #[4]) (by kernel_rfl),
   Lib.run_overlaps_apart w 50 4 3 underlying50 1 sizeOf3 ⟨b,0,G6⟩ ⟨g,(A.length+1),G6⟩ 1 1 lb cb hbg 3 3 1 cap B22 B21 (by omega) (hfb 0) (hfb 1)]
  rfl
 obtain⟨W1,hW1⟩:∃W1,W1=w.drew.setCells g ((A.length+1)) (GK (y::R)):=⟨_,rfl⟩;have ho1:JB W1 g cap (A++y::y::R):=by
  have h:JB w.drew g cap ((A++[y])++R):=by rw[List.append_assoc];exact ho
  have:=h.rZ (y::R) (by simp;omega);rw[hW1];simpa using this
 have hg1:w.grownBy W1 (G7 g):=by rw[hW1];have:=I9 (g:=g) (GK (y::R)) ((A.length+1)) w.drew;exact⟨this.os,this.tape,this.output,this.size,this.block⟩
 have hcp1:∀ty dc sc,(EC #[50,50] ty #[FV (G7 ⟨g,(A.length+1),G6⟩) (n-A.length) dc,FV (G7 ⟨g,A.length,G6⟩) (n+1-A.length) sc]).run prog w.drew=.ok (goInt (Nat.min (n+1-A.length) (n-A.length))) W1:=fun ty dc sc=>by
  rw[hW1];exact AD4 w.drew ty g _ _ dc ⟨g,A.length,G6⟩ _ sc (GK (y::R)) (by rw[J8];simp only[Nat.min_def,BH];split<;>omega)
   (fun j v hj=>by
    rw[BM];have:=hrow (A.length+j) v (by rw[I8,BD (by rw[J8];omega),J8,FH];exact hj);rw[BJ]at this;exact this)
   (fun j hj=>by rw[J8]at hj;exact ho.AN8 (by simp at hj;omega)) (fun j _=>ho.frozen _) (JR _)
 have hcp2:∀ty dc,(EC #[50,50] ty #[FV (G7 ⟨g,A.length,G6⟩) (n+1-A.length) dc,FV (G7 ⟨b,0,G6⟩) 1 1]).run prog W1=.ok (goInt (Nat.min 1 (n+1-A.length))) (W1.setCells g (A.length) [I0 x]):=fun ty dc=>
  AD4 W1 ty g _ _ dc ⟨b,0,G6⟩ 1 1 [I0 x] (by simp only[Nat.min_def,BH,EZ];split<;>omega)
   (fun j v hj=>by
    rw[BM];have hb2:W1.heap[b]?=w.heap[b]? :=hg1.block b (by unfold JM at h1;exact(AL.1 h1).1) (fun e=>hbg (BQ e));have h2:JM W1 b x:=hb2.trans h1;exact h2.row j v hj)
   (fun j hj=>ho1.AN8 (by simp at hj;omega)) (fun j _=>ho1.frozen _) ((Lay.one x))
 have FIN:Hid (JB (W1.setCells g (A.length) [I0 x]) g cap (A++x::y::R)/\w.grownBy (W1.setCells g (A.length) [I0 x]) (G7 g)):=
  ⟨ho1.CX9 x,IV hg1 (I9 _ _ _)⟩
 have hin:A.length<n:=by omega
 have C59:(A.length:Int)<(n:Int):=by omega
 have hw1:IntKind.i64.wrap ((A.length:Int)+1)=(A.length:Int)+1:=by rw[IntKind.wrap_i64];omega
 have hb1:(0:Int)<=(A.length:Int)+1:=by omega
 have hb2:¬ (cap=A.length+1):=by omega
 have hb3:(A.length:Int)<=(n:Int)+1:=by omega
 have hb4:¬ (cap=A.length):=by omega
 have hb5:(A.length:Int)+1<=(n:Int)+1:=by omega
 have hb6:¬ ((cap:Int)<(n:Int)+1):=by omega
 have hz2:¬ ((A.length:Int)=(n:Int)):=by omega
 have htn:((A.length:Int)+1).toNat=A.length+1:=by omega
 clear hW1 ho1 hg1 hrow B21 B22 hfb ho h1 hn;go_enter func223,ntmps223;go_wp2_with (simp only[hov])
 go_region_law (refine MX rfl (.tmp 73) (.tmp 76) 50 50 rfl (FV (G7 ⟨g,(A.length+1),G6⟩) (n-A.length) (cap-(A.length+1))) (FV (G7 ⟨g,A.length,G6⟩) (n+1-A.length) (cap-A.length)) (by simp[Act.eval,Act.put]) (by simp[Act.eval,Act.put]) (hcp1 _ _ _) ?_)
 go_wp2_with (at_builtin;refine LG _ rfl _ _ 50 50 rfl _ _ rfl rfl (hcp2 _ _) ?_);go_ret;exact⟨rfl,FIN.out⟩
theorem CM1(k:Nat):(BI (I0 0).cells k).size=k:=by
 simp[BI,Value.cells]
theorem xI(g cap:Nat)(A R:List Int)(y x:Int)(n b:Nat)(w:FX)(ho:JB w g cap (A++y::R))(hn:n=A.length+R.length+1)(hsm:n<=2147483647)(hroom:cap<n+1)(h1:JM w b x):
  G5 prog 223 #[FV (G7 ⟨g,0,G6⟩) n cap,I0 A.length,FV (G7 ⟨b,0,G6⟩) 1 1] w fun e w'=>
   ∃cap',e=.returned (FV (G7 ⟨w.heap.size,0,G6⟩) (n+1) cap')/\JB w' w.heap.size cap' (A++x::y::R)/\B0 w w':=by
 have hcap:cap=n:=by have:=ho.le;simp at this;omega
 obtain⟨i0,hi0,hz0,hz1,hz2⟩:=A36;have hrow:=ho.row;have hgw:=ho.lt;have hbw:b<w.heap.size:=by unfold JM at h1;exact(AL.1 h1).1
 have hold:(Builtin.firstCells i0.size A.length (FV (G7 ⟨g,0,G6⟩) A.length cap)).run prog w.drew=.ok (GK A).toArray w.drew:=by
  rw[hz1];exact run_firstCells_some w.drew 1 A.length ⟨g,0,G6⟩ A.length cap (GK A) ((J8 A).trans (Nat.mul_one _).symm) (fun j v hj=>by
   rw[BM];exact hrow j v (by rw[I8,List.getElem?_append_left (AV.1 hj).1];exact hj))
 obtain⟨G,hG⟩:∃G,G=grownCap w (n+1) cap 3:=⟨_,rfl⟩;have hGn:n+1<=G:=by rw[hG];exact grownCap_ge w _ _ _
 have hGm:G<=maxLen:=by rw[hG];exact grownCap_le_maxLen w (n+1) cap _ (by unfold maxLen;omega)
 have hG63:G<=9223372036854775807:=by have:=hGm;unfold maxLen at this;omega
 obtain⟨ROW,hROW⟩:∃ROW:Array FZ,ROW=(GK A).toArray++BI (I0 0).cells (n+1-A.length)++BI (I0 0).cells (G-(n+1)):=⟨_,rfl⟩;obtain⟨W1,hW1⟩:∃W1,W1=w.drew.alloc (FW ROW 3):=⟨_,rfl⟩;have hik:A.length+(n+1-A.length)=n+1:=by omega
 have hrz:∀ty,(Builtin.append_ #[50,3] ty #[FV (G7 ⟨g,0,G6⟩) A.length cap,I0 ((n:Int)+1-(A.length:Int))]).run prog w=
   .ok (FV (G7 ⟨w.heap.size,0,G6⟩) (n+1) G) W1:=fun ty=>by
  have h:=Lib.run_append_grow_zeros w 50 3 ty 3 i0 _ .i64 .i64 underlying50 underlying3 hi0 hz0 (G7 ⟨g,0,G6⟩) A.length cap (GK A) hold (n+1-A.length) (by omega) (by omega) (by omega) (by omega) (by rw[hz2];omega) (by rw[hz2,hik];exact growslice_fits hroom (by omega));rw[hik,<-hG,<-hROW,<-hW1]at h;rw[show (n:Int)+1-(A.length:Int)=((n+1-A.length:Nat):Int) by omega];exact h
 have ho1:JB W1 w.heap.size G A:=by
  refine⟨(BI (I0 0).cells (n+1-A.length)++BI (I0 0).cells (G-(n+1))).toList,?_,?_,by omega,hGm⟩
  .rw[hW1,hROW];have:=heap_alloc_new w.drew (FW ((GK A).toArray++BI (I0 0).cells (n+1-A.length)++BI (I0 0).cells (G-(n+1))) 3);refine Eq.trans this ?_
   congr 2
   apply Array.toList_inj.1
   simp
  .simp only[show Lay.k Int=1 from rfl,Array.length_toList,Array.size_append,CM1,Nat.mul_one];omega
 have hB1:B0 w W1:=by rw[hW1];exact((AA _ w).drew).alloc (A8 _) _
 obtain⟨W2,hW2⟩:∃W2,W2=W1.setCells w.heap.size (A.length) [I0 x]:=⟨_,rfl⟩;have ho2:JB W2 w.heap.size G (A++[x]):=by
  have h:JB W1 w.heap.size G (A++[]):=by rw[DV];exact ho1
  have:=h.rZ [x] (by simp;omega);rw[hW2];rw[JV,TL,DV]at this;exact this
 have hg2:W1.grownBy W2 (G7 w.heap.size):=by rw[hW2];exact I9 _ _ _
 have hB2:B0 w W2:=hB1.grown hg2 hB1.size (fun k e=>by cases e;exact A8 _);have hcpA:∀ty dc,(EC #[50,50] ty #[FV (G7 ⟨w.heap.size,A.length,G6⟩) (n+1-A.length) dc,FV (G7 ⟨b,0,G6⟩) 1 1]).run prog W1=.ok (goInt (Nat.min 1 (n+1-A.length))) W2:=fun ty dc=>by
  rw[hW2];exact AD4 W1 ty w.heap.size _ _ dc ⟨b,0,G6⟩ 1 1 [I0 x] (by simp only[Nat.min_def,BH,EZ];split<;>omega)
   (fun j v hj=>by rw[BM];exact(show JM W1 b x from(hB1.block b hbw).trans h1).row j v hj)
   (fun j hj=>ho1.AN8 (by simp at hj;omega)) (fun j _=>ho1.frozen _) ((Lay.one x))
 obtain⟨W3,hW3⟩:∃W3,W3=W2.drew.setCells w.heap.size ((A.length+1)) (GK (y::R)):=⟨_,rfl⟩;have hcpB:∀ty dc sc,(EC #[50,50] ty #[FV (G7 ⟨w.heap.size,(A.length+1),G6⟩) (n-A.length) dc,FV (G7 ⟨g,A.length,G6⟩) (n-A.length) sc]).run prog W2.drew=.ok (goInt (Nat.min (n-A.length) (n-A.length))) W3:=fun ty dc sc=>by
  rw[hW3];exact AD4 W2.drew ty w.heap.size _ _ dc ⟨g,A.length,G6⟩ _ sc (GK (y::R)) (by rw[J8];simp only[Nat.min_self,BH];omega)
   (fun j v hj=>by
    rw[BM];have:=hrow (A.length+j) v (by rw[I8,BD (by rw[J8];omega),J8,FH];exact hj);rw[BJ]at this;exact(hB2.cell (p:=⟨g,A.length+j,G6⟩) hgw).trans this)
   (fun j hj=>by rw[J8]at hj;exact ho2.drew.AN8 (by simp at hj;omega)) (fun j _=>ho2.drew.frozen _) (JR _)
 have FIN:Hid (JB W3 w.heap.size G (A++x::y::R)/\B0 w W3):=by
  refine⟨?_,?_⟩
  .have h:JB W2.drew w.heap.size G ((A++[x])++[]):=by rw[DV];exact ho2
   have:=h.rZ (y::R) (by simp;omega);rw[hW3];simpa using this
  .rw[hW3];exact hB2.drew.grown (I9 _ _ _) hB2.size (fun k e=>by cases e;exact A8 _)
 have hin:A.length<n:=by omega
 have C59:(A.length:Int)<(n:Int):=by omega
 have hw1:IntKind.i64.wrap ((A.length:Int)+1)=(A.length:Int)+1:=by rw[IntKind.wrap_i64];omega
 have hb1:(0:Int)<=(A.length:Int)+1:=by omega
 have hb2:¬ (G=A.length+1):=by omega
 have hb3:(A.length:Int)<=(n:Int)+1:=by omega
 have hb4:¬ (n=A.length):=by omega
 have hb5:(A.length:Int)+1<=(n:Int)+1:=by omega
 have hb6:¬ (G=A.length):=by omega
 have hb7:(A.length:Int)<=(n:Int):=by omega
 have hz3:¬ ((A.length:Int)=(n:Int)):=by omega
 have htn:((A.length:Int)+1).toNat=A.length+1:=by omega
 subst hcap;clear hn hROW hW1 hW2 hW3 hG hrow ho h1 ho1 ho2 hB1 hB2 hg2 hold hik;go_enter func223,ntmps223;go_wp2_with (first
  |(at_builtin;refine Lib.wpList_append_run _ rfl _ _ _ _ rfl _ _ rfl rfl _ _ (hrz _) ?_)
  |(at_builtin;refine LG _ rfl _ _ 50 50 rfl _ _ rfl rfl (hcpA _ _) ?_))
 go_region_law (refine MX rfl (.tmp 50) (.tmp 53) 50 50 rfl (FV (G7 ⟨w.heap.size,(A.length+1),G6⟩) (cap-A.length) (G-(A.length+1))) (FV (G7 ⟨g,A.length,G6⟩) (cap-A.length) (cap-A.length)) (by simp[Act.eval,Act.put]) (by simp[Act.eval,Act.put]) (hcpB _ _ _) ?_)
 go_wp2
 go_ret;exact⟨G,rfl,FIN.out⟩
theorem A39(v:FZ)(A R:List Int)(x:Int)(q:Nat)(w:FX)(ho:H6 w 0 v (A++R))(hl:(A++R).length<=2147483647)(h1:JM w q x)(hq:v.ownBlock≠G7 q):
  G5 prog 223 #[v,I0 A.length,FV (G7 ⟨q,0,G6⟩) 1 1] w fun e w'=>
   ∃v',e=.returned v'/\H6 w' 0 v' (A++x::R)/\w.grownBy w' v.ownBlock/\(v'.ownBlock=v.ownBlock\/∃k,w.heap.size<=k/\v'.ownBlock=G7 k):=by
 cases R with
 |nil=>
  rw[DV]at ho hl;refine(A38 v A x 0 q w ho (AZ _) hl h1).mono ?_;rintro e w' ⟨v',rfl,h2,h3,h4⟩;refine⟨v',rfl,h2,h3,?_⟩;rcases h4 with h|h
  .exact .inl h
  .exact .inr ⟨_,A8 _,h⟩
 |cons y R=>
  rcases ho with⟨_,h⟩|⟨g,cap,rfl,_,ho⟩
  .simp at h
  .have hn:(A++y::R).length=A.length+R.length+1:=by simp;omega
   by_cases hc:(A++y::R).length+1<=cap
   .refine(sH g cap A R y x _ q w ho hn hl hc h1 (fun e=>hq (by rw[e];rfl))).mono ?_;rintro e w' ⟨rfl,h2,h3⟩;exact⟨_,rfl,.inr ⟨g,cap,by simp;omega,AZ _,h2⟩,h3,.inl rfl⟩
   .refine(xI g cap A R y x _ q w ho hn hl (by omega) h1).mono ?_;rintro e w' ⟨cap',rfl,h2,h3⟩;exact⟨_,rfl,.inr ⟨w.heap.size,cap',by simp;omega,AZ _,h2⟩,⟨h3.os,h3.tape,h3.output,h3.size,fun k hk _=>h3.block k hk⟩,.inr ⟨_,A8 _,rfl⟩⟩
theorem NY(s:List UInt8)(w:FX)(hs:s.length<=281474976710656):
  G5 prog 92 #[S0 s] w (R0 w (S0 s)):=XH ⟨s.toArray⟩ w hs
theorem JM.JL(h:JM W b n)(j:Nat)(v:FZ)(hj:(MI n)[j]?=G7 v):W.cell? ⟨b,j,G6⟩=G7 v:=by
 have:=h.row j v hj;rwa[BJ]at this
theorem JM.J9(h:JM W b n)(j:Nat):W.frozen? ⟨b,j,G6⟩=false:=by
 unfold JM at h;simp[FC,h]
theorem JM.BN5(h:JM W b n)(hb:B0 W V):JM V b n:=by
 unfold JM at h⊢;exact(hb.block _ (AL.1 h).1).trans h
def WU:Nd:=⟨[],[],0,0,0,0,0,0,0⟩
theorem ZW(n:Nd)(w:FX)(hp:n.p.length<=140737488355328)(hd:n.d.length<=140737488355328):
  G5 prog 74 #[UO n] w (R0 w (UO n)):=by
 have C1:=fun W=>NY n.p W (by omega);have C2:=fun W=>NY n.d W (by omega);have X0:∀W,W=(w.alloc (FW (MI n).toArray 104)).alloc (FW (MI WU).toArray 104)->JM W w.heap.size n/\JM W (w.heap.size+1) WU/\B0 w W:=by
  rintro W rfl;refine⟨?_,?_,((AA _ _).alloc (A8 _) _).alloc (by simp) _⟩
  .unfold JM;exact(((AA (w.heap.size+1) (w.alloc (FW (MI n).toArray 104))).alloc (by simp) (FW (MI WU).toArray 104)).block _ (by omega)).trans (heap_alloc_new w _)
  .have:=heap_alloc_new (w.alloc (FW (MI n).toArray 104)) (FW (MI WU).toArray 104);rw[show (w.alloc (FW (MI n).toArray 104)).heap.size=w.heap.size+1 by simp]at this;exact this
 have X:=G9 X0;clear X0;unfold UO;go_enter func74,ntmps74;go_wp2_with fail;generalize hW0:(w.alloc _).alloc _=W0;obtain⟨x1,x2,x3⟩:=G8 X W0 hW0.symm;clear hW0 X;refine(C1 _).mono ?_;rintro e w1 ⟨rfl,hb1⟩;have y1:=x1.BN5 hb1;have e0:=y1.JL 0 _ rfl;have e1:=y1.JL 1 _ rfl;have f0:=y1.J9 0;have hs0:=IB e0;have Y1:=G9 y1;have Y2:=G9 (x2.BN5 hb1);have B1:=G9 (GI x3 hb1);clear y1 x1 x2 x3 hb1 C1;go_wp2_with fail;refine(C2 _).mono ?_;rintro e w2 ⟨rfl,hb2⟩;have y1:=(G8 Y1).BN5 hb2;have y2:=(G8 Y2).BN5 hb2;have B2:=G9 (GI (G8 B1) hb2);clear e0 e1 f0 hs0 C2 hb2 Y1 Y2;have c0:=y1.JL 0 _ rfl;have c1:=y1.JL 1 _ rfl;have c2:=y1.JL 2 _ rfl;have c3:=y1.JL 3 _ rfl;have c4:=y1.JL 4 _ rfl;have c5:=y1.JL 5 _ rfl;have c6:=y1.JL 6 _ rfl;have c7:=y1.JL 7 _ rfl;have c8:=y1.JL 8 _ rfl;have d0:=y2.JL 0 _ rfl;have d1:=y2.JL 1 _ rfl;have d2:=y2.JL 2 _ rfl;have d3:=y2.JL 3 _ rfl;have d4:=y2.JL 4 _ rfl;have d5:=y2.JL 5 _ rfl;have d6:=y2.JL 6 _ rfl;have d7:=y2.JL 7 _ rfl;have d8:=y2.JL 8 _ rfl;have f1:=y1.J9 1;have g0:=y2.J9 0;have g1:=y2.J9 1;have g2:=y2.J9 2;have g3:=y2.J9 3;have g4:=y2.J9 4;have g5:=y2.J9 5;have g6:=y2.J9 6;have g7:=y2.J9 7;have g8:=y2.J9 8;have hs1:=IB c1;have hne:w.heap.size≠w.heap.size+1:=by omega
 clear y1 y2;go_wp2_with fail;have BB:=G8 B2;exact bodyPost_ret (v:=UO n) (by simp[results,results74,go_sem,UO,d0,d1,d2,d3,d4,d5,d6,d7,d8]) rfl
  ⟨rfl,((((((((BB.setCell (by simp) _).setCell (by simp) _).setCell (by simp) _).setCell (by simp) _).setCell (by simp) _).setCell (by simp) _).setCell (by simp) _).setCell (by simp) _).setCell (by simp) _⟩
structure Grow(W:FX)(F:Nat->Prop)(b:Nat)(z:Int)(vn vs ve:FZ)(ns:List Nd)(ss:List Int)(es:List Ev):Prop where
 blk:W.heap[b]?=G7 (FW #[I0 z,vn,vs,ve] 241 (0,0))
 fb:F b
 n:H6 W 0 vn ns
 s:H6 W 0 vs ss
 e:H6 W 0 ve es
 fn:∀k,vn.ownBlock=G7 k->F k/\k≠b
 fs:∀k,vs.ownBlock=G7 k->F k/\k≠b
 fe:∀k,ve.ownBlock=G7 k->F k/\k≠b
 an:∀k,vn.ownBlock=G7 k->vs.ownBlock≠G7 k/\ve.ownBlock≠G7 k
 asn:∀k,vs.ownBlock=G7 k->ve.ownBlock≠G7 k
theorem Grow.lt(h:Grow W F b z vn vs ve ns ss es):b<W.heap.size:=(AL.1 h.blk).1
theorem Grow.next(h:Grow W F b z vn vs ve ns ss es)(hb:B0 W V):Grow V F b z vn vs ve ns ss es:=
 ⟨(hb.block _ h.lt).trans h.blk,h.fb,h.n.next hb,h.s.next hb,h.e.next hb,h.fn,h.fs,h.fe,h.an,h.asn⟩
theorem Grow.cut{G:Nat->Prop}(h:Grow W F b z vn vs ve ns ss es)(hg:∀k,k<W.heap.size->F k->G k):Grow W G b z vn vs ve ns ss es:=
 ⟨h.blk,hg b h.lt h.fb,h.n,h.s,h.e,fun k hk=>⟨hg k (h.n.low k hk) (h.fn k hk).1,(h.fn k hk).2⟩,fun k hk=>⟨hg k (h.s.low k hk) (h.fs k hk).1,(h.fs k hk).2⟩,fun k hk=>⟨hg k (h.e.low k hk) (h.fe k hk).1,(h.fe k hk).2⟩,h.an,h.asn⟩
theorem Grow.c0(h:Grow W F b z vn vs ve ns ss es):W.cell? ⟨b,0,G6⟩=G7 (I0 z):=by simp[AX,h.blk]
theorem Grow.c1(h:Grow W F b z vn vs ve ns ss es):W.cell? ⟨b,1,G6⟩=G7 vn:=by simp[AX,h.blk]
theorem Grow.c2(h:Grow W F b z vn vs ve ns ss es):W.cell? ⟨b,2,G6⟩=G7 vs:=by simp[AX,h.blk]
theorem Grow.c3(h:Grow W F b z vn vs ve ns ss es):W.cell? ⟨b,3,G6⟩=G7 ve:=by simp[AX,h.blk]
theorem Grow.fz(h:Grow W F b z vn vs ve ns ss es)(j:Nat):W.frozen? ⟨b,j,G6⟩=false:=by simp[FC,h.blk]
theorem Grow.ev{ve':FZ}{es':List Ev}(h:Grow W F b z vn vs ve ns ss es)(hF:∀k,W.heap.size<=k->F k)(hg:W.grownBy V ve.ownBlock)(he:H6 V 0 ve' es')(hl:ve'.ownBlock=ve.ownBlock\/ve'.ownBlock=G7 W.heap.size):
  Grow (V.setCell ⟨b,3,G6⟩ ve') F b z vn vs ve' ns ss es':=by
 have hbe:G7 b≠ve.ownBlock:=fun e=>(h.fe b e.symm).2 rfl;have hb:=h.lt;have hne:∀k,ve'.ownBlock=G7 k->F k/\k≠b/\vn.ownBlock≠G7 k/\vs.ownBlock≠G7 k:=by
  intro k hk;rcases hl with e|e
  .rw[e]at hk;exact⟨(h.fe k hk).1,(h.fe k hk).2,fun hn=>(h.an k hn).2 hk,fun hs=>h.asn k hs hk⟩
  .rw[e]at hk
   cases hk
   exact⟨hF _ (A8 _),by omega,fun hn=>by have:=h.n.low _ hn;omega,fun hs=>by have:=h.s.low _ hs;omega⟩
 refine⟨?_,h.fb,?_,?_,?_,h.fn,h.fs,fun k hk=>⟨(hne k hk).1,(hne k hk).2.1⟩,fun k hk=>⟨(h.an k hk).1,fun e=>(hne k e).2.2.1 hk⟩,fun k hk e=>(hne k e).2.2.2 hk⟩
 .rw[GV ve' ((hg.block b hb hbe).trans h.blk)];rfl
 .exact(h.n.grown hg (fun k hk e=>(h.an k hk).2 e.symm)).other (fun e=>(h.fn b e).2 rfl) _
 .exact(h.s.grown hg (fun k hk e=>h.asn k hk e.symm)).other (fun e=>(h.fs b e).2 rfl) _
 .exact he.other (fun e=>(hne b e).2.1 rfl) _
theorem Grow.nd{vn':FZ}{ns':List Nd}(h:Grow W F b z vn vs ve ns ss es)(hF:∀k,W.heap.size<=k->F k)(hg:W.grownBy V vn.ownBlock)(hn':H6 V 0 vn' ns')(hl:vn'.ownBlock=vn.ownBlock\/∃k,W.heap.size<=k/\vn'.ownBlock=G7 k):
  Grow (V.setCell ⟨b,1,G6⟩ vn') F b z vn' vs ve ns' ss es:=by
 have hbn:G7 b≠vn.ownBlock:=fun e=>(h.fn b e.symm).2 rfl;have hb:=h.lt;have hne:∀k,vn'.ownBlock=G7 k->F k/\k≠b/\vs.ownBlock≠G7 k/\ve.ownBlock≠G7 k:=by
  intro k hk;rcases hl with e|⟨j,hj,e⟩
  .rw[e]at hk;exact⟨(h.fn k hk).1,(h.fn k hk).2,(h.an k hk).1,(h.an k hk).2⟩
  .rw[e]at hk
   cases hk
   exact⟨hF _ hj,by omega,fun hs=>by have:=h.s.low _ hs;omega,fun hs=>by have:=h.e.low _ hs;omega⟩
 refine⟨?_,h.fb,?_,?_,?_,fun k hk=>⟨(hne k hk).1,(hne k hk).2.1⟩,h.fs,h.fe,fun k hk=>(hne k hk).2.2,h.asn⟩
 .rw[GV vn' ((hg.block b hb hbn).trans h.blk)];rfl
 .exact hn'.other (fun e=>(hne b e).2.1 rfl) _
 .exact(h.s.grown hg (fun k hk e=>(h.an k e.symm).1 hk)).other (fun e=>(h.fs b e).2 rfl) _
 .exact(h.e.grown hg (fun k hk e=>(h.an k e.symm).2 hk)).other (fun e=>(h.fe b e).2 rfl) _
theorem Grow.se{vs':FZ}{ss':List Int}(h:Grow W F b z vn vs ve ns ss es)(hF:∀k,W.heap.size<=k->F k)(hg:W.grownBy V vs.ownBlock)(hn':H6 V 0 vs' ss')(hl:vs'.ownBlock=vs.ownBlock\/∃k,W.heap.size<=k/\vs'.ownBlock=G7 k):
  Grow (V.setCell ⟨b,2,G6⟩ vs') F b z vn vs' ve ns ss' es:=by
 have hbn:G7 b≠vs.ownBlock:=fun e=>(h.fs b e.symm).2 rfl;have hb:=h.lt;have hne:∀k,vs'.ownBlock=G7 k->F k/\k≠b/\vn.ownBlock≠G7 k/\ve.ownBlock≠G7 k:=by
  intro k hk;rcases hl with e|⟨j,hj,e⟩
  .rw[e]at hk;exact⟨(h.fs k hk).1,(h.fs k hk).2,fun hn=>(h.an k hn).1 hk,h.asn k hk⟩
  .rw[e]at hk
   cases hk
   exact⟨hF _ hj,by omega,fun hs=>by have:=h.n.low _ hs;omega,fun hs=>by have:=h.e.low _ hs;omega⟩
 refine⟨?_,h.fb,?_,?_,?_,h.fn,fun k hk=>⟨(hne k hk).1,(hne k hk).2.1⟩,h.fe,fun k hk=>⟨fun e=>(hne k e).2.2.1 hk,(h.an k hk).2⟩,fun k hk=>(hne k hk).2.2.2⟩
 .rw[GV vs' ((hg.block b hb hbn).trans h.blk)];rfl
 .exact(h.n.grown hg (fun k hk e=>(h.an k hk).1 e.symm)).other (fun e=>(h.fn b e).2 rfl) _
 .exact hn'.other (fun e=>(hne b e).2.1 rfl) _
 .exact(h.e.grown hg (fun k hk e=>h.asn k e.symm hk)).other (fun e=>(h.fe b e).2 rfl) _
theorem Grow.put{g cap:Nat}{A B:List Nd}{m:Nd}{l:Nat}(h:Grow W F b z (FV (G7 ⟨g,0,G6⟩) l cap) vs ve (A++n::B) ss es){c:Nat}(hc:c<9){v:FZ}(hm:MI m=(MI n).set c v):
  Grow (W.setCell ⟨g,A.length*9+c,G6⟩ v) F b z (FV (G7 ⟨g,0,G6⟩) l cap) vs ve (A++m::B) ss es:=by
 have hgb:=(h.fn g rfl).2;refine⟨(Below.heap_setCell W ⟨g,_,G6⟩ v b (fun e=>hgb e.symm)).trans h.blk,h.fb,?_,?_,?_,h.fn,h.fs,h.fe,h.an,h.asn⟩
 .rcases h.n with⟨h1,_⟩|⟨g',cap',h1,h2,h3⟩
  .cases h1
  .simp only[AQ,BF,EW,and_true]at h1;obtain⟨rfl,rfl,rfl⟩:=h1;refine .inr ⟨g,cap,by simp,h2,?_⟩;exact h3.set (c:=c) (by exact hc) hm
 .exact h.s.other (fun e=>(h.an g rfl).1 e) _
 .exact h.e.other (fun e=>(h.an g rfl).2 e) _
theorem Grow.iZ(h:Grow W F b z vn vs ve ns ss es)(h0:ns≠[]):∃g cap,vn=FV (G7 ⟨g,0,G6⟩) ns.length cap/\JB W g cap ns/\g≠b/\F g:=by
 rcases h.n with⟨_,h1⟩|⟨g,cap,rfl,_,h3⟩
 .exact absurd h1 h0
 .exact⟨g,cap,rfl,h3,(h.fn g rfl).2,(h.fn g rfl).1⟩
theorem A41{w:FX}{ops:Array Oper}{o:Oper}{a:Act}{K:Act->FX->Prop}{Q:Exit->Act->FX->Prop}{E:Prop}(hgd:FP o (yielded ops a.tmps)=true)(s x:Operand)
  (ho:o.op=.call {callee:=.builtin .append,args:=#[s,x],argTypes:=#[188,188]})
  (v:FZ) (es:List Ev) (hs:a.eval s=v) (hown:H6 w 0 v es)
  (q:Nat) (hx:a.eval x=FV (G7 ⟨q,0,G6⟩) 1 1) (t:Ev) (hnews:JM w q t) (hl:es.length<=100000)
  (h:∀a' c' w',H6 w' 0 (FV a' (es.length+1) c') (es++[t])->w.grownBy w' v.ownBlock->((Value.slice a' (es.length+1) c').ownBlock=v.ownBlock\/(Value.slice a' (es.length+1) c').ownBlock=G7 w.heap.size)->K (a.put o.dst (FV a' (es.length+1) c')) w'):
  if FP o (yielded ops a.tmps)=true then Oper.wp prog o a w K Q else E:=by
 rw[if_pos hgd];obtain⟨i0,hi0,hz0,hz1,hz2⟩:=CX6;obtain⟨v',w',hr,h2,h3,_,h5⟩:=run_append_own_at (P:=prog) w 0 188 o.type 93 i0 _ 2 24 underlying188 hi0 hz0 hz1 hz2 rfl (by decide) v es.length (GK es) hown.row ⟨q,0,G6⟩ 1 1 (B02 t) rfl (SV hnews) (Lay.one t) (by simp only[maxLen];omega) (by omega) (AZ _);have h2':H6 w' 0 v' (es++[t]):=H6.LC (by rw[AP,JH];exact h2);obtain⟨a',c',rfl,_⟩:=h2'.slice;have hlen:(es++[t]).length=es.length+1:=by simp
 rw[hlen]at h2' hr h5;unfold Oper.wp execOp;simp only[ho,resolve,invoke,builtin,Sem.run_bind,Sem.run_pure,Result.andThen_ok,List.map_toArray,List.map_cons,List.map_nil,hs,hx,hr];exact h a' c' w' h2' h3 h5
theorem jA(F:Nat->Prop)(b:Nat)(z:Int)(vn vs ve:FZ)(ns:List Nd)(ss:List Int)(es:List Ev)(kind:Int)(p:List UInt8)(w:FX)
  (h:Grow w F b z vn vs ve ns ss es) (hF:∀k,w.heap.size<=k->F k) (hp:p.length<=140737488355328) (hl:es.length<=100000):
  G5 prog 227 #[P0 b,I0 kind,S0 p] w fun e w'=>
   e=.returned (.tuple #[])/\∃ve',Grow w' F b z vn vs ve' ns ss (es++[⟨kind,p⟩])/\Touch F w w':=by
 have C:=fun W=>NY p W (by omega);have c3:=h.c3;have f3:=h.fz 3;have HG:=G9 h;have HF:=G9 hF;obtain⟨ea,ec,rfl,_⟩:=h.e.slice;have K1:=G9 (fun w1 (hb1:B0 w w1)=>(⟨(h.next hb1).c3,(h.next hb1).fz 3,(h.next hb1).lt,((h.next hb1).next (GH _ _)).c3⟩:w1.cell? ⟨b,3,G6⟩=G7 (FV ea es.length ec)/\w1.frozen? ⟨b,3,G6⟩=false/\b<w1.heap.size/\(w1.alloc (FW #[I0 kind,S0 p] 93)).cell? ⟨b,3,G6⟩=G7 (FV ea es.length ec)));have KE:=G9 (fun w1 (hb1:B0 w w1)=>(h.next hb1).e.next (GH w1 (FW #[I0 kind,S0 p] 93)));have K2:∀ (w1 w2:FX) (a2:Option Addr) (c2:Nat),B0 w w1->H6 w2 0 (FV a2 (es.length+1) c2) (es++[⟨kind,p⟩])->(w1.alloc (FW #[I0 kind,S0 p] 93)).grownBy w2 (Value.slice ea es.length ec).ownBlock->
   ((Value.slice a2 (es.length+1) c2).ownBlock=(Value.slice ea es.length ec).ownBlock\/(Value.slice a2 (es.length+1) c2).ownBlock=G7 (w1.alloc (FW #[I0 kind,S0 p] 93)).heap.size)->
   w2.cell? ⟨b,3,G6⟩=G7 (FV ea es.length ec)/\w2.frozen? ⟨b,3,G6⟩=false/\Grow (w2.setCell ⟨b,3,G6⟩ (FV a2 (es.length+1) c2)) F b z vn vs (FV a2 (es.length+1) c2) ns ss (es++[⟨kind,p⟩])/\Touch F w (w2.setCell ⟨b,3,G6⟩ (FV a2 (es.length+1) c2)):=by
  intro w1 w2 a2 c2 hb1 ho2 hg2 hl2;have g1:=(h.next hb1).next (GH w1 (FW #[I0 kind,S0 p] 93));have n3:¬ (Value.slice ea es.length ec).ownBlock=G7 b:=fun e=>(h.fe b e).2 rfl;refine⟨hg2.cell g1.c3 (fun e=>n3 e.symm),(World.frozen?_of_block (hg2.block b g1.lt (fun e=>n3 e.symm))).trans (g1.fz 3),g1.ev (fun k hk=>hF k (by have:=hb1.size;simp at hk;omega)) hg2 ho2 hl2,?_⟩;exact(((Touch.of_below hb1).trans (Touch.of_below (GH _ _))).trans (Touch.VX hg2 (fun k e=>(h.fe k e).1))).trans (Touch.set h.fb _)
 have HK2:=G9 K2;clear h hF hp K2;go_enter func227,ntmps227;go_wp2_with fail
 go_region_law (first
  |(refine A41 (by kernel_rfl) _ _ (by rfl) (FV ea es.length ec) es (by rfl) (G8 KE w1 (G8 HB1)) w1.heap.size (by rfl) ⟨kind,p⟩ (A21 w1 kind p) hl ?_;intro a2 c2 w2 ho2 hg2 hl2;obtain⟨m3,l3,g2,t2⟩:=G8 HK2 w1 w2 a2 c2 (G8 HB1) ho2 hg2 hl2;have HG2:=G9 g2;have HT2:=G9 t2;clear ho2 hg2 hl2 g2 t2)
  |(go_simp;refine(C _).mono ?_;rintro e w1 ⟨rfl,hb1⟩;have HB1:Hid (B0 w w1):=(by first|exact hb1|exact IC hb1);obtain⟨d3,k3,hbn,d3a⟩:=G8 K1 w1 (G8 HB1);clear hb1))
 all_goals go_wp2_with fail
 all_goals go_end0
 all_goals exact⟨rfl,_,G8 HG2,G8 HT2⟩
theorem kV(a:Addr)(cap:Nat)(ss:List Int)(w:FX)(hl:ss.length<=2147483647)(hc:∀j u,(GK ss)[j]?=G7 u->w.cell? (a.add j)=G7 u):
  G5 prog 34 #[FV (G7 a) ss.length cap] w fun e w'=>∃v',e=.returned v'/\H6 w' w.heap.size v' ss/\B0 w w':=by
 have q22:∀ (w:FX) (a:Option Addr) (n c n' c':Nat),(binOp .eql 50 (FV a n c) (FV G6 n' c')).run prog w=.ok (.bool a.isNone) w:=fun w a n c n' c'=>Lib.run_eql_slice_nil w _ _ a n c n' c' underlying50;have H:Hid (∀j u,(GK ss)[j]?=G7 u->w.cell? (a.add j)=G7 u):=hc;clear hc;obtain⟨i0,hi0,hz0,hz1,hz2⟩:=A36;go_enter func34,ntmps34;go_wp2_with (at_builtin;refine wpList_append_own _ rfl _ _ 50 rfl w.heap.size 3 i0 _ 1 8 underlying50 hi0 hz0 hz1 hz2 rfl (by decide) _ _ _ rfl (World.ownsRow_made w #[] 0 (A8 _) (AZ _) (by simp)) a ss.length cap (GK ss) rfl ?qc1 ?qc2 ?qc3 ?qc4 ?qc5 ?qc6 ?_)
 case qc1=>exact(J8 ss).trans (Nat.mul_one _).symm
 case qc2=>
  intro j u hj;exact Lib.cell?_alloc_some _ (H.out j u hj)
 case qc3=>exact JR ss
 case qc4=>simp only[maxLen];omega
 case qc5=>omega
 case qc6=>simp
 intro v' w1 hown hgrow hnil
 go_wp2
 go_ret;refine⟨v',rfl,H6.LC hown,?_⟩;exact((AA _ w).alloc (A8 _) _).grown hgrow (by simp) (by intro k hk;simp[Value.ownBlock]at hk;omega)
theorem AO1(n c:Nat)(w:FX):
  G5 prog 34 #[FV G6 n c] w fun e w'=>e=.returned (N0)/\w'=w:=by
 have q22:∀ (w:FX) (a:Option Addr) (n c n' c':Nat),(binOp .eql 50 (FV a n c) (FV G6 n' c')).run prog w=.ok (.bool a.isNone) w:=fun w a n c n' c'=>Lib.run_eql_slice_nil w _ _ a n c n' c' underlying50;go_enter func34,ntmps34
 go_wp2
 go_ret;exact⟨rfl,rfl⟩
theorem fD(v:FZ)(ss:List Int)(w:FX)(hv:IK w v ss)(hl:ss.length<=2147483647):
  G5 prog 34 #[v] w fun e w'=>∃v',e=.returned v'/\H6 w' w.heap.size v' ss/\B0 w w':=by
 rcases hv with⟨a,cap,rfl,rfl,_⟩|⟨b,off,cap,rfl,_,_,hb,_,hr⟩
 .cases a with
  |none=>exact(AO1 0 cap w).mono fun e w' ⟨he,hw⟩=>⟨_,he,.inl ⟨rfl,rfl⟩,by rw[hw];exact AA _ _⟩
  |some a=>exact kV a cap [] w (by simp) (fun j u h=>by simp[TL]at h)
 .exact kV ⟨b,off,G6⟩ cap ss w hl (fun j u h=>by rw[BM];exact hr j u h)
theorem A42{w:FX}{ops:Array Oper}{o:Oper}{a:Act}{K:Act->FX->Prop}{Q:Exit->Act->FX->Prop}{E:Prop}(hgd:FP o (yielded ops a.tmps)=true)(s x:Operand)
  (ho:o.op=.call {callee:=.builtin .append,args:=#[s,x],argTypes:=#[49,49]})
  (v:FZ) (ns:List Nd) (hs:a.eval s=v) (hown:H6 w 0 v ns)
  (q:Nat) (hx:a.eval x=FV (G7 ⟨q,0,G6⟩) 1 1) (t:Nd) (hnews:JM w q t) (hl:ns.length<=100000)
  (h:∀a' c' w',H6 w' 0 (FV a' (ns.length+1) c') (ns++[t])->w.grownBy w' v.ownBlock->((Value.slice a' (ns.length+1) c').ownBlock=v.ownBlock\/(Value.slice a' (ns.length+1) c').ownBlock=G7 w.heap.size)->K (a.put o.dst (FV a' (ns.length+1) c')) w'):
  if FP o (yielded ops a.tmps)=true then Oper.wp prog o a w K Q else E:=by
 rw[if_pos hgd];obtain⟨i0,hi0,hz0,hz1,hz2⟩:=AN9;obtain⟨v',w',hr,h2,h3,_,h5⟩:=run_append_own_at (P:=prog) w 0 49 o.type 104 i0 _ 9 88 underlying49 hi0 hz0 hz1 hz2 rfl (by decide) v ns.length (GK ns) hown.row ⟨q,0,G6⟩ 1 1 (MI t) rfl (SV hnews) (Lay.one t) (by simp only[maxLen];omega) (by omega) (AZ _);have h2':H6 w' 0 v' (ns++[t]):=H6.LC (by rw[AP,JH];exact h2);obtain⟨a',c',rfl,_⟩:=h2'.slice;have hlen:(ns++[t]).length=ns.length+1:=by simp
 rw[hlen]at h2' hr h5;unfold Oper.wp execOp;simp only[ho,resolve,invoke,builtin,Sem.run_bind,Sem.run_pure,Result.andThen_ok,List.map_toArray,List.map_cons,List.map_nil,hs,hx,hr];exact h a' c' w' h2' h3 h5
theorem sJ(w:FX)(n:Nd):JM (w.alloc (FW #[S0 n.p,S0 n.d,I0 n.c,I0 n.m,I0 n.q,I0 n.v,I0 n.k,I0 n.o,I0 n.n] 104)) w.heap.size n:=heap_alloc_new w _
theorem B38(t:Tr)(vn vs:FZ)(z:Int)(w:FX)(hn:IK w vn t.ns)(hs:IK w vs t.ss)(hl:t.ns.length<=400)(hls:t.ss.length<=2147483647)(C70:∀n∈t.ns,n.p.length<=140737488355328/\n.d.length<=140737488355328):
  G5 prog 166 #[.agg #[I0 t.z,vn,vs],I0 z] w fun e w'=>
   ∃b vn' vs',e=.returned (P0 b)/\Grow w' (fun k=>w.heap.size<=k) b z vn' vs' (N0) t.ns t.ss []/\B0 w w':=by
 have CC:=G9 (fun n (hn:n∈t.ns) W=>ZW n W (C70 n hn).1 (C70 n hn).2);have CI:=G9 (fun W (hW:B0 w W)=>fD vs t.ss W (hs.next hW) hls);have KR:∀W,B0 w W->∀k x,t.ns[k]?=G7 x->∃b off cap,vn=FV (G7 ⟨b,off,G6⟩) t.ns.length cap/\b<w.heap.size/\IE W b off (GK t.ns):=fun W hW k x hx=>by
  obtain⟨b,off,cap,e,hb,hr,_,_⟩:=MZ hn (fun h0=>by obtain⟨h1,_⟩:=AV.1 hx;rw[h0]at h1;simp at h1);exact⟨b,off,cap,e,hb,hr.kept hW hb⟩
 have HKR:=G9 KR;obtain⟨na,nc,rfl⟩:=GL hn;obtain⟨sa,sc,rfl⟩:=GL hs;clear hn hs C70 KR;unfold UO at CC;have S0:∀W,W=(w.alloc (FW #[I0 t.z,FV na t.ns.length nc,FV sa t.ss.length sc] 52)).alloc (FW #[I0 z,N0,N0,N0] 241)->
   Grow W (fun k=>w.heap.size+1<=k) (w.heap.size+1) z (N0) (N0) (N0) [] [] []/\Touch (fun k=>w.heap.size+1<=k) (w.alloc (FW #[I0 t.z,FV na t.ns.length nc,FV sa t.ss.length sc] 52)) W:=by
  rintro W rfl;refine⟨⟨?_,A8 _,.inl ⟨rfl,rfl⟩,.inl ⟨rfl,rfl⟩,.inl ⟨rfl,rfl⟩,(by intro k hk;cases hk),(by intro k hk;cases hk),(by intro k hk;cases hk),(by intro k hk;cases hk),(by intro k hk;cases hk)⟩,?_⟩
  .have:=heap_alloc_new (w.alloc (FW #[I0 t.z,FV na t.ns.length nc,FV sa t.ss.length sc] 52)) (FW #[I0 z,N0,N0,N0] 241);rw[show (w.alloc (FW #[I0 t.z,FV na t.ns.length nc,FV sa t.ss.length sc] 52)).heap.size=w.heap.size+1 by simp]at this;exact this
  .exact Touch.of_below (GH _ _)
 have HS0:=G9 S0;have BX:∀W,Touch (fun k=>w.heap.size+1<=k) (w.alloc (FW #[I0 t.z,FV na t.ns.length nc,FV sa t.ss.length sc] 52)) W->B0 w W/\W.cell? ⟨w.heap.size,2,G6⟩=G7 (FV sa t.ss.length sc)/\w.heap.size+1<=W.heap.size:=by
  intro W h;have hb:W.heap[w.heap.size]?=_:=(h.block w.heap.size (by simp) (by omega)).trans (heap_alloc_new w _);refine⟨(GH w _).trans (h.below (by simp) (fun k hk=>by omega)),by simp[AX,hb],by have:=h.size;simpa using this⟩
 have HBX:=G9 BX;clear S0 BX;go_enter func166,ntmps166;go_wp2_with fail
 go_loopg [18] t.ns.length (fun kx s18 wr=>∃ (k:Nat) (vn':FZ),s18=I0 k/\k<=t.ns.length/\t.ns.length-k<=kx/\Hid (Grow wr (fun k=>w.heap.size+1<=k) (w.heap.size+1) z vn' (N0) (N0) (t.ns.take k) [] [])/\Hid (Touch (fun k=>w.heap.size+1<=k) (w.alloc (FW #[I0 t.z,FV na t.ns.length nc,FV sa t.ss.length sc] 52)) wr))
 case atStart=>
  obtain⟨g0,t0⟩:=G8 HS0 _ rfl;exact⟨0,_,rfl,AZ _,A8 _,G9 g0,G9 t0⟩
 case round=>
  obtain⟨k,vn',rfl,hk,hg,hG,hT⟩:=hrel;obtain⟨hBw,hc2,hsz⟩:=G8 HBX wr (G8 hT);have HBw:=G9 hBw;by_cases hlt:k<t.ns.length
  .obtain⟨x,hx⟩:∃x,t.ns[k]?=G7 x:=⟨_,List.getElem?_eq_getElem hlt⟩;obtain⟨b,off,cap,he,hb,q⟩:=G8 HKR wr hBw k x hx;simp only[AQ]at he;obtain⟨rfl,_,rfl⟩:=he;have d0:=q.n0 hx;have d1:=q.n1 hx;have d2:=q.n2 hx;have d3:=q.n3 hx;have d4:=q.n4 hx;have d5:=q.n5 hx;have d6:=q.n6 hx;have d7:=q.n7 hx;have d8:=q.n8 hx;have hbw:b<wr.heap.size:=by omega
   have CX:=fun W=>G8 CC x (List.mem_of_getElem? hx) W;have HT1:=G9 (show t.ns.take (k+1)=t.ns.take k++[x] by rw[List.take_add_one,hx];rfl);have hlk:(t.ns.take k).length<=400:=by simp;omega
   obtain⟨P,hP⟩:∃P,t.ns.take k=P:=⟨_,rfl⟩;rw[hP]at hG hlk HT1;clear q hx hP;obtain⟨va,vc,rfl,_⟩:=(G8 hG).n.slice;have h:=G8 hG;have c1:=h.c1;have f1:=h.fz 1;have K1:=G9 (fun w1 (hb1:B0 wr w1)=>(⟨(h.next hb1).c1,(h.next hb1).fz 1,(h.next hb1).lt,((h.next hb1).next (GH _ _)).c1⟩:w1.cell? ⟨w.heap.size+1,1,G6⟩=G7 (FV va P.length vc)/\w1.frozen? ⟨w.heap.size+1,1,G6⟩=false/\w.heap.size+1<w1.heap.size/\(w1.alloc (FW #[S0 x.p,S0 x.d,I0 x.c,I0 x.m,I0 x.q,I0 x.v,I0 x.k,I0 x.o,I0 x.n] 104)).cell? ⟨w.heap.size+1,1,G6⟩=G7 (FV va P.length vc)));have KE:=G9 (fun w1 (hb1:B0 wr w1)=>(h.next hb1).n.next (GH w1 (FW #[S0 x.p,S0 x.d,I0 x.c,I0 x.m,I0 x.q,I0 x.v,I0 x.k,I0 x.o,I0 x.n] 104)));have K2:∀ (w1 w2:FX) (a2:Option Addr) (c2:Nat),B0 wr w1->H6 w2 0 (FV a2 (P.length+1) c2) (P++[x])->(w1.alloc (FW #[S0 x.p,S0 x.d,I0 x.c,I0 x.m,I0 x.q,I0 x.v,I0 x.k,I0 x.o,I0 x.n] 104)).grownBy w2 (Value.slice va P.length vc).ownBlock->
     ((Value.slice a2 (P.length+1) c2).ownBlock=(Value.slice va P.length vc).ownBlock\/(Value.slice a2 (P.length+1) c2).ownBlock=G7 (w1.alloc (FW #[S0 x.p,S0 x.d,I0 x.c,I0 x.m,I0 x.q,I0 x.v,I0 x.k,I0 x.o,I0 x.n] 104)).heap.size)->
     w2.cell? ⟨w.heap.size+1,1,G6⟩=G7 (FV va P.length vc)/\w2.frozen? ⟨w.heap.size+1,1,G6⟩=false/\Grow (w2.setCell ⟨w.heap.size+1,1,G6⟩ (FV a2 (P.length+1) c2)) (fun k=>w.heap.size+1<=k) (w.heap.size+1) z (FV a2 (P.length+1) c2) (N0) (N0) (P++[x]) [] []/\Touch (fun k=>w.heap.size+1<=k) wr (w2.setCell ⟨w.heap.size+1,1,G6⟩ (FV a2 (P.length+1) c2)):=by
    intro w1 w2 a2 c2 hb1 ho2 hg2 hl2;have g1:=(h.next hb1).next (GH w1 (FW #[S0 x.p,S0 x.d,I0 x.c,I0 x.m,I0 x.q,I0 x.v,I0 x.k,I0 x.o,I0 x.n] 104));have n3:¬ (Value.slice va P.length vc).ownBlock=G7 (w.heap.size+1):=fun e=>(h.fn _ e).2 rfl;refine⟨hg2.cell g1.c1 (fun e=>n3 e.symm),(World.frozen?_of_block (hg2.block _ g1.lt (fun e=>n3 e.symm))).trans (g1.fz 1),g1.nd (fun k hk=>by have:=hb1.size;simp at hk;omega) hg2 ho2 ?_,?_⟩
    .rcases hl2 with e|e
     .exact .inl e
     .exact .inr ⟨_,A8 _,e⟩
    .exact(((Touch.of_below hb1).trans (Touch.of_below (GH _ _))).trans (Touch.VX hg2 (fun k e=>(h.fn k e).1))).trans (Touch.set h.fb _)
   have HK2:=G9 K2;have hbn:w.heap.size+1≠wr.heap.size:=by have:=h.lt;omega
   have hbl:=h.lt;clear h K2;go_wp2_with fail
   go_region_law (first
    |(refine A42 (by kernel_rfl) _ _ (by rfl) (FV va P.length vc) P (by rfl) (G8 KE w1 (G8 HB1)) w1.heap.size (by rfl) x (sJ w1 x) (by omega) ?_;intro a2 c2 w2 ho2 hg2 hl2;obtain⟨m3,l3,g2,t2⟩:=G8 HK2 w1 w2 a2 c2 (G8 HB1) ho2 hg2 hl2;have HG2:=G9 g2;have HT2:=G9 ((G8 hT).trans t2);clear ho2 hg2 hl2 g2 t2)
    |(go_simp;refine(CX _).mono ?_;rintro e w1 ⟨rfl,hb1⟩;have HB1:Hid (B0 wr w1):=(by first|exact GZ (IC hb1)|exact GZ hb1);obtain⟨e3,k3,hbn2,d3a⟩:=G8 K1 w1 (G8 HB1);clear hb1))
   all_goals
    go_wp2_with fail
    go_roundg (t.ns.length-(k+1))
    case measure=>omega
    case rel=>exact⟨k+1,_,rfl,by omega,A8 _,(by rw[G8 HT1];exact HG2),HT2⟩
  .obtain rfl:k=t.ns.length:=by omega
   clear hBw;go_wp2_with fail;refine(G8 CI wr (G8 HBw)).mono ?_;rintro e w1 ⟨vs',rfl,ho,hb1⟩;have h:=(G8 hG).next hb1;have c2:=h.c2;have f2:=h.fz 2;have g2:=(G8 hG).se (V:=w1) (vs':=vs') (ss':=t.ss) (fun k hk=>by omega) ⟨hb1.os,hb1.tape,hb1.output,hb1.size,fun k hk _=>hb1.block k hk⟩ (ho.lower (AZ _)) (by
    rcases ho with⟨rfl,_⟩|⟨g,cap,rfl,hB,_⟩
    .exact .inl rfl
    .exact .inr ⟨g,hB,rfl⟩)
   have hne:w.heap.size+1≠w.heap.size:=by omega
   rw[List.take_length]at g2;have HG2:=G9 (g2.cut (G:=fun k=>w.heap.size<=k) (fun k _ hk=>by omega));have HB2:=G9 (GI (G8 HBw) hb1);obtain⟨sa',sc',rfl,_⟩:=ho.slice;clear h g2 ho hb1;go_wp2_with fail;go_ret;exact⟨w.heap.size+1,_,_,rfl,G8 HG2,(G8 HB2).setCell (by simp) _⟩
theorem VE(A:List Nd)(x:Nd)(B:List Nd):(A++x::B)[A.length]?=G7 x:=by simp
theorem kW(F:Nat->Prop)(b:Nat)(z:Int)(vn vs ve:FZ)(ns A B:List Nd)(u:Nd)(ss:List Int)(es:List Ev)(p:List UInt8)(more:Int)(w:FX)
  (h:Grow w F b z vn vs ve ns ss es) (T:KL ns A u B p) (hl:ns.length<=400) (hk:u.k=2147483647):
  G5 prog 228 #[P0 b,S0 p,I0 more] w fun e w'=>e=.returned (I0 6)/\Touch F w w':=by
 have CF:=fun W (hW:B0 w W)=>JX vn ns A B u p W (h.n.next hW).seq (by omega) T;obtain⟨g,cap,rfl,hr,hgb,hFg⟩:=h.iZ (by rw[T.eq];simp);have c1:=h.c1;have HG:=G9 h;have HE:=G9 T.eq;have hlt:A.length<ns.length:=by rw[T.eq];simp
 clear h hr T;go_enter func228,ntmps228;go_wp2_with fail;refine(CF _ (AA _ _)).mono ?_;rintro e w1 ⟨rfl,hb1⟩;have g1:=(G8 HG).next hb1;have d1:=g1.c1;obtain⟨g',cap',he,hr,_,_⟩:=g1.iZ (by rw[G8 HE];simp);simp only[AQ,BF,EW,and_true]at he;obtain⟨rfl,_,rfl⟩:=he;have r6:=hr.row.n6 (i:=A.length) (x:=u) (by rw[G8 HE];exact VE A u B);rw[hk,BJ]at r6;have HB:=G9 hb1;clear CF c1 g1 hr hb1;go_wp2_with fail;go_ret;exact⟨rfl,Touch.of_below (G8 HB)⟩
theorem xJ(F:Nat->Prop)(b:Nat)(z:Int)(vn vs ve:FZ)(ns A B:List Nd)(u:Nd)(ss:List Int)(es:List Ev)(p:List UInt8)(more:Int)(w:FX)
  (h:Grow w F b z vn vs ve ns ss es) (hF:∀k,w.heap.size<=k->F k) (T:KL ns A u B p) (hl:ns.length<=400) (hk:0<=u.k/\u.k<2147483647) (hn:0<=u.n/\u.n<=1000) (hm: -1<=more/\more<=1) (hp:p.length<=140737488355328) (hes:es.length<=99999):
  G5 prog 228 #[P0 b,S0 p,I0 more] w fun e w'=>e=.returned (I0 0)/\∃ve',Grow w' F b z vn vs ve' (A++bump z more u::B) ss (es++[⟨4,p⟩])/\Touch F w w':=by
 have CF:=fun W (hW:B0 w W)=>JX vn ns A B u p W (h.n.next hW).seq (by omega) T;obtain⟨g,cap,rfl,hr,hgb,hFg⟩:=h.iZ (by rw[T.eq];simp);have c1:=h.c1;have HG:=G9 h;have HE:=G9 T.eq;have HF:=G9 hF;have hlt:A.length<ns.length:=by rw[T.eq];simp
 clear h hr T hF;go_enter func228,ntmps228;go_wp2_with fail;refine(CF _ (AA _ _)).mono ?_;rintro e w1 ⟨rfl,hb1⟩;have g1:=(G8 HG).next hb1;have d1:=g1.c1;have d0:=g1.c0;obtain⟨g',cap',he,hr,_,_⟩:=g1.iZ (by rw[G8 HE];simp);simp only[AQ,BF,EW,and_true]at he;obtain⟨rfl,_,rfl⟩:=he;have at':ns[A.length]?=G7 u:=by rw[G8 HE];exact VE A u B
 have r4:=hr.row.n4 at';have r6:=hr.row.n6 at';have r8:=hr.row.n8 at';have z4:=hr.frozen (A.length*9+4);have z6:=hr.frozen (A.length*9+6);have z8:=hr.frozen (A.length*9+8);rw[BJ]at r4 r6 r8;have hne:g≠b:=hgb;have hne':b≠g:=Ne.symm hgb;have hk1:=hk.1;have hk2:=hk.2;have hkn:¬u.k=2147483647:=by omega
 have g4:Grow (((w1.setCell ⟨g,A.length*9+8,G6⟩ (I0 (u.n+more))).setCell ⟨g,A.length*9+6,G6⟩ (I0 (u.k+1))).setCell ⟨g,A.length*9+4,G6⟩ (I0 z)) F b z (FV (G7 ⟨g,0,G6⟩) ns.length cap) vs ve (A++bump z more u::B) ss es:=by
  have e0:=g1;rw[G8 HE]at e0;have e1:=e0.put (m:=⟨u.p,u.d,u.c,u.m,u.q,u.v,u.k,u.o,u.n+more⟩) (c:=8) (by omega) (v:=I0 (u.n+more)) rfl;have e2:=e1.put (m:=⟨u.p,u.d,u.c,u.m,u.q,u.v,u.k+1,u.o,u.n+more⟩) (c:=6) (by omega) (v:=I0 (u.k+1)) rfl;have e3:=e2.put (m:=bump z more u) (c:=4) (by omega) (v:=I0 z) rfl;rw[G8 HE];exact e3
 have T4:Touch F w (((w1.setCell ⟨g,A.length*9+8,G6⟩ (I0 (u.n+more))).setCell ⟨g,A.length*9+6,G6⟩ (I0 (u.k+1))).setCell ⟨g,A.length*9+4,G6⟩ (I0 z)):=
  (((Touch.of_below hb1).trans (Touch.set hFg _)).trans (Touch.set hFg _)).trans (Touch.set hFg _)
 have CT:=fun W (hW:Grow W F b z (FV (G7 ⟨g,0,G6⟩) ns.length cap) vs ve (A++bump z more u::B) ss es) (hs:w.heap.size<=W.heap.size)=>jA F b z _ vs ve _ ss es 4 p W hW (fun k hk=>G8 HF k (by omega)) hp (by omega);have HG4:=G9 g4;have HT4:=G9 T4;have HCT:=G9 CT;clear CF c1 g1 hr hb1 at' g4 T4 CT;go_wp2_with fail;refine(G8 HCT _ (G8 HG4) (G8 HT4).size).mono ?_;rintro e w5 ⟨rfl,ve',g5,t5⟩;have HG5:=G9 g5;have HT5:=G9 ((G8 HT4).trans t5);clear g5 t5;go_wp2_with fail;go_ret;exact⟨rfl,ve',G8 HG5,G8 HT5⟩
theorem AO2(F:Nat->Prop)(b:Nat)(z:Int)(vn vs ve:FZ)(ns A B:List Nd)(ss:List Int)(es:List Ev)(p:List UInt8)(w:FX)
  (h:Grow w F b z vn vs ve ns ss es) (G:oI ns A B p) (hl:ns.length<=400):
  G5 prog 196 #[P0 b,S0 p] w fun e w'=>e=.returned (I0 7)/\Touch F w w':=by
 have CF:=fun W (hW:B0 w W)=>NQ vn ns A B p W (h.n.next hW).seq (by omega) G;have c1:=h.c1;obtain⟨na,nc,rfl,_⟩:=h.n.slice;clear h G;go_enter func196,ntmps196;go_wp2_with fail;refine(CF _ (AA _ _)).mono ?_;rintro e w1 ⟨rfl,hb1⟩;clear CF;go_wp2_with fail;go_ret;exact⟨rfl,Touch.of_below hb1⟩
theorem A43(F:Nat->Prop)(b:Nat)(z:Int)(vn vs ve:FZ)(ns A B:List Nd)(u:Nd)(ss:List Int)(es:List Ev)(p:List UInt8)(w:FX)
  (h:Grow w F b z vn vs ve ns ss es) (T:KL ns A u B p) (hl:ns.length<=400) (hk:u.n≠0):
  G5 prog 196 #[P0 b,S0 p] w fun e w'=>e=.returned (I0 10)/\Touch F w w':=by
 have CF:=fun W (hW:B0 w W)=>JX vn ns A B u p W (h.n.next hW).seq (by omega) T;obtain⟨g,cap,rfl,hr,hgb,hFg⟩:=h.iZ (by rw[T.eq];simp);have c1:=h.c1;have HG:=G9 h;have HE:=G9 T.eq;have hlt:A.length<ns.length:=by rw[T.eq];simp
 clear h hr T;go_enter func196,ntmps196;go_wp2_with fail;refine(CF _ (AA _ _)).mono ?_;rintro e w1 ⟨rfl,hb1⟩;have g1:=(G8 HG).next hb1;have d1:=g1.c1;obtain⟨g',cap',he,hr,_,_⟩:=g1.iZ (by rw[G8 HE];simp);simp only[AQ,BF,EW,and_true]at he;obtain⟨rfl,_,rfl⟩:=he;have r8:=hr.row.n8 (i:=A.length) (x:=u) (by rw[G8 HE];exact VE A u B);rw[BJ]at r8;have hk':(u.n !=0)=true:=by simpa using hk
 have HB:=G9 hb1;clear CF c1 g1 hr hb1 hk;go_wp2_with fail;go_ret;exact⟨rfl,Touch.of_below (G8 HB)⟩
theorem kX(F:Nat->Prop)(b:Nat)(z:Int)(vn vs ve:FZ)(ns A B:List Nd)(n:Nd)(ss:List Int)(es:List Ev)(p:List UInt8)(w:FX)(E:Int)(Post:FX->Prop)
  (h:Grow w F b z vn vs ve ns ss es) (hF:∀k,w.heap.size<=k->F k) (T:KL ns A n B p) (hl:ns.length<=400) (hk:n.n=0) (hp:p.length<=140737488355328) (hes:es.length<=99998)
  (hpar:∀W vn' ve',Grow W F b z vn' vs ve' (A++B) ss (es++[⟨2,p⟩])->w.heap.size<=W.heap.size->Touch F w W->G5 prog 228 #[P0 b,S0 (IQ p),I0 (-1)] W fun e w'=>e=.returned (I0 E)/\Post w'):
  G5 prog 196 #[P0 b,S0 p] w fun e w'=>e=.returned (I0 E)/\Post w':=by
 have CF:=fun W (hW:B0 w W)=>JX vn ns A B n p W (h.n.next hW).seq (by omega) T;obtain⟨g,cap,rfl,hr,hgb,hFg⟩:=h.iZ (by rw[T.eq];simp);have c1:=h.c1;have HG:=G9 h;have HE:=G9 T.eq;have HF:=G9 hF;have HP:=G9 hpar;have hlen:ns.length=A.length+B.length+1:=by rw[T.eq];simp;omega
 have hlt:A.length<ns.length:=by omega
 have HL:=G9 hlen;have CD:=fun W (ho:JB W g cap (A++n::B))=>A33 g cap A B n ns.length W ho (G8 HL) hl;have CS:=fun W=>NM p W;have HCD:=G9 CD;have HCS:=G9 CS;clear h hr T hF hpar CD CS hlen;go_enter func196,ntmps196;go_wp2_with fail;refine(CF _ (AA _ _)).mono ?_;rintro e w1 ⟨rfl,hb1⟩;have g1:=(G8 HG).next hb1;have d1:=g1.c1;obtain⟨g',cap',he,hr,_,_⟩:=g1.iZ (by rw[G8 HE];simp);simp only[AQ,BF,EW,and_true]at he;obtain⟨rfl,_,rfl⟩:=he;have r8:=hr.row.n8 (i:=A.length) (x:=n) (by rw[G8 HE];exact VE A n B);rw[BJ,hk]at r8;have HB:=G9 hb1;have HG1:=G9 g1;have HR:=G9 (show JB w1 g cap (A++n::B) by rw[<-G8 HE];exact hr);clear CF c1 g1 hr hb1;go_wp2_with fail;rw[show ((A.length:Int)+1)=((A.length+1:Nat):Int)from by omega];refine(G8 HCD _ (G8 HR)).mono ?_;rintro e w2 ⟨rfl,ho2,hg2⟩;have m1:w2.cell? ⟨b,1,G6⟩=G7 (FV (G7 ⟨g,0,G6⟩) ns.length cap):=hg2.cell d1 (fun e=>hgb (BQ e).symm);have l1:w2.frozen? ⟨b,1,G6⟩=false:=(World.frozen?_of_block (hg2.block b (G8 HG1).lt (fun e=>hgb (BQ e).symm))).trans ((G8 HG1).fz 1);have g2:=(G8 HG1).nd (vn':=FV (G7 ⟨g,0,G6⟩) (A.length+B.length) cap) (ns':=A++B) (fun k hk=>G8 HF k (by have:=(G8 HB).size;omega)) hg2 (.inr ⟨g,cap,by rw[AP],AZ _,ho2⟩) (.inl rfl);have t2:Touch F w (w2.setCell ⟨b,1,G6⟩ (FV (G7 ⟨g,0,G6⟩) (A.length+B.length) cap)):=((Touch.of_below (G8 HB)).trans (Touch.VX hg2 (fun k e=>by cases e;exact hFg))).trans (Touch.set g2.fb _);have HG2:=G9 g2;have HT2:=G9 t2;clear g2 t2 ho2 hg2 d1 r8 HR;go_wp2_with fail;refine(jA F b z _ vs ve _ ss es 2 p _ (G8 HG2) (fun k hk=>G8 HF k (by have:=(G8 HT2).size;omega)) hp (by omega)).mono ?_;rintro e w3 ⟨rfl,ve',g3,t3⟩;have HG3:=G9 g3;have HT3:=G9 ((G8 HT2).trans t3);clear g3 t3 m1 l1;go_wp2_with fail;refine(G8 HCS _).mono ?_;rintro e w4 ⟨rfl,hb4⟩;have HG4:=G9 ((G8 HG3).next hb4);have HT4:=G9 ((G8 HT3).trans (Touch.of_below hb4));clear hb4;go_wp2_with fail;refine(G8 HP _ _ _ (G8 HG4) (G8 HT4).size (G8 HT4)).mono ?_;rintro e w5 ⟨rfl,hp5⟩;have HP5:=G9 hp5;clear hp5;go_wp2_with fail;go_ret;exact⟨rfl,G8 HP5⟩
theorem xK(F:Nat->Prop)(b:Nat)(z:Int)(vn vs ve:FZ)(ns A B A' B':List Nd)(n u:Nd)(ss:List Int)(es:List Ev)(p:List UInt8)(w:FX)
  (h:Grow w F b z vn vs ve ns ss es) (hF:∀k,w.heap.size<=k->F k) (T:KL ns A n B p) (T':KL (A++B) A' u B' (IQ p)) (hl:ns.length<=400) (hk:n.n=0) (hu:0<=u.k/\u.k<2147483647) (hn:0<=u.n/\u.n<=1000) (hp:p.length<=140737488355328) (hd:(IQ p).length<=140737488355328) (hes:es.length<=99998):
  G5 prog 196 #[P0 b,S0 p] w fun e w'=>e=.returned (I0 0)/\∃vn' ve',Grow w' F b z vn' vs ve' (rmN z ns p) ss (es++[⟨2,p⟩,⟨4,IQ p⟩])/\Touch F w w':=by
 refine kX F b z vn vs ve ns A B n ss es p w 0 _ h hF T hl hk hp hes (fun W vn' ve' hG hs ht=>?_);have hlen:(A++B).length<=400:=by have:=congrArg List.length T.eq;simp at this⊢;omega
 refine(xJ F b z vn' vs ve' (A++B) A' B' u ss _ (IQ p) (-1) W hG (fun k hk=>hF k (by omega)) T' hlen hu hn (by omega) hd (by simp;omega)).mono ?_;rintro e w' ⟨rfl,ve2,g,t⟩;refine⟨rfl,vn',ve2,?_,ht.trans t⟩;rw[rmN,T.drop,T'.bump];simpa using g
theorem kY(F:Nat->Prop)(b:Nat)(z:Int)(vn vs ve:FZ)(ns A B A' B':List Nd)(n u:Nd)(ss:List Int)(es:List Ev)(p:List UInt8)(w:FX)
  (h:Grow w F b z vn vs ve ns ss es) (hF:∀k,w.heap.size<=k->F k) (T:KL ns A n B p) (T':KL (A++B) A' u B' (IQ p)) (hl:ns.length<=400) (hk:n.n=0) (hu:u.k=2147483647) (hp:p.length<=140737488355328) (hes:es.length<=99998):
  G5 prog 196 #[P0 b,S0 p] w fun e w'=>e=.returned (I0 6)/\Touch F w w':=by
 refine kX F b z vn vs ve ns A B n ss es p w 6 _ h hF T hl hk hp hes (fun W vn' ve' hG hs ht=>?_);have hlen:(A++B).length<=400:=by have:=congrArg List.length T.eq;simp at this⊢;omega
 refine(kW F b z vn' vs ve' (A++B) A' B' u ss _ (IQ p) (-1) W hG T' hlen hu).mono ?_;rintro e w' ⟨rfl,t⟩;exact⟨rfl,ht.trans t⟩
theorem C71(F:Nat->Prop)(b:Nat)(z:Int)(vn vs ve:FZ)(ns A B:List Nd)(ss:List Int)(es:List Ev)(x:GU)(w:FX)
  (h:Grow w F b z vn vs ve ns ss es) (G:oI ns A B x.p) (hl:ns.length<=400):
  G5 prog 197 #[P0 b,JA x] w fun e w'=>e=.returned (I0 7)/\Touch F w w':=by
 obtain⟨xz,xo,xs,xp,xd,xv,xw⟩:=x;simp only at G;have CF:=fun W (hW:B0 w W)=>NQ vn ns A B xp W (h.n.next hW).seq (by omega) G;have c1:=h.c1;have hbl:=h.lt;obtain⟨na,nc,rfl,_⟩:=h.n.slice;clear h G;unfold JA;go_enter func197,ntmps197;go_wp2_with fail
 go_region_law (first
  |(go_simp;refine(CF _ (by first|exact((AA w.heap.size w).alloc (A8 _) _).drew|exact(AA w.heap.size w).alloc (A8 _) _)).mono ?_;rintro e w1 ⟨rfl,hb1⟩;have HB1:Hid (B0 w w1):=(by first|exact GZ (IC hb1)|exact GZ hb1);clear hb1))
 all_goals go_wp2_with fail
 all_goals go_ret
 all_goals exact⟨rfl,Touch.of_below (G8 HB1)⟩
theorem CM5(F:Nat->Prop)(b:Nat)(z:Int)(vn vs ve:FZ)(ns A B:List Nd)(n:Nd)(ss:List Int)(es:List Ev)(x:GU)(w:FX)
  (h:Grow w F b z vn vs ve ns ss es) (hF:∀k,w.heap.size<=k->F k) (T:KL ns A n B x.p) (hl:ns.length<=400) (hv:0<=n.v/\n.v<=2147483647) (hp:x.p.length<=140737488355328) (hd:x.d.length<=140737488355328) (hes:es.length<=99999) (hx:x.v=n.v+1):
  G5 prog 197 #[P0 b,JA x] w fun e w'=>
   e=.returned (I0 0)/\∃ve',Grow w' F b z vn vs ve' (A++⟨n.p,x.d,n.c,x.z,n.q,x.v,n.k,n.o,n.n⟩::B) ss (es++[⟨3,x.p⟩])/\Touch F w w':=by
 obtain⟨xz,xo,xs,xp,xd,xv,xw⟩:=x;simp only at T hp hd hx⊢;have hxb:(xv !=n.v+1)=false:=by simpa using hx
 clear hx;have CF:=fun W (hW:B0 w W)=>JX vn ns A B n xp W (h.n.next hW).seq (by omega) T;have CC:=fun W=>NY xd W (by omega);obtain⟨g,cap,rfl,hr,hgb,hFg⟩:=h.iZ (by rw[T.eq];simp);have hgl:=hr.lt;have c1:=h.c1;have hbl:=h.lt;have HG:=G9 h;have HE:=G9 T.eq;have HF:=G9 hF;have hlt:A.length<ns.length:=by rw[T.eq];simp
 have hv1:=hv.1;have hv2:=hv.2;have KX:∀w1,Below (w.alloc (FW #[I0 xz,I0 xo,I0 xs,S0 xp,S0 xd,I0 xv,I0 xw] 83)).heap.size (w.alloc (FW #[I0 xz,I0 xo,I0 xs,S0 xp,S0 xd,I0 xv,I0 xw] 83)) w1->TAt w1 w.heap.size ⟨xz,xo,xs,xp,xd,xv,xw⟩:=fun w1 h1=>(TAt.new w ⟨xz,xo,xs,xp,xd,xv,xw⟩).next h1;have HKX:=G9 KX;clear h hr T hF KX;unfold JA;go_enter func197,ntmps197;go_wp2_with fail
 go_region_law (first
  |(go_simp;refine(CF _ (by first|exact((AA w.heap.size w).alloc (A8 _) _).drew|exact(AA w.heap.size w).alloc (A8 _) _)).mono ?_;rintro e w1 ⟨rfl,hb1⟩;have HBd:=G9 hb1;clear hb1))
 all_goals
  have HB0:=G9 (IC (G8 HBd));clear CF;have HB1:=G9 (GZ (G8 HB0));have tx:=G8 HKX w1 (G8 HB0);have t0:=tx.c0;have t3:=tx.c3;have t4:=tx.c4;have t5:=tx.c5;have HTX:=G9 tx;have g1:=(G8 HG).next (G8 HB1);have d1:=g1.c1;have hsz1:=(G8 HB1).size;have hszx:=tx.lt;obtain⟨g',cap',he,hr,_,_⟩:=g1.iZ (by rw[G8 HE];simp);simp only[AQ,BF,EW,and_true]at he;obtain⟨rfl,_,rfl⟩:=he;have at':ns[A.length]?=G7 n:=by rw[G8 HE];exact VE A n B
  have r5:=hr.row.n5 at';rw[BJ]at r5;have HG1:=G9 g1;clear g1 hr at' tx;go_wp2_with fail;go_region;go_wp2_with fail;refine(CC _).mono ?_;rintro e w2 ⟨rfl,hb2⟩;have hb2':=IC hb2;have g2:=(G8 HG1).next hb2';obtain⟨g',cap',he,hr,_,_⟩:=g2.iZ (by rw[G8 HE];simp);simp only[AQ,BF,EW,and_true]at he;obtain⟨rfl,_,rfl⟩:=he;have at':ns[A.length]?=G7 n:=by rw[G8 HE];exact VE A n B
  have r1:=hr.row.n1 at';have r3:=hr.row.n3 at';have r5':=hr.row.n5 at';have z1:=hr.frozen (A.length*9+1);have z3:=hr.frozen (A.length*9+3);have z5:=hr.frozen (A.length*9+5);rw[BJ]at r1 r3 r5';have tx2:=(G8 HTX).next hb2';have y0:=tx2.c0;have y3:=tx2.c3;have y5:=tx2.c5;have hne:g≠w.heap.size:=by omega
  have hne':w.heap.size≠g:=by omega
  have g4:Grow (((w2.setCell ⟨g,A.length*9+1,G6⟩ (S0 xd)).setCell ⟨g,A.length*9+5,G6⟩ (I0 xv)).setCell ⟨g,A.length*9+3,G6⟩ (I0 xz)) F b z (FV (G7 ⟨g,0,G6⟩) ns.length cap) vs ve (A++⟨n.p,xd,n.c,xz,n.q,xv,n.k,n.o,n.n⟩::B) ss es:=by
   have e0:=g2;rw[G8 HE]at e0;have e1:=e0.put (m:=⟨n.p,xd,n.c,n.m,n.q,n.v,n.k,n.o,n.n⟩) (c:=1) (by omega) (v:=S0 xd) rfl;have e2:=e1.put (m:=⟨n.p,xd,n.c,n.m,n.q,xv,n.k,n.o,n.n⟩) (c:=5) (by omega) (v:=I0 xv) rfl;have e3:=e2.put (m:=⟨n.p,xd,n.c,xz,n.q,xv,n.k,n.o,n.n⟩) (c:=3) (by omega) (v:=I0 xz) rfl;rw[G8 HE];exact e3
  have T4:Touch F w (((w2.setCell ⟨g,A.length*9+1,G6⟩ (S0 xd)).setCell ⟨g,A.length*9+5,G6⟩ (I0 xv)).setCell ⟨g,A.length*9+3,G6⟩ (I0 xz)):=
   ((((Touch.of_below (G8 HB1)).trans (Touch.of_below hb2')).trans (Touch.set hFg _)).trans (Touch.set hFg _)).trans (Touch.set hFg _)
  have HG4:=G9 g4;have HT4:=G9 T4;have CT:=fun W (hW:Grow W F b z (FV (G7 ⟨g,0,G6⟩) ns.length cap) vs ve (A++⟨n.p,xd,n.c,xz,n.q,xv,n.k,n.o,n.n⟩::B) ss es) (hs:w.heap.size<=W.heap.size)=>jA F b z _ vs ve _ ss es 3 xp W hW (fun k hk=>G8 HF k (by omega)) hp (by omega);have HCT:=G9 CT;clear CC g2 hr hb2 hb2' at' g4 T4 CT tx2 t0 t3 t4 t5 d1 r5;go_wp2_with fail;refine(G8 HCT _ (G8 HG4) (G8 HT4).size).mono ?_;rintro e w5 ⟨rfl,ve',g5,t5⟩;have HG5:=G9 g5;have HT5:=G9 ((G8 HT4).trans t5);clear g5 t5;go_wp2_with fail;go_ret;exact⟨rfl,ve',G8 HG5,G8 HT5⟩
theorem C72(F:Nat->Prop)(b:Nat)(z:Int)(vn vs ve:FZ)(ns A B:List Nd)(n:Nd)(ss:List Int)(es:List Ev)(x:GU)(w:FX)
  (h:Grow w F b z vn vs ve ns ss es) (hF:∀k,w.heap.size<=k->F k) (T:KL ns A n B x.p) (hl:ns.length<=400) (hv:0<=n.v/\n.v<=2147483647) (hp:x.p.length<=140737488355328) (hd:x.d.length<=140737488355328) (_hes:es.length<=99999) (hx:x.v≠n.v+1):
  G5 prog 197 #[P0 b,JA x] w fun e w'=>
   e=.returned (I0 9)/\Touch F w w':=by
 obtain⟨xz,xo,xs,xp,xd,xv,xw⟩:=x;simp only at T hp hd hx⊢;have hxb:(xv !=n.v+1)=true:=by simpa using hx
 clear hx;have CF:=fun W (hW:B0 w W)=>JX vn ns A B n xp W (h.n.next hW).seq (by omega) T;have CC:=fun W=>NY xd W (by omega);obtain⟨g,cap,rfl,hr,hgb,hFg⟩:=h.iZ (by rw[T.eq];simp);have hgl:=hr.lt;have c1:=h.c1;have hbl:=h.lt;have HG:=G9 h;have HE:=G9 T.eq;have HF:=G9 hF;have hlt:A.length<ns.length:=by rw[T.eq];simp
 have hv1:=hv.1;have hv2:=hv.2;have KX:∀w1,Below (w.alloc (FW #[I0 xz,I0 xo,I0 xs,S0 xp,S0 xd,I0 xv,I0 xw] 83)).heap.size (w.alloc (FW #[I0 xz,I0 xo,I0 xs,S0 xp,S0 xd,I0 xv,I0 xw] 83)) w1->TAt w1 w.heap.size ⟨xz,xo,xs,xp,xd,xv,xw⟩:=fun w1 h1=>(TAt.new w ⟨xz,xo,xs,xp,xd,xv,xw⟩).next h1;have HKX:=G9 KX;clear h hr T hF KX;unfold JA;go_enter func197,ntmps197;go_wp2_with fail
 go_region_law (first
  |(go_simp;refine(CF _ (by first|exact((AA w.heap.size w).alloc (A8 _) _).drew|exact(AA w.heap.size w).alloc (A8 _) _)).mono ?_;rintro e w1 ⟨rfl,hb1⟩;have HBd:=G9 hb1;clear hb1))
 all_goals
  have HB0:=G9 (IC (G8 HBd));clear CF;have HB1:=G9 (GZ (G8 HB0));have tx:=G8 HKX w1 (G8 HB0);have t0:=tx.c0;have t3:=tx.c3;have t4:=tx.c4;have t5:=tx.c5;have HTX:=G9 tx;have g1:=(G8 HG).next (G8 HB1);have d1:=g1.c1;have hsz1:=(G8 HB1).size;have hszx:=tx.lt;obtain⟨g',cap',he,hr,_,_⟩:=g1.iZ (by rw[G8 HE];simp);simp only[AQ,BF,EW,and_true]at he;obtain⟨rfl,_,rfl⟩:=he;have at':ns[A.length]?=G7 n:=by rw[G8 HE];exact VE A n B
  have r5:=hr.row.n5 at';rw[BJ]at r5;have HG1:=G9 g1;clear g1 hr at' tx;go_wp2_with fail;go_region;go_wp2_with fail;go_ret;exact⟨rfl,(Touch.of_below (G8 HB1)).drew⟩
theorem B39(F:Nat->Prop)(b:Nat)(z:Int)(vn vs ve:FZ)(ns:List Nd)(A B:List Nd)(n:Nd)(ss:List Int)(es:List Ev)(x:GU)(w:FX)
  (h:Grow w F b z vn vs ve ns ss es) (T:KL ns A n B x.p) (hl:ns.length<=400) (ha:uX ns):
  G5 prog 195 #[P0 b,JA x] w fun e w'=>e=.returned (I0 8)/\Touch F w w':=by
 obtain⟨xz,xo,xs,xp,xd,xv,xw⟩:=x;simp only at T;have CF:=fun W (hW:B0 w W)=>JX vn ns A B n xp W (h.n.next hW).seq (by omega) T;have HCS:=G9 (fun W=>NM xp W);have HCG:=G9 (fun W (hW:B0 w W)=>wY vn ns (IQ xp) W (h.n.next hW).seq (by omega) ha);have KX:∀w1,Below (w.alloc (FW #[I0 xz,I0 xo,I0 xs,S0 xp,S0 xd,I0 xv,I0 xw] 83)).heap.size (w.alloc (FW #[I0 xz,I0 xo,I0 xs,S0 xp,S0 xd,I0 xv,I0 xw] 83)) w1->TAt w1 w.heap.size ⟨xz,xo,xs,xp,xd,xv,xw⟩:=fun w1 h1=>(TAt.new w ⟨xz,xo,xs,xp,xd,xv,xw⟩).next h1;have HKX:=G9 KX;have c1:=h.c1;have hbl:=h.lt;obtain⟨na,nc,rfl,_⟩:=h.n.slice;have HG:=G9 h;clear h T ha KX;unfold JA;go_enter func195,ntmps195;go_wp2_with fail
 go_region_law (first
  |(go_simp;refine(CF _ (by first|exact((AA w.heap.size w).alloc (A8 _) _).drew|exact(AA w.heap.size w).alloc (A8 _) _)).mono ?_;rintro e w1 ⟨rfl,hb1⟩;have HBd:=G9 hb1;clear hb1))
 all_goals
  have HB0:=G9 (IC (G8 HBd));clear CF;have HB1:=G9 (GZ (G8 HB0));have tx:=G8 HKX w1 (G8 HB0);have t3:=tx.c3;have HTX:=G9 tx;have g1:=(G8 HG).next (G8 HB1);have HG1:=G9 g1;clear g1 tx c1;go_wp2_with fail;refine(G8 HCS _).mono ?_;rintro e w2 ⟨rfl,hb2⟩;have HB2:=G9 (GI (G8 HB1) hb2);have tx2:=(G8 HTX).next hb2;have g2:=(G8 HG1).next hb2;have e1:=g2.c1;have A44:=G9 tx2;have HG2:=G9 g2;clear tx2 g2 hb2 t3;go_wp2_with fail;obtain⟨j,_,C2⟩:=G8 HCG _ (G8 HB2);refine C2.mono ?_;rintro e w3 ⟨rfl,hb3⟩;have HB3:=G9 (GI (G8 HB2) hb3);go_wp2_with fail;go_ret;exact⟨rfl,Touch.of_below (G8 HB3)⟩
theorem BN6(F:Nat->Prop)(b:Nat)(z:Int)(vn vs ve:FZ)(ns:List Nd)(A B A' B':List Nd)(ss:List Int)(es:List Ev)(x:GU)(w:FX)
  (h:Grow w F b z vn vs ve ns ss es) (G:oI ns A B x.p) (U:oI ns A' B' (IQ x.p)) (hl:ns.length<=400):
  G5 prog 195 #[P0 b,JA x] w fun e w'=>e=.returned (I0 7)/\Touch F w w':=by
 obtain⟨xz,xo,xs,xp,xd,xv,xw⟩:=x;simp only at G U;have CF:=fun W (hW:B0 w W)=>NQ vn ns A B xp W (h.n.next hW).seq (by omega) G;have HCS:=G9 (fun W=>NM xp W);have HCG:=G9 (fun W (hW:B0 w W)=>NQ vn ns A' B' (IQ xp) W (h.n.next hW).seq (by omega) U);have KX:∀w1,Below (w.alloc (FW #[I0 xz,I0 xo,I0 xs,S0 xp,S0 xd,I0 xv,I0 xw] 83)).heap.size (w.alloc (FW #[I0 xz,I0 xo,I0 xs,S0 xp,S0 xd,I0 xv,I0 xw] 83)) w1->TAt w1 w.heap.size ⟨xz,xo,xs,xp,xd,xv,xw⟩:=fun w1 h1=>(TAt.new w ⟨xz,xo,xs,xp,xd,xv,xw⟩).next h1;have HKX:=G9 KX;have c1:=h.c1;have hbl:=h.lt;obtain⟨na,nc,rfl,_⟩:=h.n.slice;have HG:=G9 h;clear h G U KX;unfold JA;go_enter func195,ntmps195;go_wp2_with fail
 go_region_law (first
  |(go_simp;refine(CF _ (by first|exact((AA w.heap.size w).alloc (A8 _) _).drew|exact(AA w.heap.size w).alloc (A8 _) _)).mono ?_;rintro e w1 ⟨rfl,hb1⟩;have HBd:=G9 hb1;clear hb1))
 all_goals
  have HB0:=G9 (IC (G8 HBd));clear CF;have HB1:=G9 (GZ (G8 HB0));have tx:=G8 HKX w1 (G8 HB0);have t3:=tx.c3;have HTX:=G9 tx;have g1:=(G8 HG).next (G8 HB1);have HG1:=G9 g1;clear g1 tx c1;go_wp2_with fail;refine(G8 HCS _).mono ?_;rintro e w2 ⟨rfl,hb2⟩;have HB2:=G9 (GI (G8 HB1) hb2);have tx2:=(G8 HTX).next hb2;have g2:=(G8 HG1).next hb2;have e1:=g2.c1;have A44:=G9 tx2;have HG2:=G9 g2;clear tx2 g2 hb2 t3;go_wp2_with fail;refine(G8 HCG _ (G8 HB2)).mono ?_;rintro e w3 ⟨rfl,hb3⟩;have HB3:=G9 (GI (G8 HB2) hb3);go_wp2_with fail;go_ret;exact⟨rfl,Touch.of_below (G8 HB3)⟩
theorem B40(F:Nat->Prop)(b:Nat)(z:Int)(vn vs ve:FZ)(ns:List Nd)(A B A' B':List Nd)(u:Nd)(ss:List Int)(es:List Ev)(x:GU)(w:FX)
  (h:Grow w F b z vn vs ve ns ss es) (G:oI ns A B x.p) (U:KL ns A' u B' (IQ x.p)) (hl:ns.length<=400) (ho:u.o≠0):
  G5 prog 195 #[P0 b,JA x] w fun e w'=>e=.returned (I0 11)/\Touch F w w':=by
 obtain⟨xz,xo,xs,xp,xd,xv,xw⟩:=x;simp only at G U;have CF:=fun W (hW:B0 w W)=>NQ vn ns A B xp W (h.n.next hW).seq (by omega) G;have HCS:=G9 (fun W=>NM xp W);have HCG:=G9 (fun W (hW:B0 w W)=>JX vn ns A' B' u (IQ xp) W (h.n.next hW).seq (by omega) U);have KX:∀w1,Below (w.alloc (FW #[I0 xz,I0 xo,I0 xs,S0 xp,S0 xd,I0 xv,I0 xw] 83)).heap.size (w.alloc (FW #[I0 xz,I0 xo,I0 xs,S0 xp,S0 xd,I0 xv,I0 xw] 83)) w1->TAt w1 w.heap.size ⟨xz,xo,xs,xp,xd,xv,xw⟩:=fun w1 h1=>(TAt.new w ⟨xz,xo,xs,xp,xd,xv,xw⟩).next h1;have HKX:=G9 KX;have c1:=h.c1;have hbl:=h.lt;obtain⟨g,cap,rfl,hr,hgb,hFg⟩:=h.iZ (by rw[U.eq];simp);have HG:=G9 h;have HE:=G9 U.eq;have hlt:A'.length<ns.length:=by rw[U.eq];simp
 have hob:(u.o !=0)=true:=by simpa using ho
 clear h G U KX ho hr;unfold JA;go_enter func195,ntmps195;go_wp2_with fail
 go_region_law (first
  |(go_simp;refine(CF _ (by first|exact((AA w.heap.size w).alloc (A8 _) _).drew|exact(AA w.heap.size w).alloc (A8 _) _)).mono ?_;rintro e w1 ⟨rfl,hb1⟩;have HBd:=G9 hb1;clear hb1))
 all_goals
  have HB0:=G9 (IC (G8 HBd));clear CF;have HB1:=G9 (GZ (G8 HB0));have tx:=G8 HKX w1 (G8 HB0);have t3:=tx.c3;have HTX:=G9 tx;have g1:=(G8 HG).next (G8 HB1);have HG1:=G9 g1;clear g1 tx c1;go_wp2_with fail;refine(G8 HCS _).mono ?_;rintro e w2 ⟨rfl,hb2⟩;have HB2:=G9 (GI (G8 HB1) hb2);have tx2:=(G8 HTX).next hb2;have g2:=(G8 HG1).next hb2;have e1:=g2.c1;have A44:=G9 tx2;have HG2:=G9 g2;clear tx2 g2 hb2 t3;go_wp2_with fail;refine(G8 HCG _ (G8 HB2)).mono ?_;rintro e w3 ⟨rfl,hb3⟩;have HB3:=G9 (GI (G8 HB2) hb3);have tx3:=(G8 A44).next hb3;have g3:=(G8 HG2).next hb3;have f1:=g3.c1;have y0:=tx3.c0;have y2:=tx3.c2;have y3:=tx3.c3;have y4:=tx3.c4;have y6:=tx3.c6;obtain⟨g',cap',he,hr,_,_⟩:=g3.iZ (by rw[G8 HE];simp);simp only[AQ,BF,EW,and_true]at he;obtain⟨rfl,_,rfl⟩:=he;have r7:=hr.row.n7 (i:=A'.length) (x:=u) (by rw[G8 HE];exact VE A' u B');rw[BJ]at r7;have CI7:=G9 tx3;have HG3:=G9 g3;clear g3 tx3 hr e1 hb3;go_wp2_with fail;go_ret;exact⟨rfl,Touch.of_below (G8 HB3)⟩
theorem C73(F:Nat->Prop)(b:Nat)(z:Int)(vn vs ve:FZ)(ns:List Nd)(A B A' B':List Nd)(u:Nd)(ss:List Int)(es:List Ev)(x:GU)(w:FX)
  (h:Grow w F b z vn vs ve ns ss es) (G:oI ns A B x.p) (U:KL ns A' u B' (IQ x.p)) (hl:ns.length<=400) (ho:u.o=0) (hw1:x.w≠0) (hw2:x.w≠x.s):
  G5 prog 195 #[P0 b,JA x] w fun e w'=>e=.returned (I0 12)/\Touch F w w':=by
 obtain⟨xz,xo,xs,xp,xd,xv,xw⟩:=x;simp only at G U hw1 hw2;have CF:=fun W (hW:B0 w W)=>NQ vn ns A B xp W (h.n.next hW).seq (by omega) G;have HCS:=G9 (fun W=>NM xp W);have HCG:=G9 (fun W (hW:B0 w W)=>JX vn ns A' B' u (IQ xp) W (h.n.next hW).seq (by omega) U);have KX:∀w1,Below (w.alloc (FW #[I0 xz,I0 xo,I0 xs,S0 xp,S0 xd,I0 xv,I0 xw] 83)).heap.size (w.alloc (FW #[I0 xz,I0 xo,I0 xs,S0 xp,S0 xd,I0 xv,I0 xw] 83)) w1->TAt w1 w.heap.size ⟨xz,xo,xs,xp,xd,xv,xw⟩:=fun w1 h1=>(TAt.new w ⟨xz,xo,xs,xp,xd,xv,xw⟩).next h1;have HKX:=G9 KX;have c1:=h.c1;have hbl:=h.lt;obtain⟨g,cap,rfl,hr,hgb,hFg⟩:=h.iZ (by rw[U.eq];simp);have HG:=G9 h;have HE:=G9 U.eq;have hlt:A'.length<ns.length:=by rw[U.eq];simp
 have hb1:(xw !=0)=true:=by simpa using hw1
 have hb2:(xw !=xs)=true:=by simpa using hw2
 have HO:=G9 ho;clear h G U KX ho hr hw1 hw2;unfold JA;go_enter func195,ntmps195;go_wp2_with fail
 go_region_law (first
  |(go_simp;refine(CF _ (by first|exact((AA w.heap.size w).alloc (A8 _) _).drew|exact(AA w.heap.size w).alloc (A8 _) _)).mono ?_;rintro e w1 ⟨rfl,hb1⟩;have HBd:=G9 hb1;clear hb1))
 all_goals
  have HB0:=G9 (IC (G8 HBd));clear CF;have HB1:=G9 (GZ (G8 HB0));have tx:=G8 HKX w1 (G8 HB0);have t3:=tx.c3;have HTX:=G9 tx;have g1:=(G8 HG).next (G8 HB1);have HG1:=G9 g1;clear g1 tx c1;go_wp2_with fail;refine(G8 HCS _).mono ?_;rintro e w2 ⟨rfl,hb2⟩;have HB2:=G9 (GI (G8 HB1) hb2);have tx2:=(G8 HTX).next hb2;have g2:=(G8 HG1).next hb2;have e1:=g2.c1;have A44:=G9 tx2;have HG2:=G9 g2;clear tx2 g2 hb2 t3;go_wp2_with fail;refine(G8 HCG _ (G8 HB2)).mono ?_;rintro e w3 ⟨rfl,hb3⟩;have HB3:=G9 (GI (G8 HB2) hb3);have tx3:=(G8 A44).next hb3;have g3:=(G8 HG2).next hb3;have f1:=g3.c1;have y0:=tx3.c0;have y2:=tx3.c2;have y3:=tx3.c3;have y4:=tx3.c4;have y6:=tx3.c6;obtain⟨g',cap',he,hr,_,_⟩:=g3.iZ (by rw[G8 HE];simp);simp only[AQ,BF,EW,and_true]at he;obtain⟨rfl,_,rfl⟩:=he;have r7:=hr.row.n7 (i:=A'.length) (x:=u) (by rw[G8 HE];exact VE A' u B');rw[BJ]at r7;have CI7:=G9 tx3;have HG3:=G9 g3;clear g3 tx3 hr e1 hb3;rw[G8 HO]at r7;go_wp2_with fail;go_ret;exact⟨rfl,Touch.of_below (G8 HB3)⟩
