/-
  Part.
-/
import Derived.Test.YtppjdeblncincaaGreatDoorLOD
import Derived.Test.YtppjdeblncincaaGreatDoorLOK
set_option maxRecDepth 20000
set_option maxHeartbeats 8000000
namespace Go.Proofs.YtppjdeblncincaaGreatDoor
open Go.RowKit Go.Proofs.Tryz
open _root_.Nat renaming le_refl->A8,zero_le->AZ,zero_add->BJ,add_sub_cancel_left->FD
open Go.RowKit.Below renaming refl->AA
open _root_.Array renaming getElem?_eq_some_iff->AL
open _root_.List renaming length_append->AP,getElem?_eq_some_iff->AV,getElem?_append_right->BD,length_cons->BH,append_nil->DU,length_nil->EW
open Go.Value.slice renaming injEq->AQ
open Go.World renaming cell?->AX,frozen?->FB
open _root_.Option.some renaming injEq->BF,inj->BP
open Go.Builtin renaming zeroCells->BI,copy_->DY
open Go.Addr renaming add_lit->BK
open Go.Addr.mk renaming injEq->EU
open Go.Region renaming wanted->FM
open Go.Value renaming slice->FU
open Go.Obj renaming cells->FV
open Go renaming World->FW,Value->FX,Calls->FZ
open _root_.Option renaming none->G5,some->G6
variable{W V:FW}{b:Nat}{n:Nd}{F:Nat->Prop}{z:Int}{vn vs ve:FX}{ns:List Nd}{ss:List Int}{es:List Ev}
theorem CI5:(prog.info? 3).map (fun i=>(i.zero,i.size,i.bytes))=G6 (G6 (I0 0),1,8):=by kernel_rfl
theorem A10:∃i0,prog.info? 3=G6 i0/\i0.zero=G6 (I0 0)/\i0.size=1/\i0.bytes=8:=by
 obtain⟨i0,h,e⟩:=Option.map_eq_some_iff.1 CI5;simp only[Prod.mk.injEq]at e;exact⟨i0,h,e⟩
def XF:List FX:=[I0 0]
theorem C41(w:FW)(ty:TypeId)(b o c:Nat)(hc:∀j,j<1->(w.cell? ⟨b,o+j,G5⟩).isSome=true)(hf:∀j,j<1->w.frozen? ⟨b,o+j,G5⟩=false):
  (Builtin.clear_ #[35] ty #[FU (G6 ⟨b,o,G5⟩) 1 c]).run prog w=.ok (.tuple #[]) (w.setCells b o XF):=by
 have hzc:(BI (I0 0).cells 1).toList=XF:=by kernel_rfl
 have hst:=run_storeCells_cells (P:=prog) b o XF 0 w (fun j hj=>hc j (by simpa [XF]using hj)) (fun j hj=>hf j (by simpa [XF]using hj)) (by simp[XF,Value.oneCell']);simp only[Nat.add_zero]at hst;simp[Builtin.clear_,run_underlying underlying35,hzc,hst]
theorem A11(g cap:Nat)(A B:List Int)(f:Int)(n:Nat)(w:FW)(ho:JA w g cap (A++f::B))(hn:n=A.length+B.length+1)(hsm:n<=2147483647):
  FZ prog 226 #[FU (G6 ⟨g,0,G5⟩) n cap,I0 A.length,I0 (A.length+1:Nat)] w fun e w'=>
   e=.returned (FU (G6 ⟨g,0,G5⟩) (A.length+B.length) cap)/\JA w' g cap (A++B)/\w.grownBy w' (G6 g):=by
 obtain⟨i0,hi0,hz0,hz1,hz2⟩:=A10;have hle:=ho.le;have hcl:=ho.capLe;simp only[maxLen]at hcl;rw[AP,BH]at hle;have hrow:=ho.row;obtain⟨AD,hAD,hsrc⟩:∃AD:Addr,(if cap=A.length+1 then G6 (⟨g,0,G5⟩:Addr)else G6 ⟨g,(A.length+1),G5⟩)=G6 AD/\Hid (∀t u,(GI B)[t]?=G6 u->w.drew.cell? (AD.add t)=G6 u):=by
  by_cases h:cap=A.length+1
  .refine⟨⟨g,0,G5⟩,by simp[h],fun t u hu=>?_⟩;have h0:B=[]:=List.eq_nil_of_length_eq_zero (by omega);rw[h0]at hu;simp[SE]at hu
  .refine⟨⟨g,(A.length+1),G5⟩,by simp[h],fun t u hu=>?_⟩;rw[BK];have:=hrow ((A.length+1)+t) u (by
    rw[I5,BD (by rw[J7];omega),J7,JU,BD (by rw[Lay.len];show 1<=_;omega)];rw[Lay.len,<-hu];congr 1;show _-1=_;omega)
   rw[BJ]at this;exact this
 have s1:Hid ((GI B).length=B.length*1):=(J7 B).trans (Nat.mul_one _).symm;have s2:Hid (∀u∈GI B,u.oneCell'=true):=JO B;have s3:Hid (∀t,t<(GI B).length->(w.drew.cell? ⟨g,0+A.length*1+t,G5⟩).isSome=true/\w.drew.frozen? ⟨g,0+A.length*1+t,G5⟩=false):=by
  intro t ht;rw[J7]at ht;exact⟨ho.AK4 (by omega),ho.frozen _⟩
 obtain⟨W1,hW1⟩:∃W1,W1=w.drew.setCells g (0+A.length*1) (GI B):=⟨_,rfl⟩;have ho1:JA W1 g cap (A++B):=by rw[hW1,BJ,Nat.mul_one];exact ho.drew.qX B (by omega)
 have hg1:w.grownBy W1 (G6 g):=by rw[hW1];have:=I8 (g:=g) (GI B) (0+A.length*1) w.drew;exact⟨this.os,this.tape,this.output,this.size,this.block⟩
 have CS5:∀ty c,(Builtin.clear_ #[35] ty #[FU (G6 ⟨g,(A.length+B.length),G5⟩) 1 c]).run prog W1=.ok (.tuple #[]) (W1.setCells g ((A.length+B.length)) XF):=fun ty c=>
  C41 W1 ty g _ c (fun j hj=>ho1.AK4 (by omega)) (fun j hj=>ho1.frozen _)
 have FIN:Hid (JA (W1.setCells g ((A.length+B.length)) XF) g cap (A++B)/\w.grownBy (W1.setCells g ((A.length+B.length)) XF) (G6 g)):=
  ⟨ho1.CI2 XF _ (by rw[AP];omega) (by simp[XF];omega),IQ hg1 (I8 _ _ _)⟩
 have hW:Hid (W1=w.drew.setCells g (0+A.length*1) (GI B)):=hW1;have hic:A.length<=cap:=by omega
 have hjc:A.length+1<=cap:=by omega
 have hne:¬ (cap=A.length+B.length):=by omega
 have hb1:(0:Int)<=(A.length:Int)+1:=by omega
 have hb2:(A.length:Int)<=(A.length:Int)+(B.length:Int):=by omega
 have hb3:(0:Int)<=(A.length:Int)+(B.length:Int):=by omega
 have hs1:A.length+B.length+1-(A.length+B.length)=1:=by omega
 clear hW1 ho1 hg1 hrow ho;subst hn;go_enter func226,ntmps226;go_wp2_with fail
 go_region_law (refine step_append_room rfl (.tmp 22) (.tmp 25) 35 rfl 3 i0 1 underlying35 hi0 hz1 g 0 A.length cap (by simp[Act.eval,Act.put]) AD B.length (cap-(A.length+1)) (GI B) (by simp[Act.eval,Act.put]) s1.out hsrc.out s2.out (by omega) s3.out ?_;rw[<-hW.out])
 go_wp2
 go_ret;exact⟨rfl,FIN.out⟩
theorem AA4(w:FW)(ty:TypeId)(b o dLen dCap:Nat)(a:Addr)(sLen sCap:Nat)(cs:List FX)(hn:cs.length=Nat.min sLen dLen)
  (hsrc:∀j v,cs[j]?=G6 v->w.cell? (a.add j)=G6 v) (hc:∀j,j<cs.length->(w.cell? ⟨b,o+j,G5⟩).isSome=true) (hf:∀j,j<cs.length->w.frozen? ⟨b,o+j,G5⟩=false) (h1:∀v∈cs,v.oneCell'=true):
  (DY #[35,35] ty #[FU (G6 ⟨b,o,G5⟩) dLen dCap,FU (G6 a) sLen sCap]).run prog w=.ok (goInt (Nat.min sLen dLen)) (w.setCells b o cs):=by
 have hl:=run_loadCells_list (P:=prog) w a cs hsrc;have hst:=run_storeCells_cells (P:=prog) b o cs 0 w (by simpa using hc) (by simpa using hf) h1;obtain⟨i0,hi0,hz0,hz1,hz2⟩:=A10;simp[DY,run_underlying underlying35,Builtin.lenOf,Builtin.firstCells,sizeOf,typeInfo,hi0,hz1,<-hn,hl,hst]
theorem A12(v:FX)(A:List Int)(x:Int)(B b:Nat)(w:FW)(ho:GZ w B v A)(hB:B<=w.heap.size)(hl:A.length<=2147483647)(h1:JQ w b x):
  FZ prog 225 #[v,I0 A.length,FU (G6 ⟨b,0,G5⟩) 1 1] w fun e w'=>
   ∃v',e=.returned v'/\GZ w' B v' (A++[x])/\w.grownBy w' v.ownBlock/\(v'.ownBlock=v.ownBlock\/v'.ownBlock=G6 w.heap.size):=by
 obtain⟨i0,hi0,hz0,hz1,hz2⟩:=A10;have hrow:=ho.row;have HR:=G8 hrow;have H1:=G8 h1.row;have V:∃a c,v=FU a A.length c/\A.length<=c:=by
  rcases ho with⟨rfl,rfl⟩|⟨g,cap,rfl,_,h⟩
  .exact⟨G5,0,rfl,A8 _⟩
  .exact⟨_,cap,rfl,h.le⟩
 obtain⟨a,c,rfl,hc⟩:=V;clear ho hrow h1;rcases Nat.lt_or_ge A.length c with hcl|hcl
 .have hne:¬c=A.length:=by omega
  go_enter func225,ntmps225;go_wp2_with (at_builtin;refine wpList_append_own_at _ rfl _ _ 35 rfl B 3 i0 _ 1 8 underlying35 hi0 hz0 hz1 hz2 rfl (by decide) _ A.length (GI A) rfl (G7 HR) ⟨b,0,G5⟩ 1 1 [I0 x] rfl (by rfl) ?qc2 ((Lay.one x)) ?qc4 ?qc5 hB ?_)
  case qc2=>
   intro j u hj;rw[BK];exact G7 H1 j u hj
  case qc4=>simp only[maxLen];omega
  case qc5=>omega
  intro v' w1 hown hgrow _ hloc
  go_wp2
  go_ret;exact⟨v',rfl,GZ.L9 (by rw[AP,JH];exact hown),hgrow,hloc⟩
 .obtain rfl:c=A.length:=by omega
  go_enter func225,ntmps225;go_wp2_with (at_builtin;refine wpList_append_own_at _ rfl _ _ 35 rfl B 3 i0 _ 1 8 underlying35 hi0 hz0 hz1 hz2 rfl (by decide) _ A.length (GI A) rfl (G7 HR) ⟨b,0,G5⟩ 1 1 [I0 x] rfl (by rfl) ?qc2 ((Lay.one x)) ?qc4 ?qc5 hB ?_)
  case qc2=>
   intro j u hj;rw[BK];exact G7 H1 j u hj
  case qc4=>simp only[maxLen];omega
  case qc5=>omega
  intro v' w1 hown hgrow _ hloc
  go_wp2
  go_ret;exact⟨v',rfl,GZ.L9 (by rw[AP,JH];exact hown),hgrow,hloc⟩
theorem rD(g cap:Nat)(A R:List Int)(y x:Int)(n b:Nat)(w:FW)(ho:JA w g cap (A++y::R))(hn:n=A.length+R.length+1)(hsm:n<=2147483647)(hroom:n+1<=cap)(h1:JQ w b x)(hbg:b≠g):
  FZ prog 225 #[FU (G6 ⟨g,0,G5⟩) n cap,I0 A.length,FU (G6 ⟨b,0,G5⟩) 1 1] w fun e w'=>
   e=.returned (FU (G6 ⟨g,0,G5⟩) (n+1) cap)/\JA w' g cap (A++x::y::R)/\w.grownBy w' (G6 g):=by
 have hcl:=ho.capLe;simp only[maxLen]at hcl;have hrow:=ho.row;have AY8:w.shape? g=G6 (3,cap):=by
  obtain⟨rest,q1,q2,_⟩:=ho;rw[AP,BH,show Lay.k Int=1 from rfl,Nat.mul_one,Nat.mul_one]at q2;simp[World.shape?,q1,J7];exact⟨rfl,q2⟩
 have AY9:w.shape? b=G6 (3,1):=by unfold JQ at h1;simp[World.shape?,h1];exact⟨rfl,rfl⟩
 have hfb:∀j,w.frozen? ⟨b,j,G5⟩=false:=fun j=>by unfold JQ at h1;simp[FB,h1]
 have hov:∀lb cb,(callFunc 252 #[FU (G6 ⟨b,0,G5⟩) 1 1,FU (G6 ⟨g,(A.length+1),G5⟩) lb cb]).run prog w=.ok (.value (.bool false)) w:=fun lb cb=>by
  rw[run_callFunc_extern func252 (by kernel_rfl) (by kernel_rfl) (by kernel_rfl) (e:=Extern.SlicesOverlaps.overlaps #[35,35] #[4]) (by kernel_rfl),
   Lib.run_overlaps_apart w 35 4 3 underlying35 1 sizeOf3 ⟨b,0,G5⟩ ⟨g,(A.length+1),G5⟩ 1 1 lb cb hbg 3 3 1 cap AY9 AY8 (by omega) (hfb 0) (hfb 1)]
  rfl
 obtain⟨W1,hW1⟩:∃W1,W1=w.drew.setCells g ((A.length+1)) (GI (y::R)):=⟨_,rfl⟩;have ho1:JA W1 g cap (A++y::y::R):=by
  have h:JA w.drew g cap ((A++[y])++R):=by rw[List.append_assoc];exact ho
  have:=h.qX (y::R) (by simp;omega);rw[hW1];simpa using this
 have hg1:w.grownBy W1 (G6 g):=by rw[hW1];have:=I8 (g:=g) (GI (y::R)) ((A.length+1)) w.drew;exact⟨this.os,this.tape,this.output,this.size,this.block⟩
 have hcp1:∀ty dc sc,(DY #[35,35] ty #[FU (G6 ⟨g,(A.length+1),G5⟩) (n-A.length) dc,FU (G6 ⟨g,A.length,G5⟩) (n+1-A.length) sc]).run prog w.drew=.ok (goInt (Nat.min (n+1-A.length) (n-A.length))) W1:=fun ty dc sc=>by
  rw[hW1];exact AA4 w.drew ty g _ _ dc ⟨g,A.length,G5⟩ _ sc (GI (y::R)) (by rw[J7];simp only[Nat.min_def,BH];split<;>omega)
   (fun j v hj=>by
    rw[BK];have:=hrow (A.length+j) v (by rw[I5,BD (by rw[J7];omega),J7,FD];exact hj);rw[BJ]at this;exact this)
   (fun j hj=>by rw[J7]at hj;exact ho.AK4 (by simp at hj;omega)) (fun j _=>ho.frozen _) (JO _)
 have hcp2:∀ty dc,(DY #[35,35] ty #[FU (G6 ⟨g,A.length,G5⟩) (n+1-A.length) dc,FU (G6 ⟨b,0,G5⟩) 1 1]).run prog W1=.ok (goInt (Nat.min 1 (n+1-A.length))) (W1.setCells g (A.length) [I0 x]):=fun ty dc=>
  AA4 W1 ty g _ _ dc ⟨b,0,G5⟩ 1 1 [I0 x] (by simp only[Nat.min_def,BH,EW];split<;>omega)
   (fun j v hj=>by
    rw[BK];have hb2:W1.heap[b]?=w.heap[b]? :=hg1.block b (by unfold JQ at h1;exact(AL.1 h1).1) (fun e=>hbg (BP e));have h2:JQ W1 b x:=hb2.trans h1;exact h2.row j v hj)
   (fun j hj=>ho1.AK4 (by simp at hj;omega)) (fun j _=>ho1.frozen _) ((Lay.one x))
 have FIN:Hid (JA (W1.setCells g (A.length) [I0 x]) g cap (A++x::y::R)/\w.grownBy (W1.setCells g (A.length) [I0 x]) (G6 g)):=
  ⟨ho1.CU6 x,IQ hg1 (I8 _ _ _)⟩
 have hin:A.length<n:=by omega
 have C32:(A.length:Int)<(n:Int):=by omega
 have hw1:IntKind.i64.wrap ((A.length:Int)+1)=(A.length:Int)+1:=by rw[IntKind.wrap_i64];omega
 have hb1:(0:Int)<=(A.length:Int)+1:=by omega
 have hb2:¬ (cap=A.length+1):=by omega
 have hb3:(A.length:Int)<=(n:Int)+1:=by omega
 have hb4:¬ (cap=A.length):=by omega
 have hb5:(A.length:Int)+1<=(n:Int)+1:=by omega
 have hb6:¬ ((cap:Int)<(n:Int)+1):=by omega
 have hz2:¬ ((A.length:Int)=(n:Int)):=by omega
 have htn:((A.length:Int)+1).toNat=A.length+1:=by omega
 clear hW1 ho1 hg1 hrow AY8 AY9 hfb ho h1 hn;go_enter func225,ntmps225;go_wp2_with (simp only[hov])
 go_region_law (refine MS rfl (.tmp 73) (.tmp 76) 35 35 rfl (FU (G6 ⟨g,(A.length+1),G5⟩) (n-A.length) (cap-(A.length+1))) (FU (G6 ⟨g,A.length,G5⟩) (n+1-A.length) (cap-A.length)) (by simp[Act.eval,Act.put]) (by simp[Act.eval,Act.put]) (hcp1 _ _ _) ?_)
 go_wp2_with (at_builtin;refine LD _ rfl _ _ 35 35 rfl _ _ rfl rfl (hcp2 _ _) ?_);go_ret;exact⟨rfl,FIN.out⟩
theorem CI7(k:Nat):(BI (I0 0).cells k).size=k:=by
 simp[BI,Value.cells]
theorem wB(g cap:Nat)(A R:List Int)(y x:Int)(n b:Nat)(w:FW)(ho:JA w g cap (A++y::R))(hn:n=A.length+R.length+1)(hsm:n<=2147483647)(hroom:cap<n+1)(h1:JQ w b x):
  FZ prog 225 #[FU (G6 ⟨g,0,G5⟩) n cap,I0 A.length,FU (G6 ⟨b,0,G5⟩) 1 1] w fun e w'=>
   ∃cap',e=.returned (FU (G6 ⟨w.heap.size,0,G5⟩) (n+1) cap')/\JA w' w.heap.size cap' (A++x::y::R)/\B0 w w':=by
 have hcap:cap=n:=by have:=ho.le;simp at this;omega
 obtain⟨i0,hi0,hz0,hz1,hz2⟩:=A10;have hrow:=ho.row;have hgw:=ho.lt;have hbw:b<w.heap.size:=by unfold JQ at h1;exact(AL.1 h1).1
 have hold:(Builtin.firstCells i0.size A.length (FU (G6 ⟨g,0,G5⟩) A.length cap)).run prog w.drew=.ok (GI A).toArray w.drew:=by
  rw[hz1];exact run_firstCells_some w.drew 1 A.length ⟨g,0,G5⟩ A.length cap (GI A) ((J7 A).trans (Nat.mul_one _).symm) (fun j v hj=>by
   rw[BK];exact hrow j v (by rw[I5,List.getElem?_append_left (AV.1 hj).1];exact hj))
 obtain⟨G,hG⟩:∃G,G=grownCap w (n+1) cap 3:=⟨_,rfl⟩;have hGn:n+1<=G:=by rw[hG];exact grownCap_ge w _ _ _
 have hGm:G<=maxLen:=by rw[hG];exact grownCap_le_maxLen w (n+1) cap _ (by unfold maxLen;omega)
 have hG63:G<=9223372036854775807:=by have:=hGm;unfold maxLen at this;omega
 obtain⟨ROW,hROW⟩:∃ROW:Array FX,ROW=(GI A).toArray++BI (I0 0).cells (n+1-A.length)++BI (I0 0).cells (G-(n+1)):=⟨_,rfl⟩;obtain⟨W1,hW1⟩:∃W1,W1=w.drew.alloc (FV ROW 3):=⟨_,rfl⟩;have hik:A.length+(n+1-A.length)=n+1:=by omega
 have hrz:∀ty,(Builtin.append_ #[35,3] ty #[FU (G6 ⟨g,0,G5⟩) A.length cap,I0 ((n:Int)+1-(A.length:Int))]).run prog w=
   .ok (FU (G6 ⟨w.heap.size,0,G5⟩) (n+1) G) W1:=fun ty=>by
  have h:=Lib.run_append_grow_zeros w 35 3 ty 3 i0 _ .i64 .i64 underlying35 underlying3 hi0 hz0 (G6 ⟨g,0,G5⟩) A.length cap (GI A) hold (n+1-A.length) (by omega) (by omega) (by omega) (by omega) (by rw[hz2];omega) (by rw[hz2,hik];exact growslice_fits hroom (by omega));rw[hik,<-hG,<-hROW,<-hW1]at h;rw[show (n:Int)+1-(A.length:Int)=((n+1-A.length:Nat):Int) by omega];exact h
 have ho1:JA W1 w.heap.size G A:=by
  refine⟨(BI (I0 0).cells (n+1-A.length)++BI (I0 0).cells (G-(n+1))).toList,?_,?_,by omega,hGm⟩
  .rw[hW1,hROW];have:=heap_alloc_new w.drew (FV ((GI A).toArray++BI (I0 0).cells (n+1-A.length)++BI (I0 0).cells (G-(n+1))) 3);refine Eq.trans this ?_
   congr 2
   apply Array.toList_inj.1
   simp
  .simp only[show Lay.k Int=1 from rfl,Array.length_toList,Array.size_append,CI7,Nat.mul_one];omega
 have hB1:B0 w W1:=by rw[hW1];exact((AA _ w).drew).alloc (A8 _) _
 obtain⟨W2,hW2⟩:∃W2,W2=W1.setCells w.heap.size (A.length) [I0 x]:=⟨_,rfl⟩;have ho2:JA W2 w.heap.size G (A++[x]):=by
  have h:JA W1 w.heap.size G (A++[]):=by rw[DU];exact ho1
  have:=h.qX [x] (by simp;omega);rw[hW2];rw[JU,SE,DU]at this;exact this
 have hg2:W1.grownBy W2 (G6 w.heap.size):=by rw[hW2];exact I8 _ _ _
 have hB2:B0 w W2:=hB1.grown hg2 hB1.size (fun k e=>by cases e;exact A8 _);have hcpA:∀ty dc,(DY #[35,35] ty #[FU (G6 ⟨w.heap.size,A.length,G5⟩) (n+1-A.length) dc,FU (G6 ⟨b,0,G5⟩) 1 1]).run prog W1=.ok (goInt (Nat.min 1 (n+1-A.length))) W2:=fun ty dc=>by
  rw[hW2];exact AA4 W1 ty w.heap.size _ _ dc ⟨b,0,G5⟩ 1 1 [I0 x] (by simp only[Nat.min_def,BH,EW];split<;>omega)
   (fun j v hj=>by rw[BK];exact(show JQ W1 b x from(hB1.block b hbw).trans h1).row j v hj)
   (fun j hj=>ho1.AK4 (by simp at hj;omega)) (fun j _=>ho1.frozen _) ((Lay.one x))
 obtain⟨W3,hW3⟩:∃W3,W3=W2.drew.setCells w.heap.size ((A.length+1)) (GI (y::R)):=⟨_,rfl⟩;have hcpB:∀ty dc sc,(DY #[35,35] ty #[FU (G6 ⟨w.heap.size,(A.length+1),G5⟩) (n-A.length) dc,FU (G6 ⟨g,A.length,G5⟩) (n-A.length) sc]).run prog W2.drew=.ok (goInt (Nat.min (n-A.length) (n-A.length))) W3:=fun ty dc sc=>by
  rw[hW3];exact AA4 W2.drew ty w.heap.size _ _ dc ⟨g,A.length,G5⟩ _ sc (GI (y::R)) (by rw[J7];simp only[Nat.min_self,BH];omega)
   (fun j v hj=>by
    rw[BK];have:=hrow (A.length+j) v (by rw[I5,BD (by rw[J7];omega),J7,FD];exact hj);rw[BJ]at this;exact(hB2.cell (p:=⟨g,A.length+j,G5⟩) hgw).trans this)
   (fun j hj=>by rw[J7]at hj;exact ho2.drew.AK4 (by simp at hj;omega)) (fun j _=>ho2.drew.frozen _) (JO _)
 have FIN:Hid (JA W3 w.heap.size G (A++x::y::R)/\B0 w W3):=by
  refine⟨?_,?_⟩
  .have h:JA W2.drew w.heap.size G ((A++[x])++[]):=by rw[DU];exact ho2
   have:=h.qX (y::R) (by simp;omega);rw[hW3];simpa using this
  .rw[hW3];exact hB2.drew.grown (I8 _ _ _) hB2.size (fun k e=>by cases e;exact A8 _)
 have hin:A.length<n:=by omega
 have C32:(A.length:Int)<(n:Int):=by omega
 have hw1:IntKind.i64.wrap ((A.length:Int)+1)=(A.length:Int)+1:=by rw[IntKind.wrap_i64];omega
 have hb1:(0:Int)<=(A.length:Int)+1:=by omega
 have hb2:¬ (G=A.length+1):=by omega
 have hb3:(A.length:Int)<=(n:Int)+1:=by omega
 have hb4:¬ (n=A.length):=by omega
 have hb5:(A.length:Int)+1<=(n:Int)+1:=by omega
 have hb6:¬ (G=A.length):=by omega
 have hb7:(A.length:Int)<=(n:Int):=by omega
 have hz3:¬ ((A.length:Int)=(n:Int)):=by omega
 have htn:((A.length:Int)+1).toNat=A.length+1:=by omega
 subst hcap;clear hn hROW hW1 hW2 hW3 hG hrow ho h1 ho1 ho2 hB1 hB2 hg2 hold hik;go_enter func225,ntmps225;go_wp2_with (first
  |(at_builtin;refine Lib.wpList_append_run _ rfl _ _ _ _ rfl _ _ rfl rfl _ _ (hrz _) ?_)
  |(at_builtin;refine LD _ rfl _ _ 35 35 rfl _ _ rfl rfl (hcpA _ _) ?_))
 go_region_law (refine MS rfl (.tmp 50) (.tmp 53) 35 35 rfl (FU (G6 ⟨w.heap.size,(A.length+1),G5⟩) (cap-A.length) (G-(A.length+1))) (FU (G6 ⟨g,A.length,G5⟩) (cap-A.length) (cap-A.length)) (by simp[Act.eval,Act.put]) (by simp[Act.eval,Act.put]) (hcpB _ _ _) ?_)
 go_wp2
 go_ret;exact⟨G,rfl,FIN.out⟩
theorem A13(v:FX)(A R:List Int)(x:Int)(q:Nat)(w:FW)(ho:GZ w 0 v (A++R))(hl:(A++R).length<=2147483647)(h1:JQ w q x)(hq:v.ownBlock≠G6 q):
  FZ prog 225 #[v,I0 A.length,FU (G6 ⟨q,0,G5⟩) 1 1] w fun e w'=>
   ∃v',e=.returned v'/\GZ w' 0 v' (A++x::R)/\w.grownBy w' v.ownBlock/\(v'.ownBlock=v.ownBlock\/∃k,w.heap.size<=k/\v'.ownBlock=G6 k):=by
 cases R with
 |nil=>
  rw[DU]at ho hl;refine(A12 v A x 0 q w ho (AZ _) hl h1).mono ?_;rintro e w' ⟨v',rfl,h2,h3,h4⟩;refine⟨v',rfl,h2,h3,?_⟩;rcases h4 with h|h
  .exact .inl h
  .exact .inr ⟨_,A8 _,h⟩
 |cons y R=>
  rcases ho with⟨_,h⟩|⟨g,cap,rfl,_,ho⟩
  .simp at h
  .have hn:(A++y::R).length=A.length+R.length+1:=by simp;omega
   by_cases hc:(A++y::R).length+1<=cap
   .refine(rD g cap A R y x _ q w ho hn hl hc h1 (fun e=>hq (by rw[e];rfl))).mono ?_;rintro e w' ⟨rfl,h2,h3⟩;exact⟨_,rfl,.inr ⟨g,cap,by simp;omega,AZ _,h2⟩,h3,.inl rfl⟩
   .refine(wB g cap A R y x _ q w ho hn hl (by omega) h1).mono ?_;rintro e w' ⟨cap',rfl,h2,h3⟩;exact⟨_,rfl,.inr ⟨w.heap.size,cap',by simp;omega,AZ _,h2⟩,⟨h3.os,h3.tape,h3.output,h3.size,fun k hk _=>h3.block k hk⟩,.inr ⟨_,A8 _,rfl⟩⟩
theorem NQ(s:List UInt8)(w:FW)(hs:s.length<=281474976710656):
  FZ prog 48 #[S0 s] w (R0 w (S0 s)):=WU ⟨s.toArray⟩ w hs
theorem JQ.JE(h:JQ W b n)(j:Nat)(v:FX)(hj:(MF n)[j]?=G6 v):W.cell? ⟨b,j,G5⟩=G6 v:=by
 have:=h.row j v hj;rwa[BJ]at this
theorem JQ.J8(h:JQ W b n)(j:Nat):W.frozen? ⟨b,j,G5⟩=false:=by
 unfold JQ at h;simp[FB,h]
theorem JQ.B05(h:JQ W b n)(hb:B0 W V):JQ V b n:=by
 unfold JQ at h⊢;exact(hb.block _ (AL.1 h).1).trans h
def WG:Nd:=⟨[],[],0,0,0,0,0,0,0⟩
theorem ZL(n:Nd)(w:FW)(hp:n.p.length<=140737488355328)(hd:n.d.length<=140737488355328):
  FZ prog 29 #[TI n] w (R0 w (TI n)):=by
 have C1:=fun W=>NQ n.p W (by omega);have C2:=fun W=>NQ n.d W (by omega);have X0:∀W,W=(w.alloc (FV (MF n).toArray 62)).alloc (FV (MF WG).toArray 62)->JQ W w.heap.size n/\JQ W (w.heap.size+1) WG/\B0 w W:=by
  rintro W rfl;refine⟨?_,?_,((AA _ _).alloc (A8 _) _).alloc (by simp) _⟩
  .unfold JQ;exact(((AA (w.heap.size+1) (w.alloc (FV (MF n).toArray 62))).alloc (by simp) (FV (MF WG).toArray 62)).block _ (by omega)).trans (heap_alloc_new w _)
  .have:=heap_alloc_new (w.alloc (FV (MF n).toArray 62)) (FV (MF WG).toArray 62);rw[show (w.alloc (FV (MF n).toArray 62)).heap.size=w.heap.size+1 by simp]at this;exact this
 have X:=G8 X0;clear X0;unfold TI;go_enter func29,ntmps29;go_wp2_with fail;generalize hW0:(w.alloc _).alloc _=W0;obtain⟨x1,x2,x3⟩:=G7 X W0 hW0.symm;clear hW0 X;refine(C1 _).mono ?_;rintro e w1 ⟨rfl,hb1⟩;have y1:=x1.B05 hb1;have e0:=y1.JE 0 _ rfl;have e1:=y1.JE 1 _ rfl;have f0:=y1.J8 0;have hs0:=I9 e0;have Y1:=G8 y1;have Y2:=G8 (x2.B05 hb1);have B1:=G8 (GH x3 hb1);clear y1 x1 x2 x3 hb1 C1;go_wp2_with fail;refine(C2 _).mono ?_;rintro e w2 ⟨rfl,hb2⟩;have y1:=(G7 Y1).B05 hb2;have y2:=(G7 Y2).B05 hb2;have B2:=G8 (GH (G7 B1) hb2);clear e0 e1 f0 hs0 C2 hb2 Y1 Y2;have c0:=y1.JE 0 _ rfl;have c1:=y1.JE 1 _ rfl;have c2:=y1.JE 2 _ rfl;have c3:=y1.JE 3 _ rfl;have c4:=y1.JE 4 _ rfl;have c5:=y1.JE 5 _ rfl;have c6:=y1.JE 6 _ rfl;have c7:=y1.JE 7 _ rfl;have c8:=y1.JE 8 _ rfl;have d0:=y2.JE 0 _ rfl;have d1:=y2.JE 1 _ rfl;have d2:=y2.JE 2 _ rfl;have d3:=y2.JE 3 _ rfl;have d4:=y2.JE 4 _ rfl;have d5:=y2.JE 5 _ rfl;have d6:=y2.JE 6 _ rfl;have d7:=y2.JE 7 _ rfl;have d8:=y2.JE 8 _ rfl;have f1:=y1.J8 1;have g0:=y2.J8 0;have g1:=y2.J8 1;have g2:=y2.J8 2;have g3:=y2.J8 3;have g4:=y2.J8 4;have g5:=y2.J8 5;have g6:=y2.J8 6;have g7:=y2.J8 7;have g8:=y2.J8 8;have hs1:=I9 c1;have hne:w.heap.size≠w.heap.size+1:=by omega
 clear y1 y2;go_wp2_with fail;have BB:=G7 B2;exact bodyPost_ret (v:=TI n) (by simp[results,results29,go_sem,TI,d0,d1,d2,d3,d4,d5,d6,d7,d8]) rfl
  ⟨rfl,((((((((BB.setCell (by simp) _).setCell (by simp) _).setCell (by simp) _).setCell (by simp) _).setCell (by simp) _).setCell (by simp) _).setCell (by simp) _).setCell (by simp) _).setCell (by simp) _⟩
structure Grow(W:FW)(F:Nat->Prop)(b:Nat)(z:Int)(vn vs ve:FX)(ns:List Nd)(ss:List Int)(es:List Ev):Prop where
 blk:W.heap[b]?=G6 (FV #[I0 z,vn,vs,ve] 248 (0,0))
 fb:F b
 n:GZ W 0 vn ns
 s:GZ W 0 vs ss
 e:GZ W 0 ve es
 fn:∀k,vn.ownBlock=G6 k->F k/\k≠b
 fs:∀k,vs.ownBlock=G6 k->F k/\k≠b
 fe:∀k,ve.ownBlock=G6 k->F k/\k≠b
 an:∀k,vn.ownBlock=G6 k->vs.ownBlock≠G6 k/\ve.ownBlock≠G6 k
 asn:∀k,vs.ownBlock=G6 k->ve.ownBlock≠G6 k
theorem Grow.lt(h:Grow W F b z vn vs ve ns ss es):b<W.heap.size:=(AL.1 h.blk).1
theorem Grow.next(h:Grow W F b z vn vs ve ns ss es)(hb:B0 W V):Grow V F b z vn vs ve ns ss es:=
 ⟨(hb.block _ h.lt).trans h.blk,h.fb,h.n.next hb,h.s.next hb,h.e.next hb,h.fn,h.fs,h.fe,h.an,h.asn⟩
theorem Grow.cut{G:Nat->Prop}(h:Grow W F b z vn vs ve ns ss es)(hg:∀k,k<W.heap.size->F k->G k):Grow W G b z vn vs ve ns ss es:=
 ⟨h.blk,hg b h.lt h.fb,h.n,h.s,h.e,fun k hk=>⟨hg k (h.n.low k hk) (h.fn k hk).1,(h.fn k hk).2⟩,fun k hk=>⟨hg k (h.s.low k hk) (h.fs k hk).1,(h.fs k hk).2⟩,fun k hk=>⟨hg k (h.e.low k hk) (h.fe k hk).1,(h.fe k hk).2⟩,h.an,h.asn⟩
theorem Grow.c0(h:Grow W F b z vn vs ve ns ss es):W.cell? ⟨b,0,G5⟩=G6 (I0 z):=by simp[AX,h.blk]
theorem Grow.c1(h:Grow W F b z vn vs ve ns ss es):W.cell? ⟨b,1,G5⟩=G6 vn:=by simp[AX,h.blk]
theorem Grow.c2(h:Grow W F b z vn vs ve ns ss es):W.cell? ⟨b,2,G5⟩=G6 vs:=by simp[AX,h.blk]
theorem Grow.c3(h:Grow W F b z vn vs ve ns ss es):W.cell? ⟨b,3,G5⟩=G6 ve:=by simp[AX,h.blk]
theorem Grow.fz(h:Grow W F b z vn vs ve ns ss es)(j:Nat):W.frozen? ⟨b,j,G5⟩=false:=by simp[FB,h.blk]
theorem Grow.ev{ve':FX}{es':List Ev}(h:Grow W F b z vn vs ve ns ss es)(hF:∀k,W.heap.size<=k->F k)(hg:W.grownBy V ve.ownBlock)(he:GZ V 0 ve' es')(hl:ve'.ownBlock=ve.ownBlock\/ve'.ownBlock=G6 W.heap.size):
  Grow (V.setCell ⟨b,3,G5⟩ ve') F b z vn vs ve' ns ss es':=by
 have hbe:G6 b≠ve.ownBlock:=fun e=>(h.fe b e.symm).2 rfl;have hb:=h.lt;have hne:∀k,ve'.ownBlock=G6 k->F k/\k≠b/\vn.ownBlock≠G6 k/\vs.ownBlock≠G6 k:=by
  intro k hk;rcases hl with e|e
  .rw[e]at hk;exact⟨(h.fe k hk).1,(h.fe k hk).2,fun hn=>(h.an k hn).2 hk,fun hs=>h.asn k hs hk⟩
  .rw[e]at hk
   cases hk
   exact⟨hF _ (A8 _),by omega,fun hn=>by have:=h.n.low _ hn;omega,fun hs=>by have:=h.s.low _ hs;omega⟩
 refine⟨?_,h.fb,?_,?_,?_,h.fn,h.fs,fun k hk=>⟨(hne k hk).1,(hne k hk).2.1⟩,fun k hk=>⟨(h.an k hk).1,fun e=>(hne k e).2.2.1 hk⟩,fun k hk e=>(hne k e).2.2.2 hk⟩
 .rw[GV ve' ((hg.block b hb hbe).trans h.blk)];rfl
 .exact(h.n.grown hg (fun k hk e=>(h.an k hk).2 e.symm)).other (fun e=>(h.fn b e).2 rfl) _
 .exact(h.s.grown hg (fun k hk e=>h.asn k hk e.symm)).other (fun e=>(h.fs b e).2 rfl) _
 .exact he.other (fun e=>(hne b e).2.1 rfl) _
theorem Grow.nd{vn':FX}{ns':List Nd}(h:Grow W F b z vn vs ve ns ss es)(hF:∀k,W.heap.size<=k->F k)(hg:W.grownBy V vn.ownBlock)(hn':GZ V 0 vn' ns')(hl:vn'.ownBlock=vn.ownBlock\/∃k,W.heap.size<=k/\vn'.ownBlock=G6 k):
  Grow (V.setCell ⟨b,1,G5⟩ vn') F b z vn' vs ve ns' ss es:=by
 have hbn:G6 b≠vn.ownBlock:=fun e=>(h.fn b e.symm).2 rfl;have hb:=h.lt;have hne:∀k,vn'.ownBlock=G6 k->F k/\k≠b/\vs.ownBlock≠G6 k/\ve.ownBlock≠G6 k:=by
  intro k hk;rcases hl with e|⟨j,hj,e⟩
  .rw[e]at hk;exact⟨(h.fn k hk).1,(h.fn k hk).2,(h.an k hk).1,(h.an k hk).2⟩
  .rw[e]at hk
   cases hk
   exact⟨hF _ hj,by omega,fun hs=>by have:=h.s.low _ hs;omega,fun hs=>by have:=h.e.low _ hs;omega⟩
 refine⟨?_,h.fb,?_,?_,?_,fun k hk=>⟨(hne k hk).1,(hne k hk).2.1⟩,h.fs,h.fe,fun k hk=>(hne k hk).2.2,h.asn⟩
 .rw[GV vn' ((hg.block b hb hbn).trans h.blk)];rfl
 .exact hn'.other (fun e=>(hne b e).2.1 rfl) _
 .exact(h.s.grown hg (fun k hk e=>(h.an k e.symm).1 hk)).other (fun e=>(h.fs b e).2 rfl) _
 .exact(h.e.grown hg (fun k hk e=>(h.an k e.symm).2 hk)).other (fun e=>(h.fe b e).2 rfl) _
theorem Grow.se{vs':FX}{ss':List Int}(h:Grow W F b z vn vs ve ns ss es)(hF:∀k,W.heap.size<=k->F k)(hg:W.grownBy V vs.ownBlock)(hn':GZ V 0 vs' ss')(hl:vs'.ownBlock=vs.ownBlock\/∃k,W.heap.size<=k/\vs'.ownBlock=G6 k):
  Grow (V.setCell ⟨b,2,G5⟩ vs') F b z vn vs' ve ns ss' es:=by
 have hbn:G6 b≠vs.ownBlock:=fun e=>(h.fs b e.symm).2 rfl;have hb:=h.lt;have hne:∀k,vs'.ownBlock=G6 k->F k/\k≠b/\vn.ownBlock≠G6 k/\ve.ownBlock≠G6 k:=by
  intro k hk;rcases hl with e|⟨j,hj,e⟩
  .rw[e]at hk;exact⟨(h.fs k hk).1,(h.fs k hk).2,fun hn=>(h.an k hn).1 hk,h.asn k hk⟩
  .rw[e]at hk
   cases hk
   exact⟨hF _ hj,by omega,fun hs=>by have:=h.n.low _ hs;omega,fun hs=>by have:=h.e.low _ hs;omega⟩
 refine⟨?_,h.fb,?_,?_,?_,h.fn,fun k hk=>⟨(hne k hk).1,(hne k hk).2.1⟩,h.fe,fun k hk=>⟨fun e=>(hne k e).2.2.1 hk,(h.an k hk).2⟩,fun k hk=>(hne k hk).2.2.2⟩
 .rw[GV vs' ((hg.block b hb hbn).trans h.blk)];rfl
 .exact(h.n.grown hg (fun k hk e=>(h.an k hk).1 e.symm)).other (fun e=>(h.fn b e).2 rfl) _
 .exact hn'.other (fun e=>(hne b e).2.1 rfl) _
 .exact(h.e.grown hg (fun k hk e=>h.asn k e.symm hk)).other (fun e=>(h.fe b e).2 rfl) _
theorem Grow.put{g cap:Nat}{A B:List Nd}{m:Nd}{l:Nat}(h:Grow W F b z (FU (G6 ⟨g,0,G5⟩) l cap) vs ve (A++n::B) ss es){c:Nat}(hc:c<9){v:FX}(hm:MF m=(MF n).set c v):
  Grow (W.setCell ⟨g,A.length*9+c,G5⟩ v) F b z (FU (G6 ⟨g,0,G5⟩) l cap) vs ve (A++m::B) ss es:=by
 have hgb:=(h.fn g rfl).2;refine⟨(Below.heap_setCell W ⟨g,_,G5⟩ v b (fun e=>hgb e.symm)).trans h.blk,h.fb,?_,?_,?_,h.fn,h.fs,h.fe,h.an,h.asn⟩
 .rcases h.n with⟨h1,_⟩|⟨g',cap',h1,h2,h3⟩
  .cases h1
  .simp only[AQ,BF,EU,and_true]at h1;obtain⟨rfl,rfl,rfl⟩:=h1;refine .inr ⟨g,cap,by simp,h2,?_⟩;exact h3.set (c:=c) (by exact hc) hm
 .exact h.s.other (fun e=>(h.an g rfl).1 e) _
 .exact h.e.other (fun e=>(h.an g rfl).2 e) _
theorem Grow.iF(h:Grow W F b z vn vs ve ns ss es)(h0:ns≠[]):∃g cap,vn=FU (G6 ⟨g,0,G5⟩) ns.length cap/\JA W g cap ns/\g≠b/\F g:=by
 rcases h.n with⟨_,h1⟩|⟨g,cap,rfl,_,h3⟩
 .exact absurd h1 h0
 .exact⟨g,cap,rfl,h3,(h.fn g rfl).2,(h.fn g rfl).1⟩
theorem A15{w:FW}{ops:Array Oper}{o:Oper}{a:Act}{K:Act->FW->Prop}{Q:Exit->Act->FW->Prop}{E:Prop}(hgd:FM o (yielded ops a.tmps)=true)(s x:Operand)
  (ho:o.op=.call {callee:=.builtin .append,args:=#[s,x],argTypes:=#[198,198]})
  (v:FX) (es:List Ev) (hs:a.eval s=v) (hown:GZ w 0 v es)
  (q:Nat) (hx:a.eval x=FU (G6 ⟨q,0,G5⟩) 1 1) (t:Ev) (hnews:JQ w q t) (hl:es.length<=100000)
  (h:∀a' c' w',GZ w' 0 (FU a' (es.length+1) c') (es++[t])->w.grownBy w' v.ownBlock->((Value.slice a' (es.length+1) c').ownBlock=v.ownBlock\/(Value.slice a' (es.length+1) c').ownBlock=G6 w.heap.size)->K (a.put o.dst (FU a' (es.length+1) c')) w'):
  if FM o (yielded ops a.tmps)=true then Oper.wp prog o a w K Q else E:=by
 rw[if_pos hgd];obtain⟨i0,hi0,hz0,hz1,hz2⟩:=CU3;obtain⟨v',w',hr,h2,h3,_,h5⟩:=run_append_own_at (P:=prog) w 0 198 o.type 74 i0 _ 2 24 underlying198 hi0 hz0 hz1 hz2 rfl (by decide) v es.length (GI es) hown.row ⟨q,0,G5⟩ 1 1 (AX1 t) rfl (RP hnews) (Lay.one t) (by simp only[maxLen];omega) (by omega) (AZ _);have h2':GZ w' 0 v' (es++[t]):=GZ.L9 (by rw[AP,JH];exact h2);obtain⟨a',c',rfl,_⟩:=h2'.slice;have hlen:(es++[t]).length=es.length+1:=by simp
 rw[hlen]at h2' hr h5;unfold Oper.wp execOp;simp only[ho,resolve,invoke,builtin,Sem.run_bind,Sem.run_pure,Result.andThen_ok,List.map_toArray,List.map_cons,List.map_nil,hs,hx,hr];exact h a' c' w' h2' h3 h5
theorem iG(F:Nat->Prop)(b:Nat)(z:Int)(vn vs ve:FX)(ns:List Nd)(ss:List Int)(es:List Ev)(kind:Int)(p:List UInt8)(w:FW)
  (h:Grow w F b z vn vs ve ns ss es) (hF:∀k,w.heap.size<=k->F k) (hp:p.length<=140737488355328) (hl:es.length<=100000):
  FZ prog 229 #[P0 b,I0 kind,S0 p] w fun e w'=>
   e=.returned (.tuple #[])/\∃ve',Grow w' F b z vn vs ve' ns ss (es++[⟨kind,p⟩])/\Touch F w w':=by
 have C:=fun W=>NQ p W (by omega);have c3:=h.c3;have f3:=h.fz 3;have HG:=G8 h;have HF:=G8 hF;obtain⟨ea,ec,rfl,_⟩:=h.e.slice;have K1:=G8 (fun w1 (hb1:B0 w w1)=>(⟨(h.next hb1).c3,(h.next hb1).fz 3,(h.next hb1).lt,((h.next hb1).next (G9 _ _)).c3⟩:w1.cell? ⟨b,3,G5⟩=G6 (FU ea es.length ec)/\w1.frozen? ⟨b,3,G5⟩=false/\b<w1.heap.size/\(w1.alloc (FV #[I0 kind,S0 p] 74)).cell? ⟨b,3,G5⟩=G6 (FU ea es.length ec)));have KE:=G8 (fun w1 (hb1:B0 w w1)=>(h.next hb1).e.next (G9 w1 (FV #[I0 kind,S0 p] 74)));have K2:∀ (w1 w2:FW) (a2:Option Addr) (c2:Nat),B0 w w1->GZ w2 0 (FU a2 (es.length+1) c2) (es++[⟨kind,p⟩])->(w1.alloc (FV #[I0 kind,S0 p] 74)).grownBy w2 (Value.slice ea es.length ec).ownBlock->
   ((Value.slice a2 (es.length+1) c2).ownBlock=(Value.slice ea es.length ec).ownBlock\/(Value.slice a2 (es.length+1) c2).ownBlock=G6 (w1.alloc (FV #[I0 kind,S0 p] 74)).heap.size)->
   w2.cell? ⟨b,3,G5⟩=G6 (FU ea es.length ec)/\w2.frozen? ⟨b,3,G5⟩=false/\Grow (w2.setCell ⟨b,3,G5⟩ (FU a2 (es.length+1) c2)) F b z vn vs (FU a2 (es.length+1) c2) ns ss (es++[⟨kind,p⟩])/\Touch F w (w2.setCell ⟨b,3,G5⟩ (FU a2 (es.length+1) c2)):=by
  intro w1 w2 a2 c2 hb1 ho2 hg2 hl2;have g1:=(h.next hb1).next (G9 w1 (FV #[I0 kind,S0 p] 74));have n3:¬ (Value.slice ea es.length ec).ownBlock=G6 b:=fun e=>(h.fe b e).2 rfl;refine⟨hg2.cell g1.c3 (fun e=>n3 e.symm),(World.frozen?_of_block (hg2.block b g1.lt (fun e=>n3 e.symm))).trans (g1.fz 3),g1.ev (fun k hk=>hF k (by have:=hb1.size;simp at hk;omega)) hg2 ho2 hl2,?_⟩;exact(((Touch.of_below hb1).trans (Touch.of_below (G9 _ _))).trans (Touch.VI hg2 (fun k e=>(h.fe k e).1))).trans (Touch.set h.fb _)
 have HK2:=G8 K2;clear h hF hp K2;go_enter func229,ntmps229;go_wp2_with fail
 go_region_law (first
  |(refine A15 (by kernel_rfl) _ _ (by rfl) (FU ea es.length ec) es (by rfl) (G7 KE w1 (G7 HB1)) w1.heap.size (by rfl) ⟨kind,p⟩ (zU w1 kind p) hl ?_;intro a2 c2 w2 ho2 hg2 hl2;obtain⟨m3,l3,g2,t2⟩:=G7 HK2 w1 w2 a2 c2 (G7 HB1) ho2 hg2 hl2;have HG2:=G8 g2;have HT2:=G8 t2;clear ho2 hg2 hl2 g2 t2)
  |(go_simp;refine(C _).mono ?_;rintro e w1 ⟨rfl,hb1⟩;have HB1:Hid (B0 w w1):=(by first|exact hb1|exact IB hb1);obtain⟨d3,k3,hbn,d3a⟩:=G7 K1 w1 (G7 HB1);clear hb1))
 all_goals go_wp2_with fail
 all_goals go_end0
 all_goals exact⟨rfl,_,G7 HG2,G7 HT2⟩
theorem kC(a:Addr)(cap:Nat)(ss:List Int)(w:FW)(hl:ss.length<=2147483647)(hc:∀j u,(GI ss)[j]?=G6 u->w.cell? (a.add j)=G6 u):
  FZ prog 37 #[FU (G6 a) ss.length cap] w fun e w'=>∃v',e=.returned v'/\GZ w' w.heap.size v' ss/\B0 w w':=by
 have q22:∀ (w:FW) (a:Option Addr) (n c n' c':Nat),(binOp .eql 35 (FU a n c) (FU G5 n' c')).run prog w=.ok (.bool a.isNone) w:=fun w a n c n' c'=>Lib.run_eql_slice_nil w _ _ a n c n' c' underlying35;have H:Hid (∀j u,(GI ss)[j]?=G6 u->w.cell? (a.add j)=G6 u):=hc;clear hc;obtain⟨i0,hi0,hz0,hz1,hz2⟩:=A10;go_enter func37,ntmps37;go_wp2_with (at_builtin;refine wpList_append_own _ rfl _ _ 35 rfl w.heap.size 3 i0 _ 1 8 underlying35 hi0 hz0 hz1 hz2 rfl (by decide) _ _ _ rfl (World.ownsRow_made w #[] 0 (A8 _) (AZ _) (by simp)) a ss.length cap (GI ss) rfl ?qc1 ?qc2 ?qc3 ?qc4 ?qc5 ?qc6 ?_)
 case qc1=>exact(J7 ss).trans (Nat.mul_one _).symm
 case qc2=>
  intro j u hj;exact Lib.cell?_alloc_some _ (H.out j u hj)
 case qc3=>exact JO ss
 case qc4=>simp only[maxLen];omega
 case qc5=>omega
 case qc6=>simp
 intro v' w1 hown hgrow hnil
 go_wp2
 go_ret;refine⟨v',rfl,GZ.L9 hown,?_⟩;exact((AA _ w).alloc (A8 _) _).grown hgrow (by simp) (by intro k hk;simp[Value.ownBlock]at hk;omega)
theorem AK7(n c:Nat)(w:FW):
  FZ prog 37 #[FU G5 n c] w fun e w'=>e=.returned (N0)/\w'=w:=by
 have q22:∀ (w:FW) (a:Option Addr) (n c n' c':Nat),(binOp .eql 35 (FU a n c) (FU G5 n' c')).run prog w=.ok (.bool a.isNone) w:=fun w a n c n' c'=>Lib.run_eql_slice_nil w _ _ a n c n' c' underlying35;go_enter func37,ntmps37
 go_wp2
 go_ret;exact⟨rfl,rfl⟩
theorem dV(v:FX)(ss:List Int)(w:FW)(hv:IL w v ss)(hl:ss.length<=2147483647):
  FZ prog 37 #[v] w fun e w'=>∃v',e=.returned v'/\GZ w' w.heap.size v' ss/\B0 w w':=by
 rcases hv with⟨a,cap,rfl,rfl,_⟩|⟨b,off,cap,rfl,_,_,hb,_,hr⟩
 .cases a with
  |none=>exact(AK7 0 cap w).mono fun e w' ⟨he,hw⟩=>⟨_,he,.inl ⟨rfl,rfl⟩,by rw[hw];exact AA _ _⟩
  |some a=>exact kC a cap [] w (by simp) (fun j u h=>by simp[SE]at h)
 .exact kC ⟨b,off,G5⟩ cap ss w hl (fun j u h=>by rw[BK];exact hr j u h)
theorem A16{w:FW}{ops:Array Oper}{o:Oper}{a:Act}{K:Act->FW->Prop}{Q:Exit->Act->FW->Prop}{E:Prop}(hgd:FM o (yielded ops a.tmps)=true)(s x:Operand)
  (ho:o.op=.call {callee:=.builtin .append,args:=#[s,x],argTypes:=#[34,34]})
  (v:FX) (ns:List Nd) (hs:a.eval s=v) (hown:GZ w 0 v ns)
  (q:Nat) (hx:a.eval x=FU (G6 ⟨q,0,G5⟩) 1 1) (t:Nd) (hnews:JQ w q t) (hl:ns.length<=100000)
  (h:∀a' c' w',GZ w' 0 (FU a' (ns.length+1) c') (ns++[t])->w.grownBy w' v.ownBlock->((Value.slice a' (ns.length+1) c').ownBlock=v.ownBlock\/(Value.slice a' (ns.length+1) c').ownBlock=G6 w.heap.size)->K (a.put o.dst (FU a' (ns.length+1) c')) w'):
  if FM o (yielded ops a.tmps)=true then Oper.wp prog o a w K Q else E:=by
 rw[if_pos hgd];obtain⟨i0,hi0,hz0,hz1,hz2⟩:=AK5;obtain⟨v',w',hr,h2,h3,_,h5⟩:=run_append_own_at (P:=prog) w 0 34 o.type 62 i0 _ 9 88 underlying34 hi0 hz0 hz1 hz2 rfl (by decide) v ns.length (GI ns) hown.row ⟨q,0,G5⟩ 1 1 (MF t) rfl (RP hnews) (Lay.one t) (by simp only[maxLen];omega) (by omega) (AZ _);have h2':GZ w' 0 v' (ns++[t]):=GZ.L9 (by rw[AP,JH];exact h2);obtain⟨a',c',rfl,_⟩:=h2'.slice;have hlen:(ns++[t]).length=ns.length+1:=by simp
 rw[hlen]at h2' hr h5;unfold Oper.wp execOp;simp only[ho,resolve,invoke,builtin,Sem.run_bind,Sem.run_pure,Result.andThen_ok,List.map_toArray,List.map_cons,List.map_nil,hs,hx,hr];exact h a' c' w' h2' h3 h5
theorem iH(w:FW)(n:Nd):JQ (w.alloc (FV #[S0 n.p,S0 n.d,I0 n.c,I0 n.m,I0 n.q,I0 n.v,I0 n.k,I0 n.o,I0 n.n] 62)) w.heap.size n:=heap_alloc_new w _
theorem B06(t:Tr)(vn vs:FX)(z:Int)(w:FW)(hn:IL w vn t.ns)(hs:IL w vs t.ss)(hl:t.ns.length<=400)(hls:t.ss.length<=2147483647)(C42:∀n∈t.ns,n.p.length<=140737488355328/\n.d.length<=140737488355328):
  FZ prog 170 #[.agg #[I0 t.z,vn,vs],I0 z] w fun e w'=>
   ∃b vn' vs',e=.returned (P0 b)/\Grow w' (fun k=>w.heap.size<=k) b z vn' vs' (N0) t.ns t.ss []/\B0 w w':=by
 have CC:=G8 (fun n (hn:n∈t.ns) W=>ZL n W (C42 n hn).1 (C42 n hn).2);have CI:=G8 (fun W (hW:B0 w W)=>dV vs t.ss W (hs.next hW) hls);have KR:∀W,B0 w W->∀k x,t.ns[k]?=G6 x->∃b off cap,vn=FU (G6 ⟨b,off,G5⟩) t.ns.length cap/\b<w.heap.size/\IC W b off (GI t.ns):=fun W hW k x hx=>by
  obtain⟨b,off,cap,e,hb,hr,_,_⟩:=MV hn (fun h0=>by obtain⟨h1,_⟩:=AV.1 hx;rw[h0]at h1;simp at h1);exact⟨b,off,cap,e,hb,hr.kept hW hb⟩
 have HKR:=G8 KR;obtain⟨na,nc,rfl⟩:=GK hn;obtain⟨sa,sc,rfl⟩:=GK hs;clear hn hs C42 KR;unfold TI at CC;have S0:∀W,W=(w.alloc (FV #[I0 t.z,FU na t.ns.length nc,FU sa t.ss.length sc] 37)).alloc (FV #[I0 z,N0,N0,N0] 248)->
   Grow W (fun k=>w.heap.size+1<=k) (w.heap.size+1) z (N0) (N0) (N0) [] [] []/\Touch (fun k=>w.heap.size+1<=k) (w.alloc (FV #[I0 t.z,FU na t.ns.length nc,FU sa t.ss.length sc] 37)) W:=by
  rintro W rfl;refine⟨⟨?_,A8 _,.inl ⟨rfl,rfl⟩,.inl ⟨rfl,rfl⟩,.inl ⟨rfl,rfl⟩,(by intro k hk;cases hk),(by intro k hk;cases hk),(by intro k hk;cases hk),(by intro k hk;cases hk),(by intro k hk;cases hk)⟩,?_⟩
  .have:=heap_alloc_new (w.alloc (FV #[I0 t.z,FU na t.ns.length nc,FU sa t.ss.length sc] 37)) (FV #[I0 z,N0,N0,N0] 248);rw[show (w.alloc (FV #[I0 t.z,FU na t.ns.length nc,FU sa t.ss.length sc] 37)).heap.size=w.heap.size+1 by simp]at this;exact this
  .exact Touch.of_below (G9 _ _)
 have HS0:=G8 S0;have BX:∀W,Touch (fun k=>w.heap.size+1<=k) (w.alloc (FV #[I0 t.z,FU na t.ns.length nc,FU sa t.ss.length sc] 37)) W->B0 w W/\W.cell? ⟨w.heap.size,2,G5⟩=G6 (FU sa t.ss.length sc)/\w.heap.size+1<=W.heap.size:=by
  intro W h;have hb:W.heap[w.heap.size]?=_:=(h.block w.heap.size (by simp) (by omega)).trans (heap_alloc_new w _);refine⟨(G9 w _).trans (h.below (by simp) (fun k hk=>by omega)),by simp[AX,hb],by have:=h.size;simpa using this⟩
 have HBX:=G8 BX;clear S0 BX;go_enter func170,ntmps170;go_wp2_with fail
 go_loopg [18] t.ns.length (fun kx s18 wr=>∃ (k:Nat) (vn':FX),s18=I0 k/\k<=t.ns.length/\t.ns.length-k<=kx/\Hid (Grow wr (fun k=>w.heap.size+1<=k) (w.heap.size+1) z vn' (N0) (N0) (t.ns.take k) [] [])/\Hid (Touch (fun k=>w.heap.size+1<=k) (w.alloc (FV #[I0 t.z,FU na t.ns.length nc,FU sa t.ss.length sc] 37)) wr))
 case atStart=>
  obtain⟨g0,t0⟩:=G7 HS0 _ rfl;exact⟨0,_,rfl,AZ _,A8 _,G8 g0,G8 t0⟩
 case round=>
  obtain⟨k,vn',rfl,hk,hg,hG,hT⟩:=hrel;obtain⟨hBw,hc2,hsz⟩:=G7 HBX wr (G7 hT);have HBw:=G8 hBw;by_cases hlt:k<t.ns.length
  .obtain⟨x,hx⟩:∃x,t.ns[k]?=G6 x:=⟨_,List.getElem?_eq_getElem hlt⟩;obtain⟨b,off,cap,he,hb,q⟩:=G7 HKR wr hBw k x hx;simp only[AQ]at he;obtain⟨rfl,_,rfl⟩:=he;have d0:=q.n0 hx;have d1:=q.n1 hx;have d2:=q.n2 hx;have d3:=q.n3 hx;have d4:=q.n4 hx;have d5:=q.n5 hx;have d6:=q.n6 hx;have d7:=q.n7 hx;have d8:=q.n8 hx;have hbw:b<wr.heap.size:=by omega
   have CX:=fun W=>G7 CC x (List.mem_of_getElem? hx) W;have HT1:=G8 (show t.ns.take (k+1)=t.ns.take k++[x] by rw[List.take_add_one,hx];rfl);have hlk:(t.ns.take k).length<=400:=by simp;omega
   obtain⟨P,hP⟩:∃P,t.ns.take k=P:=⟨_,rfl⟩;rw[hP]at hG hlk HT1;clear q hx hP;obtain⟨va,vc,rfl,_⟩:=(G7 hG).n.slice;have h:=G7 hG;have c1:=h.c1;have f1:=h.fz 1;have K1:=G8 (fun w1 (hb1:B0 wr w1)=>(⟨(h.next hb1).c1,(h.next hb1).fz 1,(h.next hb1).lt,((h.next hb1).next (G9 _ _)).c1⟩:w1.cell? ⟨w.heap.size+1,1,G5⟩=G6 (FU va P.length vc)/\w1.frozen? ⟨w.heap.size+1,1,G5⟩=false/\w.heap.size+1<w1.heap.size/\(w1.alloc (FV #[S0 x.p,S0 x.d,I0 x.c,I0 x.m,I0 x.q,I0 x.v,I0 x.k,I0 x.o,I0 x.n] 62)).cell? ⟨w.heap.size+1,1,G5⟩=G6 (FU va P.length vc)));have KE:=G8 (fun w1 (hb1:B0 wr w1)=>(h.next hb1).n.next (G9 w1 (FV #[S0 x.p,S0 x.d,I0 x.c,I0 x.m,I0 x.q,I0 x.v,I0 x.k,I0 x.o,I0 x.n] 62)));have K2:∀ (w1 w2:FW) (a2:Option Addr) (c2:Nat),B0 wr w1->GZ w2 0 (FU a2 (P.length+1) c2) (P++[x])->(w1.alloc (FV #[S0 x.p,S0 x.d,I0 x.c,I0 x.m,I0 x.q,I0 x.v,I0 x.k,I0 x.o,I0 x.n] 62)).grownBy w2 (Value.slice va P.length vc).ownBlock->
     ((Value.slice a2 (P.length+1) c2).ownBlock=(Value.slice va P.length vc).ownBlock\/(Value.slice a2 (P.length+1) c2).ownBlock=G6 (w1.alloc (FV #[S0 x.p,S0 x.d,I0 x.c,I0 x.m,I0 x.q,I0 x.v,I0 x.k,I0 x.o,I0 x.n] 62)).heap.size)->
     w2.cell? ⟨w.heap.size+1,1,G5⟩=G6 (FU va P.length vc)/\w2.frozen? ⟨w.heap.size+1,1,G5⟩=false/\Grow (w2.setCell ⟨w.heap.size+1,1,G5⟩ (FU a2 (P.length+1) c2)) (fun k=>w.heap.size+1<=k) (w.heap.size+1) z (FU a2 (P.length+1) c2) (N0) (N0) (P++[x]) [] []/\Touch (fun k=>w.heap.size+1<=k) wr (w2.setCell ⟨w.heap.size+1,1,G5⟩ (FU a2 (P.length+1) c2)):=by
    intro w1 w2 a2 c2 hb1 ho2 hg2 hl2;have g1:=(h.next hb1).next (G9 w1 (FV #[S0 x.p,S0 x.d,I0 x.c,I0 x.m,I0 x.q,I0 x.v,I0 x.k,I0 x.o,I0 x.n] 62));have n3:¬ (Value.slice va P.length vc).ownBlock=G6 (w.heap.size+1):=fun e=>(h.fn _ e).2 rfl;refine⟨hg2.cell g1.c1 (fun e=>n3 e.symm),(World.frozen?_of_block (hg2.block _ g1.lt (fun e=>n3 e.symm))).trans (g1.fz 1),g1.nd (fun k hk=>by have:=hb1.size;simp at hk;omega) hg2 ho2 ?_,?_⟩
    .rcases hl2 with e|e
     .exact .inl e
     .exact .inr ⟨_,A8 _,e⟩
    .exact(((Touch.of_below hb1).trans (Touch.of_below (G9 _ _))).trans (Touch.VI hg2 (fun k e=>(h.fn k e).1))).trans (Touch.set h.fb _)
   have HK2:=G8 K2;have hbn:w.heap.size+1≠wr.heap.size:=by have:=h.lt;omega
   have hbl:=h.lt;clear h K2;go_wp2_with fail
   go_region_law (first
    |(refine A16 (by kernel_rfl) _ _ (by rfl) (FU va P.length vc) P (by rfl) (G7 KE w1 (G7 HB1)) w1.heap.size (by rfl) x (iH w1 x) (by omega) ?_;intro a2 c2 w2 ho2 hg2 hl2;obtain⟨m3,l3,g2,t2⟩:=G7 HK2 w1 w2 a2 c2 (G7 HB1) ho2 hg2 hl2;have HG2:=G8 g2;have HT2:=G8 ((G7 hT).trans t2);clear ho2 hg2 hl2 g2 t2)
    |(go_simp;refine(CX _).mono ?_;rintro e w1 ⟨rfl,hb1⟩;have HB1:Hid (B0 wr w1):=(by first|exact GX (IB hb1)|exact GX hb1);obtain⟨e3,k3,hbn2,d3a⟩:=G7 K1 w1 (G7 HB1);clear hb1))
   all_goals
    go_wp2_with fail
    go_roundg (t.ns.length-(k+1))
    case measure=>omega
    case rel=>exact⟨k+1,_,rfl,by omega,A8 _,(by rw[G7 HT1];exact HG2),HT2⟩
  .obtain rfl:k=t.ns.length:=by omega
   clear hBw;go_wp2_with fail;refine(G7 CI wr (G7 HBw)).mono ?_;rintro e w1 ⟨vs',rfl,ho,hb1⟩;have h:=(G7 hG).next hb1;have c2:=h.c2;have f2:=h.fz 2;have g2:=(G7 hG).se (V:=w1) (vs':=vs') (ss':=t.ss) (fun k hk=>by omega) ⟨hb1.os,hb1.tape,hb1.output,hb1.size,fun k hk _=>hb1.block k hk⟩ (ho.lower (AZ _)) (by
    rcases ho with⟨rfl,_⟩|⟨g,cap,rfl,hB,_⟩
    .exact .inl rfl
    .exact .inr ⟨g,hB,rfl⟩)
   have hne:w.heap.size+1≠w.heap.size:=by omega
   rw[List.take_length]at g2;have HG2:=G8 (g2.cut (G:=fun k=>w.heap.size<=k) (fun k _ hk=>by omega));have HB2:=G8 (GH (G7 HBw) hb1);obtain⟨sa',sc',rfl,_⟩:=ho.slice;clear h g2 ho hb1;go_wp2_with fail;go_ret;exact⟨w.heap.size+1,_,_,rfl,G7 HG2,(G7 HB2).setCell (by simp) _⟩
theorem UM(A:List Nd)(x:Nd)(B:List Nd):(A++x::B)[A.length]?=G6 x:=by simp
theorem kD(F:Nat->Prop)(b:Nat)(z:Int)(vn vs ve:FX)(ns A B:List Nd)(u:Nd)(ss:List Int)(es:List Ev)(p:List UInt8)(more:Int)(w:FW)
  (h:Grow w F b z vn vs ve ns ss es) (T:KJ ns A u B p) (hl:ns.length<=400) (hk:u.k=2147483647):
  FZ prog 230 #[P0 b,S0 p,I0 more] w fun e w'=>e=.returned (I0 6)/\Touch F w w':=by
 have CF:=fun W (hW:B0 w W)=>JW vn ns A B u p W (h.n.next hW).seq (by omega) T;obtain⟨g,cap,rfl,hr,hgb,hFg⟩:=h.iF (by rw[T.eq];simp);have c1:=h.c1;have HG:=G8 h;have HE:=G8 T.eq;have hlt:A.length<ns.length:=by rw[T.eq];simp
 clear h hr T;go_enter func230,ntmps230;go_wp2_with fail;refine(CF _ (AA _ _)).mono ?_;rintro e w1 ⟨rfl,hb1⟩;have g1:=(G7 HG).next hb1;have d1:=g1.c1;obtain⟨g',cap',he,hr,_,_⟩:=g1.iF (by rw[G7 HE];simp);simp only[AQ,BF,EU,and_true]at he;obtain⟨rfl,_,rfl⟩:=he;have r6:=hr.row.n6 (i:=A.length) (x:=u) (by rw[G7 HE];exact UM A u B);rw[hk,BJ]at r6;have HB:=G8 hb1;clear CF c1 g1 hr hb1;go_wp2_with fail;go_ret;exact⟨rfl,Touch.of_below (G7 HB)⟩
theorem wC(F:Nat->Prop)(b:Nat)(z:Int)(vn vs ve:FX)(ns A B:List Nd)(u:Nd)(ss:List Int)(es:List Ev)(p:List UInt8)(more:Int)(w:FW)
  (h:Grow w F b z vn vs ve ns ss es) (hF:∀k,w.heap.size<=k->F k) (T:KJ ns A u B p) (hl:ns.length<=400) (hk:0<=u.k/\u.k<2147483647) (hn:0<=u.n/\u.n<=1000) (hm: -1<=more/\more<=1) (hp:p.length<=140737488355328) (hes:es.length<=99999):
  FZ prog 230 #[P0 b,S0 p,I0 more] w fun e w'=>e=.returned (I0 0)/\∃ve',Grow w' F b z vn vs ve' (A++bump z more u::B) ss (es++[⟨4,p⟩])/\Touch F w w':=by
 have CF:=fun W (hW:B0 w W)=>JW vn ns A B u p W (h.n.next hW).seq (by omega) T;obtain⟨g,cap,rfl,hr,hgb,hFg⟩:=h.iF (by rw[T.eq];simp);have c1:=h.c1;have HG:=G8 h;have HE:=G8 T.eq;have HF:=G8 hF;have hlt:A.length<ns.length:=by rw[T.eq];simp
 clear h hr T hF;go_enter func230,ntmps230;go_wp2_with fail;refine(CF _ (AA _ _)).mono ?_;rintro e w1 ⟨rfl,hb1⟩;have g1:=(G7 HG).next hb1;have d1:=g1.c1;have d0:=g1.c0;obtain⟨g',cap',he,hr,_,_⟩:=g1.iF (by rw[G7 HE];simp);simp only[AQ,BF,EU,and_true]at he;obtain⟨rfl,_,rfl⟩:=he;have at':ns[A.length]?=G6 u:=by rw[G7 HE];exact UM A u B
 have r4:=hr.row.n4 at';have r6:=hr.row.n6 at';have r8:=hr.row.n8 at';have z4:=hr.frozen (A.length*9+4);have z6:=hr.frozen (A.length*9+6);have z8:=hr.frozen (A.length*9+8);rw[BJ]at r4 r6 r8;have hne:g≠b:=hgb;have hne':b≠g:=Ne.symm hgb;have hk1:=hk.1;have hk2:=hk.2;have hkn:¬u.k=2147483647:=by omega
 have g4:Grow (((w1.setCell ⟨g,A.length*9+8,G5⟩ (I0 (u.n+more))).setCell ⟨g,A.length*9+6,G5⟩ (I0 (u.k+1))).setCell ⟨g,A.length*9+4,G5⟩ (I0 z)) F b z (FU (G6 ⟨g,0,G5⟩) ns.length cap) vs ve (A++bump z more u::B) ss es:=by
  have e0:=g1;rw[G7 HE]at e0;have e1:=e0.put (m:=⟨u.p,u.d,u.c,u.m,u.q,u.v,u.k,u.o,u.n+more⟩) (c:=8) (by omega) (v:=I0 (u.n+more)) rfl;have e2:=e1.put (m:=⟨u.p,u.d,u.c,u.m,u.q,u.v,u.k+1,u.o,u.n+more⟩) (c:=6) (by omega) (v:=I0 (u.k+1)) rfl;have e3:=e2.put (m:=bump z more u) (c:=4) (by omega) (v:=I0 z) rfl;rw[G7 HE];exact e3
 have T4:Touch F w (((w1.setCell ⟨g,A.length*9+8,G5⟩ (I0 (u.n+more))).setCell ⟨g,A.length*9+6,G5⟩ (I0 (u.k+1))).setCell ⟨g,A.length*9+4,G5⟩ (I0 z)):=
  (((Touch.of_below hb1).trans (Touch.set hFg _)).trans (Touch.set hFg _)).trans (Touch.set hFg _)
 have CT:=fun W (hW:Grow W F b z (FU (G6 ⟨g,0,G5⟩) ns.length cap) vs ve (A++bump z more u::B) ss es) (hs:w.heap.size<=W.heap.size)=>iG F b z _ vs ve _ ss es 4 p W hW (fun k hk=>G7 HF k (by omega)) hp (by omega);have HG4:=G8 g4;have HT4:=G8 T4;have HCT:=G8 CT;clear CF c1 g1 hr hb1 at' g4 T4 CT;go_wp2_with fail;refine(G7 HCT _ (G7 HG4) (G7 HT4).size).mono ?_;rintro e w5 ⟨rfl,ve',g5,t5⟩;have HG5:=G8 g5;have HT5:=G8 ((G7 HT4).trans t5);clear g5 t5;go_wp2_with fail;go_ret;exact⟨rfl,ve',G7 HG5,G7 HT5⟩
theorem AK8(F:Nat->Prop)(b:Nat)(z:Int)(vn vs ve:FX)(ns A B:List Nd)(ss:List Int)(es:List Ev)(p:List UInt8)(w:FW)
  (h:Grow w F b z vn vs ve ns ss es) (G:nM ns A B p) (hl:ns.length<=400):
  FZ prog 199 #[P0 b,S0 p] w fun e w'=>e=.returned (I0 7)/\Touch F w w':=by
 have CF:=fun W (hW:B0 w W)=>NI vn ns A B p W (h.n.next hW).seq (by omega) G;have c1:=h.c1;obtain⟨na,nc,rfl,_⟩:=h.n.slice;clear h G;go_enter func199,ntmps199;go_wp2_with fail;refine(CF _ (AA _ _)).mono ?_;rintro e w1 ⟨rfl,hb1⟩;clear CF;go_wp2_with fail;go_ret;exact⟨rfl,Touch.of_below hb1⟩
theorem A17(F:Nat->Prop)(b:Nat)(z:Int)(vn vs ve:FX)(ns A B:List Nd)(u:Nd)(ss:List Int)(es:List Ev)(p:List UInt8)(w:FW)
  (h:Grow w F b z vn vs ve ns ss es) (T:KJ ns A u B p) (hl:ns.length<=400) (hk:u.n≠0):
  FZ prog 199 #[P0 b,S0 p] w fun e w'=>e=.returned (I0 10)/\Touch F w w':=by
 have CF:=fun W (hW:B0 w W)=>JW vn ns A B u p W (h.n.next hW).seq (by omega) T;obtain⟨g,cap,rfl,hr,hgb,hFg⟩:=h.iF (by rw[T.eq];simp);have c1:=h.c1;have HG:=G8 h;have HE:=G8 T.eq;have hlt:A.length<ns.length:=by rw[T.eq];simp
 clear h hr T;go_enter func199,ntmps199;go_wp2_with fail;refine(CF _ (AA _ _)).mono ?_;rintro e w1 ⟨rfl,hb1⟩;have g1:=(G7 HG).next hb1;have d1:=g1.c1;obtain⟨g',cap',he,hr,_,_⟩:=g1.iF (by rw[G7 HE];simp);simp only[AQ,BF,EU,and_true]at he;obtain⟨rfl,_,rfl⟩:=he;have r8:=hr.row.n8 (i:=A.length) (x:=u) (by rw[G7 HE];exact UM A u B);rw[BJ]at r8;have hk':(u.n !=0)=true:=by simpa using hk
 have HB:=G8 hb1;clear CF c1 g1 hr hb1 hk;go_wp2_with fail;go_ret;exact⟨rfl,Touch.of_below (G7 HB)⟩
theorem kE(F:Nat->Prop)(b:Nat)(z:Int)(vn vs ve:FX)(ns A B:List Nd)(n:Nd)(ss:List Int)(es:List Ev)(p:List UInt8)(w:FW)(E:Int)(Post:FW->Prop)
  (h:Grow w F b z vn vs ve ns ss es) (hF:∀k,w.heap.size<=k->F k) (T:KJ ns A n B p) (hl:ns.length<=400) (hk:n.n=0) (hp:p.length<=140737488355328) (hes:es.length<=99998)
  (hpar:∀W vn' ve',Grow W F b z vn' vs ve' (A++B) ss (es++[⟨2,p⟩])->w.heap.size<=W.heap.size->Touch F w W->FZ prog 230 #[P0 b,S0 (IK p),I0 (-1)] W fun e w'=>e=.returned (I0 E)/\Post w'):
  FZ prog 199 #[P0 b,S0 p] w fun e w'=>e=.returned (I0 E)/\Post w':=by
 have CF:=fun W (hW:B0 w W)=>JW vn ns A B n p W (h.n.next hW).seq (by omega) T;obtain⟨g,cap,rfl,hr,hgb,hFg⟩:=h.iF (by rw[T.eq];simp);have c1:=h.c1;have HG:=G8 h;have HE:=G8 T.eq;have HF:=G8 hF;have HP:=G8 hpar;have hlen:ns.length=A.length+B.length+1:=by rw[T.eq];simp;omega
 have hlt:A.length<ns.length:=by omega
 have HL:=G8 hlen;have CD:=fun W (ho:JA W g cap (A++n::B))=>A07 g cap A B n ns.length W ho (G7 HL) hl;have CS:=fun W=>NH p W;have HCD:=G8 CD;have HCS:=G8 CS;clear h hr T hF hpar CD CS hlen;go_enter func199,ntmps199;go_wp2_with fail;refine(CF _ (AA _ _)).mono ?_;rintro e w1 ⟨rfl,hb1⟩;have g1:=(G7 HG).next hb1;have d1:=g1.c1;obtain⟨g',cap',he,hr,_,_⟩:=g1.iF (by rw[G7 HE];simp);simp only[AQ,BF,EU,and_true]at he;obtain⟨rfl,_,rfl⟩:=he;have r8:=hr.row.n8 (i:=A.length) (x:=n) (by rw[G7 HE];exact UM A n B);rw[BJ,hk]at r8;have HB:=G8 hb1;have HG1:=G8 g1;have HR:=G8 (show JA w1 g cap (A++n::B) by rw[<-G7 HE];exact hr);clear CF c1 g1 hr hb1;go_wp2_with fail;rw[show ((A.length:Int)+1)=((A.length+1:Nat):Int)from by omega];refine(G7 HCD _ (G7 HR)).mono ?_;rintro e w2 ⟨rfl,ho2,hg2⟩;have m1:w2.cell? ⟨b,1,G5⟩=G6 (FU (G6 ⟨g,0,G5⟩) ns.length cap):=hg2.cell d1 (fun e=>hgb (BP e).symm);have l1:w2.frozen? ⟨b,1,G5⟩=false:=(World.frozen?_of_block (hg2.block b (G7 HG1).lt (fun e=>hgb (BP e).symm))).trans ((G7 HG1).fz 1);have g2:=(G7 HG1).nd (vn':=FU (G6 ⟨g,0,G5⟩) (A.length+B.length) cap) (ns':=A++B) (fun k hk=>G7 HF k (by have:=(G7 HB).size;omega)) hg2 (.inr ⟨g,cap,by rw[AP],AZ _,ho2⟩) (.inl rfl);have t2:Touch F w (w2.setCell ⟨b,1,G5⟩ (FU (G6 ⟨g,0,G5⟩) (A.length+B.length) cap)):=((Touch.of_below (G7 HB)).trans (Touch.VI hg2 (fun k e=>by cases e;exact hFg))).trans (Touch.set g2.fb _);have HG2:=G8 g2;have HT2:=G8 t2;clear g2 t2 ho2 hg2 d1 r8 HR;go_wp2_with fail;refine(iG F b z _ vs ve _ ss es 2 p _ (G7 HG2) (fun k hk=>G7 HF k (by have:=(G7 HT2).size;omega)) hp (by omega)).mono ?_;rintro e w3 ⟨rfl,ve',g3,t3⟩;have HG3:=G8 g3;have HT3:=G8 ((G7 HT2).trans t3);clear g3 t3 m1 l1;go_wp2_with fail;refine(G7 HCS _).mono ?_;rintro e w4 ⟨rfl,hb4⟩;have HG4:=G8 ((G7 HG3).next hb4);have HT4:=G8 ((G7 HT3).trans (Touch.of_below hb4));clear hb4;go_wp2_with fail;refine(G7 HP _ _ _ (G7 HG4) (G7 HT4).size (G7 HT4)).mono ?_;rintro e w5 ⟨rfl,hp5⟩;have HP5:=G8 hp5;clear hp5;go_wp2_with fail;go_ret;exact⟨rfl,G7 HP5⟩
theorem wF(F:Nat->Prop)(b:Nat)(z:Int)(vn vs ve:FX)(ns A B A' B':List Nd)(n u:Nd)(ss:List Int)(es:List Ev)(p:List UInt8)(w:FW)
  (h:Grow w F b z vn vs ve ns ss es) (hF:∀k,w.heap.size<=k->F k) (T:KJ ns A n B p) (T':KJ (A++B) A' u B' (IK p)) (hl:ns.length<=400) (hk:n.n=0) (hu:0<=u.k/\u.k<2147483647) (hn:0<=u.n/\u.n<=1000) (hp:p.length<=140737488355328) (hd:(IK p).length<=140737488355328) (hes:es.length<=99998):
  FZ prog 199 #[P0 b,S0 p] w fun e w'=>e=.returned (I0 0)/\∃vn' ve',Grow w' F b z vn' vs ve' (rmN z ns p) ss (es++[⟨2,p⟩,⟨4,IK p⟩])/\Touch F w w':=by
 refine kE F b z vn vs ve ns A B n ss es p w 0 _ h hF T hl hk hp hes (fun W vn' ve' hG hs ht=>?_);have hlen:(A++B).length<=400:=by have:=congrArg List.length T.eq;simp at this⊢;omega
 refine(wC F b z vn' vs ve' (A++B) A' B' u ss _ (IK p) (-1) W hG (fun k hk=>hF k (by omega)) T' hlen hu hn (by omega) hd (by simp;omega)).mono ?_;rintro e w' ⟨rfl,ve2,g,t⟩;refine⟨rfl,vn',ve2,?_,ht.trans t⟩;rw[rmN,T.drop,T'.bump];simpa using g
theorem kF(F:Nat->Prop)(b:Nat)(z:Int)(vn vs ve:FX)(ns A B A' B':List Nd)(n u:Nd)(ss:List Int)(es:List Ev)(p:List UInt8)(w:FW)
  (h:Grow w F b z vn vs ve ns ss es) (hF:∀k,w.heap.size<=k->F k) (T:KJ ns A n B p) (T':KJ (A++B) A' u B' (IK p)) (hl:ns.length<=400) (hk:n.n=0) (hu:u.k=2147483647) (hp:p.length<=140737488355328) (hes:es.length<=99998):
  FZ prog 199 #[P0 b,S0 p] w fun e w'=>e=.returned (I0 6)/\Touch F w w':=by
 refine kE F b z vn vs ve ns A B n ss es p w 6 _ h hF T hl hk hp hes (fun W vn' ve' hG hs ht=>?_);have hlen:(A++B).length<=400:=by have:=congrArg List.length T.eq;simp at this⊢;omega
 refine(kD F b z vn' vs ve' (A++B) A' B' u ss _ (IK p) (-1) W hG T' hlen hu).mono ?_;rintro e w' ⟨rfl,t⟩;exact⟨rfl,ht.trans t⟩
