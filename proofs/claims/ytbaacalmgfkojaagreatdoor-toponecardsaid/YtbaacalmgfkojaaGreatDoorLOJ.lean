/-
  Part.
-/
import Derived.Test.YtbaacalmgfkojaaGreatDoorLOI
import Derived.Lib.AppendZerosOnto
import Derived.Lib.Overlaps
set_option maxRecDepth 20000
set_option maxHeartbeats 8000000
namespace Go.Proofs.YtbaacalmgfkojaaGreatDoor
open Go.RowKit Go.Proofs.Tryz
open _root_.Nat renaming le_refl->A8,zero_add->BI,add_sub_cancel_left->FB
open _root_.Array renaming getElem?_eq_some_iff->AB
open _root_.List renaming length_append->AO,getElem?_eq_some_iff->AU,mem_of_getElem?->AZ,getElem?_append_right->BA,length_cons->BG,mem_cons->BO,append_assoc->BQ,mem_append->BU,pairwise_append->DJ,append_nil->DL,length_nil->ES,pairwise_cons->FH
open Go.Builtin renaming zeroCells->BH,copy_->DW
open Go.Addr renaming add_lit->BJ
open _root_.Option.some renaming inj->BN
open Go.IntKind renaming wrap_i64->FD
open Go.Value renaming slice->FQ
open Go.Obj renaming cells->FT
open Go renaming World->FU,Value->FV,Calls->FW
open _root_.Option renaming none->FX,some->FZ
variable{W V:FU}{B fs A:List DF}{v:FV}{k:Nat}{f':DF}{name:List UInt8}
theorem ZT(w:FU)(ty:TypeId)(b o dLen dCap:Nat)(a:Addr)(sLen sCap:Nat)(cs:List FV)(hn:cs.length=Nat.min sLen dLen*3)
  (hsrc:∀j v,cs[j]?=FZ v->w.cell? (a.add j)=FZ v) (hc:∀j,j<cs.length->(w.cell? ⟨b,o+j,FX⟩).isSome=true) (hf:∀j,j<cs.length->w.frozen? ⟨b,o+j,FX⟩=false) (h1:∀v∈cs,v.oneCell'=true):
  (DW #[40,40] ty #[FQ (FZ ⟨b,o,FX⟩) dLen dCap,FQ (FZ a) sLen sCap]).run prog w=.ok (goInt (Nat.min sLen dLen)) (w.setCells b o cs):=by
 have hl:=run_loadCells_list (P:=prog) w a cs hsrc;have hst:=run_storeCells_cells (P:=prog) b o cs 0 w (by simpa using hc) (by simpa using hf) h1;obtain⟨i0,hi0,hz0,hz1,hz2⟩:=U5;simp[DW,run_underlying underlying40,Builtin.lenOf,Builtin.firstCells,sizeOf,typeInfo,hi0,hz1,<-hn,hl,hst]
theorem uJ(w:FU){o:Oper}{a:Act}{K:Act->FU->Prop}{Q:Exit->Act->FU->Prop}(d s:Operand)(t t':TypeId)
  (ho:o.op=.call {callee:=.builtin .copy,args:=#[d,s],argTypes:=#[t,t']}) (v u:FV) (hd:a.eval d=v) (hs:a.eval s=u) {v':FV} {w':FU}
  (hr:(DW #[t,t'] o.type #[v,u]).run prog w=.ok v' w') (h:K (a.put o.dst v') w'):o.wp prog a w K Q:=by
 unfold Oper.wp execOp;simp only[ho,resolve,invoke,builtin,Sem.run_bind,Sem.run_pure,Result.andThen_ok,List.map_toArray,List.map_cons,List.map_nil,hd,hs,hr];exact h
theorem VG(w:FU){ops:Array Oper}{rest:List Oper}{o:Oper}{a:Act}{Q:Exit->Act->FU->Prop}(hgd:o.guard=FX)(d s:Operand)(t t':TypeId)
  (ho:o.op=.call {callee:=.builtin .copy,args:=#[d,s],argTypes:=#[t,t']}) (v u:FV) (hd:a.eval d=v) (hs:a.eval s=u) {v':FV} {w':FU}
  (hr:(DW #[t,t'] o.type #[v,u]).run prog w=.ok v' w') (h:wpList prog ops Q rest (a.put o.dst v') w'):wpList prog ops Q (o::rest) a w:=
 wpList_plain hgd fun _ hK=>uJ w d s t t' ho v u hd hs hr (hK _ _ h)
theorem YB{ops:Array Oper}{o:Oper}{a:Act}{w:FU}{K:Act->FU->Prop}{Q:Exit->Act->FU->Prop}{E:Prop}
  (hg:o.guard=FX) (d x:Operand) (dT sT:TypeId) (hop:o.op=Op.call {callee:=Callee.builtin Builtin.copy,args:=#[d,x],argTypes:=#[dT,sT]})
  (v u:FV) (hd:a.eval d=v) (hx:a.eval x=u) {v':FV} {w':FU} (hr:(DW #[dT,sT] o.type #[v,u]).run prog w=.ok v' w') (hK:K (a.put o.dst v') w'):
  if Region.wanted o (yielded ops a.tmps)=true then Oper.wp prog o a w K Q else E:=by
 have hw:Region.wanted o (yielded ops a.tmps)=true:=by simp[Region.wanted,hg]
 rw[if_pos hw];unfold Oper.wp;simp[execOp,hop,resolve,invoke,builtin,hd,hx,hr,Result.andThen];exact hK
def One(W:FU)(b:Nat)(x:DF):Prop:=W.heap[b]?=FZ (FT (JB x).toArray 88 (0,0))
theorem One.row{b:Nat}{x:DF}(h:One W b x):∀j v,(JB x)[j]?=FZ v->W.cell? ⟨b,0+j,FX⟩=FZ v:=by
 intro j v hj;unfold One at h;have:(JB x).toArray[j]?=FZ v:=by simpa using hj
 simp[World.cell?,h,hj]
theorem XP(x:DF):∀u∈JB x,u.oneCell'=true:=by
 intro u h;simp[JB]at h;rcases h with rfl|rfl|rfl<;>rfl
theorem yZ(v:FV)(A:List DF)(x:DF)(B b:Nat)(w:FU)(ho:XL w B v A)(hB:B<=w.heap.size)(hl:A.length<=16)(h1:One w b x):
  FW prog 84 #[v,I0 A.length,FQ (FZ ⟨b,0,FX⟩) 1 1] w fun e w'=>
   ∃v',e=.returned v'/\XL w' B v' (A++[x])/\w.grownBy w' v.ownBlock:=by
 obtain⟨i0,hi0,hz0,hz1,hz2⟩:=U5;have hrow:=ho.row;have HR:=G6 hrow;have H1:=G6 h1.row;have V:∃a c,v=FQ a A.length c/\A.length<=c:=by
  rcases ho with⟨rfl,rfl⟩|⟨g,cap,rfl,_,h⟩
  .exact⟨FX,0,rfl,A8 _⟩
  .exact⟨_,cap,rfl,h.le⟩
 obtain⟨a,c,rfl,hc⟩:=V;clear ho hrow h1;rcases Nat.lt_or_ge A.length c with hcl|hcl
 .have hne:¬c=A.length:=by omega
  go_enter func84,ntmps84;go_wp2_with (at_builtin;refine wpList_append_own _ rfl _ _ 40 rfl B 88 i0 _ 3 48 underlying40 hi0 hz0 hz1 hz2 rfl (by decide) _ A.length (H6 A) rfl (G5 HR) ⟨b,0,FX⟩ 1 1 (JB x) rfl (by rfl) ?qc2 (XP x) ?qc4 ?qc5 hB ?_)
  case qc2=>
   intro j u hj;rw[BJ];exact G5 H1 j u hj
  case qc4=>simp only[maxLen];omega
  case qc5=>omega
  intro v' w1 hown hgrow _
  go_wp2
  go_ret;exact⟨v',rfl,XL.KY (by rw[AO,JO];simpa [H6]using hown),hgrow⟩
 .obtain rfl:c=A.length:=by omega
  go_enter func84,ntmps84;go_wp2_with (at_builtin;refine wpList_append_own _ rfl _ _ 40 rfl B 88 i0 _ 3 48 underlying40 hi0 hz0 hz1 hz2 rfl (by decide) _ A.length (H6 A) rfl (G5 HR) ⟨b,0,FX⟩ 1 1 (JB x) rfl (by rfl) ?qc2 (XP x) ?qc4 ?qc5 hB ?_)
  case qc2=>
   intro j u hj;rw[BJ];exact G5 H1 j u hj
  case qc4=>simp only[maxLen];omega
  case qc5=>omega
  intro v' w1 hown hgrow _
  go_wp2
  go_ret;exact⟨v',rfl,XL.KY (by rw[AO,JO];simpa [H6]using hown),hgrow⟩
theorem pO(g cap:Nat)(A R:List DF)(y x:DF)(n b:Nat)(w:FU)(ho:Own w g cap (A++y::R))(hn:n=A.length+R.length+1)(hsm:n<=16)(hroom:n+1<=cap)(h1:One w b x)(hbg:b≠g):
  FW prog 84 #[FQ (FZ ⟨g,0,FX⟩) n cap,I0 A.length,FQ (FZ ⟨b,0,FX⟩) 1 1] w fun e w'=>
   e=.returned (FQ (FZ ⟨g,0,FX⟩) (n+1) cap)/\Own w' g cap (A++x::y::R)/\w.grownBy w' (FZ g):=by
 have hcl:=ho.capLe;simp only[maxLen]at hcl;have hrow:=ho.row;have AU7:w.shape? g=FZ (88,cap*3):=by
  obtain⟨rest,q1,q2,_⟩:=ho;rw[AO,BG]at q2;simp[World.shape?,q1,GY,q2]
 have AU8:w.shape? b=FZ (88,3):=by unfold One at h1;simp[World.shape?,h1,JB]
 have hfb:∀j,w.frozen? ⟨b,j,FX⟩=false:=fun j=>by unfold One at h1;simp[World.frozen?,h1]
 have hov:∀lb cb,(callFunc 117 #[FQ (FZ ⟨b,0,FX⟩) 1 1,FQ (FZ ⟨g,(A.length+1)*3,FX⟩) lb cb]).run prog w=.ok (.value (.bool false)) w:=fun lb cb=>by
  rw[run_callFunc_extern func117 (by kernel_rfl) (by kernel_rfl) (by kernel_rfl) (e:=Extern.SlicesOverlaps.overlaps #[40,40] #[4]) (by kernel_rfl),
   Lib.run_overlaps_apart w 40 4 88 underlying40 3 sizeOf88 ⟨b,0,FX⟩ ⟨g,(A.length+1)*3,FX⟩ 1 1 lb cb hbg 88 88 3 (cap*3) AU8 AU7 (by omega) (hfb 0) (hfb 3)]
  rfl
 obtain⟨W1,hW1⟩:∃W1,W1=w.drew.setCells g ((A.length+1)*3) (H6 (y::R)):=⟨_,rfl⟩;have ho1:Own W1 g cap (A++y::y::R):=by
  have h:Own w.drew g cap ((A++[y])++R):=by rw[BQ];exact ho
  have:=h.splice (y::R) (by simp;omega);rw[hW1];simpa using this
 have hg1:w.grownBy W1 (FZ g):=by rw[hW1];have:=LP (g:=g) (H6 (y::R)) ((A.length+1)*3) w.drew;exact⟨this.os,this.tape,this.output,this.size,this.block⟩
 have hcp1:∀ty dc sc,(DW #[40,40] ty #[FQ (FZ ⟨g,(A.length+1)*3,FX⟩) (n-A.length) dc,FQ (FZ ⟨g,A.length*3,FX⟩) (n+1-A.length) sc]).run prog w.drew=.ok (goInt (Nat.min (n+1-A.length) (n-A.length))) W1:=fun ty dc sc=>by
  rw[hW1];exact ZT w.drew ty g _ _ dc ⟨g,A.length*3,FX⟩ _ sc (H6 (y::R)) (by rw[GY];simp only[Nat.min_def,BG];split<;>omega)
   (fun j v hj=>by
    rw[BJ];have:=hrow (A.length*3+j) v (by rw[JO,BA (by rw[GY];omega),GY,FB];exact hj);rw[BI]at this;exact this)
   (fun j hj=>by rw[GY]at hj;exact ho.some (by simp at hj;omega)) (fun j _=>ho.frozen _) (XK _)
 have hcp2:∀ty dc,(DW #[40,40] ty #[FQ (FZ ⟨g,A.length*3,FX⟩) (n+1-A.length) dc,FQ (FZ ⟨b,0,FX⟩) 1 1]).run prog W1=.ok (goInt (Nat.min 1 (n+1-A.length))) (W1.setCells g (A.length*3) (JB x)):=fun ty dc=>
  ZT W1 ty g _ _ dc ⟨b,0,FX⟩ 1 1 (JB x) (by simp only[Nat.min_def,JB,BG,ES];split<;>omega)
   (fun j v hj=>by
    rw[BJ];have hb2:W1.heap[b]?=w.heap[b]? :=hg1.block b (by unfold One at h1;exact(AB.1 h1).1) (fun e=>hbg (BN e));have h2:One W1 b x:=hb2.trans h1;exact h2.row j v hj)
   (fun j hj=>ho1.some (by simp[JB]at hj;omega)) (fun j _=>ho1.frozen _) (XP x)
 have FIN:Hid (Own (W1.setCells g (A.length*3) (JB x)) g cap (A++x::y::R)/\w.grownBy (W1.setCells g (A.length*3) (JB x)) (FZ g)):=
  ⟨ho1.tY x,RX hg1 (LP _ _ _)⟩
 have hin:A.length<n:=by omega
 have BW9:(A.length:Int)<(n:Int):=by omega
 have hw1:IntKind.i64.wrap ((A.length:Int)+1)=(A.length:Int)+1:=by rw[FD];omega
 have hb1:(0:Int)<=(A.length:Int)+1:=by omega
 have hb2:¬ (cap=A.length+1):=by omega
 have hb3:(A.length:Int)<=(n:Int)+1:=by omega
 have hb4:¬ (cap=A.length):=by omega
 have hb5:(A.length:Int)+1<=(n:Int)+1:=by omega
 have hb6:¬ ((cap:Int)<(n:Int)+1):=by omega
 have hz2:¬ ((A.length:Int)=(n:Int)):=by omega
 have htn:((A.length:Int)+1).toNat=A.length+1:=by omega
 clear hW1 ho1 hg1 hrow AU7 AU8 hfb ho h1 hn;go_enter func84,ntmps84;go_wp2_with (simp only[hov])
 go_region_law (refine YB rfl (.tmp 73) (.tmp 76) 40 40 rfl (FQ (FZ ⟨g,(A.length+1)*3,FX⟩) (n-A.length) (cap-(A.length+1))) (FQ (FZ ⟨g,A.length*3,FX⟩) (n+1-A.length) (cap-A.length)) (by simp[Act.eval,Act.put]) (by simp[Act.eval,Act.put]) (hcp1 _ _ _) ?_)
 go_wp2_with (at_builtin;refine VG _ rfl _ _ 40 40 rfl _ _ rfl rfl (hcp2 _ _) ?_);go_ret;exact⟨rfl,FIN.out⟩
theorem zA(k:Nat):(BH (Value.agg #[.string ⟨#[]⟩,.string ⟨#[]⟩,.string ⟨#[]⟩]).cells k).size=k*3:=by
 simp[BH,Value.cells]
theorem uK(g cap:Nat)(A R:List DF)(y x:DF)(n b:Nat)(w:FU)(ho:Own w g cap (A++y::R))(hn:n=A.length+R.length+1)(hsm:n<=16)(hroom:cap<n+1)(h1:One w b x):
  FW prog 84 #[FQ (FZ ⟨g,0,FX⟩) n cap,I0 A.length,FQ (FZ ⟨b,0,FX⟩) 1 1] w fun e w'=>
   ∃cap',e=.returned (FQ (FZ ⟨w.heap.size,0,FX⟩) (n+1) cap')/\Own w' w.heap.size cap' (A++x::y::R)/\B0 w w':=by
 have hcap:cap=n:=by have:=ho.le;simp at this;omega
 obtain⟨i0,hi0,hz0,hz1,hz2⟩:=U5;have hrow:=ho.row;have hgw:=ho.lt;have hbw:b<w.heap.size:=by unfold One at h1;exact(AB.1 h1).1
 have hold:(Builtin.firstCells i0.size A.length (FQ (FZ ⟨g,0,FX⟩) A.length cap)).run prog w.drew=.ok (H6 A).toArray w.drew:=by
  rw[hz1];exact run_firstCells_some w.drew 3 A.length ⟨g,0,FX⟩ A.length cap (H6 A) (GY A) (fun j v hj=>by
   rw[BJ];exact hrow j v (by rw[JO,List.getElem?_append_left (AU.1 hj).1];exact hj))
 obtain⟨G,hG⟩:∃G,G=grownCap w (n+1) cap 88:=⟨_,rfl⟩;have hGn:n+1<=G:=by rw[hG];exact grownCap_ge w _ _ _
 have hGm:G<=maxLen:=by rw[hG];exact grownCap_le_maxLen w (n+1) cap _ (by unfold maxLen;omega)
 have hG63:G<=9223372036854775807:=by have:=hGm;unfold maxLen at this;omega
 obtain⟨ROW,hROW⟩:∃ROW:Array FV,ROW=(H6 A).toArray++BH (Value.agg #[.string ⟨#[]⟩,.string ⟨#[]⟩,.string ⟨#[]⟩]).cells (n+1-A.length)++BH (Value.agg #[.string ⟨#[]⟩,.string ⟨#[]⟩,.string ⟨#[]⟩]).cells (G-(n+1)):=⟨_,rfl⟩;obtain⟨W1,hW1⟩:∃W1,W1=w.drew.alloc (FT ROW 88):=⟨_,rfl⟩;have hik:A.length+(n+1-A.length)=n+1:=by omega
 have hrz:∀ty,(Builtin.append_ #[40,3] ty #[FQ (FZ ⟨g,0,FX⟩) A.length cap,I0 ((n:Int)+1-(A.length:Int))]).run prog w=
   .ok (FQ (FZ ⟨w.heap.size,0,FX⟩) (n+1) G) W1:=fun ty=>by
  have h:=Lib.run_append_grow_zeros w 40 3 ty 88 i0 _ .i64 .i64 underlying40 underlying3 hi0 hz0 (FZ ⟨g,0,FX⟩) A.length cap (H6 A) hold (n+1-A.length) (by omega) (by omega) (by omega) (by omega) (by rw[hz2];omega) (by rw[hz2,hik];exact growslice_fits hroom (by omega));rw[hik,<-hG,<-hROW,<-hW1]at h;rw[show (n:Int)+1-(A.length:Int)=((n+1-A.length:Nat):Int) by omega];exact h
 have ho1:Own W1 w.heap.size G A:=by
  refine⟨(BH (Value.agg #[.string ⟨#[]⟩,.string ⟨#[]⟩,.string ⟨#[]⟩]).cells (n+1-A.length)++BH (Value.agg #[.string ⟨#[]⟩,.string ⟨#[]⟩,.string ⟨#[]⟩]).cells (G-(n+1))).toList,?_,?_,hGm⟩
  .rw[hW1,hROW];have:=heap_alloc_new w.drew (FT ((H6 A).toArray++BH (Value.agg #[.string ⟨#[]⟩,.string ⟨#[]⟩,.string ⟨#[]⟩]).cells (n+1-A.length)++BH (Value.agg #[.string ⟨#[]⟩,.string ⟨#[]⟩,.string ⟨#[]⟩]).cells (G-(n+1))) 88);refine Eq.trans this ?_
   congr 2
   apply Array.toList_inj.1
   simp
  .simp only[Array.length_toList,Array.size_append,zA];omega
 have hB1:B0 w W1:=by rw[hW1];exact((Below.refl _ w).drew).alloc (A8 _) _
 obtain⟨W2,hW2⟩:∃W2,W2=W1.setCells w.heap.size (A.length*3) (JB x):=⟨_,rfl⟩;have ho2:Own W2 w.heap.size G (A++[x]):=by
  have h:Own W1 w.heap.size G (A++[]):=by rw[DL];exact ho1
  have:=h.splice [x] (by simp;omega);rw[hW2];simpa [H6]using this
 have hg2:W1.grownBy W2 (FZ w.heap.size):=by rw[hW2];exact LP _ _ _
 have hB2:B0 w W2:=hB1.grown hg2 hB1.size (fun k e=>by cases e;exact A8 _);have hcpA:∀ty dc,(DW #[40,40] ty #[FQ (FZ ⟨w.heap.size,A.length*3,FX⟩) (n+1-A.length) dc,FQ (FZ ⟨b,0,FX⟩) 1 1]).run prog W1=.ok (goInt (Nat.min 1 (n+1-A.length))) W2:=fun ty dc=>by
  rw[hW2];exact ZT W1 ty w.heap.size _ _ dc ⟨b,0,FX⟩ 1 1 (JB x) (by simp only[Nat.min_def,JB,BG,ES];split<;>omega)
   (fun j v hj=>by rw[BJ];exact(show One W1 b x from(hB1.block b hbw).trans h1).row j v hj)
   (fun j hj=>ho1.some (by simp[JB]at hj;omega)) (fun j _=>ho1.frozen _) (XP x)
 obtain⟨W3,hW3⟩:∃W3,W3=W2.drew.setCells w.heap.size ((A.length+1)*3) (H6 (y::R)):=⟨_,rfl⟩;have hcpB:∀ty dc sc,(DW #[40,40] ty #[FQ (FZ ⟨w.heap.size,(A.length+1)*3,FX⟩) (n-A.length) dc,FQ (FZ ⟨g,A.length*3,FX⟩) (n-A.length) sc]).run prog W2.drew=.ok (goInt (Nat.min (n-A.length) (n-A.length))) W3:=fun ty dc sc=>by
  rw[hW3];exact ZT W2.drew ty w.heap.size _ _ dc ⟨g,A.length*3,FX⟩ _ sc (H6 (y::R)) (by rw[GY];simp only[Nat.min_self,BG];omega)
   (fun j v hj=>by
    rw[BJ];have:=hrow (A.length*3+j) v (by rw[JO,BA (by rw[GY];omega),GY,FB];exact hj);rw[BI]at this;exact(hB2.cell (p:=⟨g,A.length*3+j,FX⟩) hgw).trans this)
   (fun j hj=>by rw[GY]at hj;exact ho2.drew.some (by simp at hj;omega)) (fun j _=>ho2.drew.frozen _) (XK _)
 have FIN:Hid (Own W3 w.heap.size G (A++x::y::R)/\B0 w W3):=by
  refine⟨?_,?_⟩
  .have h:Own W2.drew w.heap.size G ((A++[x])++[]):=by rw[DL];exact ho2
   have:=h.splice (y::R) (by simp;omega);rw[hW3];simpa using this
  .rw[hW3];exact hB2.drew.grown (LP _ _ _) hB2.size (fun k e=>by cases e;exact A8 _)
 have hin:A.length<n:=by omega
 have BW9:(A.length:Int)<(n:Int):=by omega
 have hw1:IntKind.i64.wrap ((A.length:Int)+1)=(A.length:Int)+1:=by rw[FD];omega
 have hb1:(0:Int)<=(A.length:Int)+1:=by omega
 have hb2:¬ (G=A.length+1):=by omega
 have hb3:(A.length:Int)<=(n:Int)+1:=by omega
 have hb4:¬ (n=A.length):=by omega
 have hb5:(A.length:Int)+1<=(n:Int)+1:=by omega
 have hb6:¬ (G=A.length):=by omega
 have hb7:(A.length:Int)<=(n:Int):=by omega
 have hz3:¬ ((A.length:Int)=(n:Int)):=by omega
 have htn:((A.length:Int)+1).toNat=A.length+1:=by omega
 subst hcap;clear hn hROW hW1 hW2 hW3 hG hrow ho h1 ho1 ho2 hB1 hB2 hg2 hold hik;go_enter func84,ntmps84;go_wp2_with (first
  |(at_builtin;refine Lib.wpList_append_run _ rfl _ _ _ _ rfl _ _ rfl rfl _ _ (hrz _) ?_)
  |(at_builtin;refine VG _ rfl _ _ 40 40 rfl _ _ rfl rfl (hcpA _ _) ?_))
 go_region_law (refine YB rfl (.tmp 50) (.tmp 53) 40 40 rfl (FQ (FZ ⟨w.heap.size,(A.length+1)*3,FX⟩) (cap-A.length) (G-(A.length+1))) (FQ (FZ ⟨g,A.length*3,FX⟩) (cap-A.length) (cap-A.length)) (by simp[Act.eval,Act.put]) (by simp[Act.eval,Act.put]) (hcpB _ _ _) ?_)
 go_wp2
 go_ret;exact⟨G,rfl,FIN.out⟩
theorem AU9{B:Nat}(h:XL W B v fs):∃a c,v=FQ a fs.length c/\fs.length<=c:=by
 rcases h with⟨rfl,rfl⟩|⟨g,cap,rfl,_,h⟩
 .exact⟨FX,0,rfl,A8 _⟩
 .exact⟨_,cap,rfl,h.le⟩
theorem uM{B:Nat}(h:XL W B v fs):∀k,v.ownBlock=FZ k->B<=k/\k<W.heap.size:=by
 intro k hk;rcases h with⟨rfl,rfl⟩|⟨g,cap,rfl,hB,h⟩
 .cases hk
 .cases hk;exact⟨hB,h.lt⟩
theorem zC(v:FV)(A R:List DF)(x:DF)(B b:Nat)(w:FU)(ho:XL w B v (A++R))(hB:B<=w.heap.size)(hl:(A++R).length<=15)(h1:One w b x)(hb:v.ownBlock≠FZ b):
  FW prog 84 #[v,I0 A.length,FQ (FZ ⟨b,0,FX⟩) 1 1] w fun e w'=>
   ∃v',e=.returned v'/\XL w' B v' (A++x::R)/\w.grownBy w' v.ownBlock:=by
 cases R with
 |nil=>
  rw[DL]at ho hl;exact yZ v A x B b w ho hB (by omega) h1
 |cons y R=>
  obtain⟨g,cap,rfl,hg,ho⟩:=XM ho (k:=0) (by simp;omega);have hlen:(A++y::R).length=A.length+R.length+1:=by simp;omega
  have hlen':(A++x::y::R).length=(A++y::R).length+1:=by simp;omega
  by_cases hroom:(A++y::R).length+1<=cap
  .exact(pO g cap A R y x _ b w ho hlen (by omega) hroom h1 (fun e=>hb (by rw[e];rfl))).mono fun e w' ⟨he,ho',hg'⟩=>⟨_,he,.inr ⟨g,cap,by rw[hlen'],hg,ho'⟩,hg'⟩
  .exact(uK g cap A R y x _ b w ho hlen (by omega) (by omega) h1).mono fun e w' ⟨c,he,ho',hb'⟩=>⟨_,he,.inr ⟨w.heap.size,c,by rw[hlen'],hB,ho'⟩,hb'.os,hb'.tape,hb'.output,hb'.size,fun k hk _=>hb'.block k hk⟩
def KG(W:FU)(k:Nat)(v:FV):Prop:=W.heap[k]?=FZ (FT #[v] 42 (0,0))
theorem KG.c(h:KG W k v):W.cell? ⟨k,0,FX⟩=FZ v:=by unfold KG at h;simp[World.cell?,h]
theorem KG.f(h:KG W k v):W.frozen? ⟨k,0,FX⟩=false:=by unfold KG at h;simp[World.frozen?,h]
theorem KG.next(h:KG W k v)(hb:B0 W V):KG V k v:=(hb.block k (by unfold KG at h;exact(AB.1 h).1)).trans h
theorem KG.grown{r:Option Nat}(h:KG W k v)(hb:W.grownBy V r)(hr:FZ k≠r):KG V k v:=(hb.block k (by unfold KG at h;exact(AB.1 h).1) hr).trans h
theorem KG.set(h:KG W k v)(u:FV):KG (W.setCell ⟨k,0,FX⟩ u) k u:=GL u h
theorem KG.ne{g cap:Nat}(h:KG W k v)(ho:Own W g cap fs):g≠k:=by
 rintro rfl;obtain⟨rest,h1,_⟩:=ho;unfold KG at h;rw[h]at h1;have:=BN h1;simp at this
theorem KG.new(W:FU)(v:FV):KG (W.alloc (FT #[v] 42)) W.heap.size v:=heap_alloc_new W _
theorem P9.AV0{w:FU}{r:Option Nat}(h:P9 w W v)(hg:W.grownBy V r)(hl:∀k,r=FZ k->w.heap.size+2<=k):P9 w V v:=by
 have hs:=h.size;have b0:V.heap[w.heap.size]?=W.heap[w.heap.size]? :=hg.block _ (by omega) (fun e=>by have:=hl _ e.symm;omega);have b1:V.heap[w.heap.size+1]?=W.heap[w.heap.size+1]? :=hg.block _ (by omega) (fun e=>by have:=hl _ e.symm;omega);exact⟨h.below.grown hg (by omega) (fun k e=>by have:=hl k e;omega),Nat.le_trans h.size hg.size,(World.cell?_of_block b0).trans h.cd,(World.cell?_of_block b1).trans h.cr,(World.frozen?_of_block b1).trans h.fr⟩
theorem P9.other{w:FU}(h:P9 w W v)(hk:w.heap.size+2<=k)(j:Nat)(u:FV):P9 w (W.setCell ⟨k,j,FX⟩ u) v:=h.grown (WE u) hk
theorem iW(v:FV)(fs A B:List DF)(f:DF)(name x:List UInt8)(w:FU)(hv:IK w v fs)(hs:l7 fs)(g:LK fs)(T:There fs A f B name)(hfit:f.s.length+f.t.length+x.length<=1048576):
  FW prog 57 #[.agg #[v],S0 name,S0 x] w fun e w'=>∃v',e=.returned (.tuple #[.agg #[v'],I0 0])/\XL w' w.heap.size v' (A++⟨f.n,f.s,f.t++x⟩::B)/\B0 w w':=by
 have hn:J9 name=true:=by rw[<-T.nm];exact VU (T.ok g)
 have CG:=fun W (hW:B0 w W)=>U4 _ fs W (hv.next hW) hs;have CN:=fun W=>A69 name (by simp only[J9,Bool.and_eq_true,decide_eq_true_eq]at hn;omega) W;have CC:=fun W (hW:B0 w W)=>RS _ fs W (hv.next hW) hs g.few;have CF:=fun W (hW:B0 w W)=>mO _ fs A B f name W (hv.next hW) g.few T;rw[MP.2 g]at CG;rw[hn]at CN;obtain⟨b,off,cap,rfl,hb,hr,hk,hlt⟩:=WG hv T;have HR:=G6 hr;have HK:=G6 hk;have C85:(A.length:Int)<(fs.length:Int):=by omega
 have CS:=fun W=>ZQ f W (by omega);have CT:=fun(q c:Nat) (W:FU) (ho:Own W q c fs)=>mP q c A.length fs f x W ho hk (by omega) (by omega);have hset:fs.set A.length ⟨f.n,f.s,f.t++x⟩=A++⟨f.n,f.s,f.t++x⟩::B:=by rw[T.eq];simp
 have hsl:fs.length=(A++(⟨f.n,f.s,f.t++x⟩:DF)::B).length:=by rw[T.eq];simp
 rw[hset]at CT;obtain⟨fs',BR5⟩:∃y,A++(⟨f.n,f.s,f.t++x⟩:DF)::B=y:=⟨_,rfl⟩;rw[BR5]at CT hsl⊢;have HSL:=G6 hsl;obtain⟨L,hL⟩:∃L,f.s.length+f.t.length=L:=⟨_,rfl⟩;rw[hL]at CS hfit;have hlg:(x.length:Int)<=1048576-(L:Int):=by omega
 have hsub:IntKind.i64.wrap (1048576-(L:Int))=1048576-(L:Int):=by rw[FD];omega
 clear hv hs g hn T hr hk hset BR5 hsl hL;go_enter func57,ntmps57;go_wp2_with fail;have X:=P9.start w (FQ (FZ ⟨b,off,FX⟩) fs.length cap) 42 42;refine(CG _ X.below).mono ?_;rintro e w1 ⟨rfl,hb1⟩;have X1:=X.next hb1;have HX:=G6 X1;have cd:=X1.cd;have cr:=X1.cr;have fr:=X1.fr;clear CG hb1 X X1;go_wp2_with fail;refine(CN _).mono ?_;rintro e w2 ⟨rfl,rfl⟩;clear CN;go_wp2_with fail;refine(CF _ (G5 HX).below).mono ?_;rintro e w3 ⟨rfl,hb3⟩;have X3:=(G5 HX).next hb3;clear CF HX cd cr fr;have HX:=G6 X3;have cd:=X3.cd;have cr:=X3.cr;have fr:=X3.fr;have r:=(G5 HR).kept X3.below hb;have e0:=r.c0 (G5 HK);have e1:=r.c1 (G5 HK);have e2:=r.c2 (G5 HK);clear hb3 X3 r;go_wp2_with fail;refine(CS _).mono ?_;rintro e w4 ⟨rfl,hb4⟩;have X4:=(G5 HX).next hb4;clear CS HX cd cr fr e0 e1 e2;have HX:=G6 X4;have cd:=X4.cd;clear hb4 X4;go_wp2_with fail;refine(CC _ (G5 HX).below).mono ?_;rintro e w5 ⟨v',rfl,ho,hb5⟩;obtain⟨q,cap2,rfl,hq,ho⟩:=XM ho hlt;have hq2:w.heap.size+2<=q:=by have:=(G5 HX).size;omega
 have X5:=((G5 HX).next hb5).alloc (FT #[FQ (FZ ⟨q,0,FX⟩) fs.length cap2] 42);have ho5:=ho.alloc (FT #[FQ (FZ ⟨q,0,FX⟩) fs.length cap2] 42);have hbx:=KG.new w5 (FQ (FZ ⟨q,0,FX⟩) fs.length cap2);have ca:=hbx.c;clear CC hb5 ho HX cd;go_wp2_with fail;generalize w5.alloc (FT #[FQ (FZ ⟨q,0,FX⟩) fs.length cap2] 42)=W at*;refine(CT q cap2 W ho5).mono ?_;rintro e w6 ⟨rfl,ho6,hg6⟩;have hne:=hbx.ne ho5;have X6:=X5.grown hg6 hq2;have ca6:=(hbx.grown hg6 (fun e=>hne (BN e).symm)).c;have cr:=X6.cr;have fr:=X6.fr;have HB:=G6 X6.below;have HO6:=G6 ho6;clear X6 ho6 hg6 X5 ho5 CT ca hbx;go_wp2_with fail;exact bodyPost_ret (v:=.tuple #[.agg #[FQ (FZ ⟨q,0,FX⟩) fs.length cap2],I0 0]) (by simp[results,results57,go_sem,cr]) rfl
  ⟨_,rfl,.inr ⟨q,cap2,by rw[G5 HSL],by omega,(G5 HO6).other (by show q≠w.heap.size+1;omega) _⟩,(G5 HB).setCell (by simp) _⟩
theorem ZU(v:FV)(fs A B:List DF)(name x:List UInt8)(w:FU)(hv:IK w v fs)(hs:l7 fs)(g:LK fs)(hn:J9 name=true)(hl:fs.length<16)(G:Gap fs A B name)(hfit:x.length<=1048576):
  FW prog 57 #[.agg #[v],S0 name,S0 x] w fun e w'=>∃v',e=.returned (.tuple #[.agg #[v'],I0 0])/\XL w' w.heap.size v' (A++⟨name,[],x⟩::B)/\B0 w w':=by
 have hnl:name.length<=40:=by simp only[J9,Bool.and_eq_true,decide_eq_true_eq]at hn;omega
 have CG:=fun W (hW:B0 w W)=>U4 _ fs W (hv.next hW) hs;have CN:=fun W=>A69 name (by omega) W;have CC:=fun W (hW:B0 w W)=>RS _ fs W (hv.next hW) hs g.few;have CF:=fun W (hW:B0 w W)=>A68 _ fs A B name W (hv.next hW) g.few G;have CL:=fun W=>OJ name W (by omega);have hlen:∃a c,v=FQ a fs.length c:=by
  rcases hv with⟨a,cap,rfl,rfl,_⟩|⟨b,off,cap,rfl,_⟩
  .exact⟨_,_,rfl⟩
  .exact⟨_,_,rfl⟩
 rw[MP.2 g]at CG;rw[hn]at CN;obtain⟨a,c,rfl⟩:=hlen;have hl2:¬ ((fs.length:Int)=16):=by omega
 have hlg:¬ ((1048576:Int)<(x.length:Int)):=by omega
 have CI:=fun(v5:FV) (D k:Nat) (W:FU) (ho:XL W D v5 fs) (hD:D<=W.heap.size) (h1:One W k ⟨name,[],[]⟩) (hk:v5.ownBlock≠FZ k)=>zC v5 A B ⟨name,[],[]⟩ D k W (by rw[<-G.eq];exact ho) hD (by rw[<-G.eq];omega) h1 hk;have CT:=fun(q c:Nat) (W:FU) (ho:Own W q c (A++⟨name,[],[]⟩::B))=>mP q c A.length _ ⟨name,[],[]⟩ x W ho (by simp) hfit (by simp);have hset:(A++(⟨name,[],[]⟩:DF)::B).set A.length ⟨name,[],[]++x⟩=A++⟨name,[],x⟩::B:=by simp
 simp only at CT;rw[hset]at CT;have hsl:(A++(⟨name,[],[]⟩:DF)::B).length=(A++(⟨name,[],x⟩:DF)::B).length:=by simp
 have HSL:=G6 hsl;have hat:A.length<(A++(⟨name,[],[]⟩:DF)::B).length:=by simp
 obtain⟨f1,hf1⟩:∃y,A++(⟨name,[],x⟩:DF)::B=y:=⟨_,rfl⟩;obtain⟨f0,hf0⟩:∃y,A++(⟨name,[],[]⟩:DF)::B=y:=⟨_,rfl⟩;rw[hf1]at CT HSL⊢;rw[hf0]at CT HSL hat CI;have HCI:=G6 CI;have hati:(A.length:Int)<(f0.length:Int):=by omega
 clear hv hs g hn G hset hsl hf0 hf1 CI;go_enter func57,ntmps57;go_wp2_with fail;have X:=P9.start w (FQ a fs.length c) 42 42;refine(CG _ X.below).mono ?_;rintro e w1 ⟨rfl,hb1⟩;have X1:=X.next hb1;have HX:=G6 X1;have cd:=X1.cd;have cr:=X1.cr;have fr:=X1.fr;clear CG hb1 X X1;go_wp2_with fail;refine(CN _).mono ?_;rintro e w2 ⟨rfl,rfl⟩;clear CN;go_wp2_with fail;refine(CF _ (G5 HX).below).mono ?_;rintro e w3 ⟨rfl,hb3⟩;have X3:=(G5 HX).next hb3;clear CF HX cd cr fr;have HX:=G6 X3;have cd:=X3.cd;have cr:=X3.cr;have fr:=X3.fr;clear hb3 X3;go_wp2_with fail;refine(CC _ (G5 HX).below).mono ?_;rintro e w5 ⟨v',rfl,ho,hb5⟩;have hob:=uM ho;obtain⟨a5,c5,rfl,_⟩:=AU9 ho;have hz:=(G5 HX).size;have X5:=((G5 HX).next hb5).alloc (FT #[FQ a5 fs.length c5] 42);have ho5:=ho.next ((Below.refl _ _).alloc (A8 _) (FT #[FQ a5 fs.length c5] 42));have hbx:=KG.new w5 (FQ a5 fs.length c5);have haz:(w5.alloc (FT #[FQ a5 fs.length c5] 42)).heap.size=w5.heap.size+1:=by simp
 have HOB:=G6 hob;have hz35:=hb5.size;clear CC hb5 ho HX cd hob;go_wp2_with fail;generalize w5.alloc (FT #[FQ a5 fs.length c5] 42)=W at*;have CI6:∀w6:FU,B0 W w6->FW prog 84 #[FQ a5 fs.length c5,I0 A.length,FQ (FZ ⟨w6.heap.size,0,FX⟩) 1 1] (w6.alloc (FT #[S0 name,.string ⟨#[]⟩,.string ⟨#[]⟩] 88)) fun e w'=>
   ∃g7 c7,e=.returned (FQ (FZ ⟨g7,0,FX⟩) f0.length c7)/\Hid (w3.heap.size<=g7/\Own w' g7 c7 f0/\P9 w w' (FQ a fs.length c)/\KG w' w5.heap.size (FQ a5 fs.length c5)):=fun w6 hb6=>by
  have hal:=(Below.refl w6.heap.size w6).alloc (A8 _) (FT #[S0 name,.string ⟨#[]⟩,.string ⟨#[]⟩] 88);have hs6:=hb6.size;refine(G5 HCI _ w3.heap.size w6.heap.size _ ((ho5.next hb6).next hal) (by have:=X5.size;have:=uM ho5;simp;omega) (heap_alloc_new w6 _) (fun e=>by have:=G5 HOB _ e;omega)).mono ?_;rintro e w7 ⟨v7,he,ho7,hg7⟩;obtain⟨g7,c7,rfl,h7,ho7⟩:=XM ho7 hat;exact⟨g7,c7,he,h7,ho7,((X5.next hb6).next hal).AV0 hg7 (fun k e=>by have:=G5 HOB k e;omega),((hbx.next hb6).next hal).grown hg7 (fun e=>by have:=G5 HOB _ e.symm;omega)⟩
 have ca:=hbx.c;have HBX:=G6 hbx;clear X5 ho5 hbx HCI;have hcx:∀w6:FU,B0 W w6->w6.cell? ⟨w5.heap.size,0,FX⟩=FZ (FQ a5 fs.length c5)/\w5.heap.size<w6.heap.size:=fun w6 hb6=>⟨((G5 HBX).next hb6).c,by have:=hb6.size;omega⟩;have HCX:=G6 hcx;have HC6:=G6 CI6;clear hcx CI6
 go_region_with (first
  |(go_at_call 42;refine(CL _).mono ?_;rintro e w6 ⟨rfl,hb6⟩;obtain⟨ca6,hl6⟩:=G5 HCX w6 (U6 hb6))
  |(go_at_call 84;refine(G5 HC6 w6 (U6 hb6)).mono ?_;rintro e w7 ⟨g7,c7,rfl,h7⟩;have ca7:=(G5 h7).2.2.2.c;have fa7:=(G5 h7).2.2.2.f))
 all_goals
  have hz5:w.heap.size+2<=w5.heap.size:=by omega
  have hne:=(G5 h7).2.2.2.ne (G5 h7).2.1;have ho8:=(G5 h7).2.1.other (a:=⟨w5.heap.size,0,FX⟩) hne (FQ (FZ ⟨g7,0,FX⟩) f0.length c7);have X8:=(G5 h7).2.2.1.other hz5 0 (FQ (FZ ⟨g7,0,FX⟩) f0.length c7);have hb8:=(G5 h7).2.2.2.set (FQ (FZ ⟨g7,0,FX⟩) f0.length c7);have hg7:=(G5 h7).1;have ca8:=hb8.c;clear h7 ca7 fa7 ca6 hb6 ca CL HC6 HCX HBX;generalize w7.setCell ⟨w5.heap.size,0,FX⟩ (FQ (FZ ⟨g7,0,FX⟩) f0.length c7)=w8 at*;go_wp2_with fail;refine(CT g7 c7 w8 ho8).mono ?_;rintro e w9 ⟨rfl,ho9,hg9⟩;have X9:=X8.grown hg9 (by omega);have ca9:=(hb8.grown hg9 (fun e=>hne (BN e).symm)).c;have cr9:=X9.cr;have fr9:=X9.fr;have HB:=G6 X9.below;have HO9:=G6 ho9;clear X9 ho9 hg9 X8 ho8 CT ca8 hb8 cr fr;go_wp2_with fail;exact bodyPost_ret (v:=.tuple #[.agg #[FQ (FZ ⟨g7,0,FX⟩) f0.length c7],I0 0]) (by simp[results,results57,go_sem,cr9]) rfl
   ⟨_,rfl,.inr ⟨g7,c7,by rw[G5 HSL],by omega,(G5 HO9).other (by show g7≠w.heap.size+1;omega) _⟩,(G5 HB).setCell (by simp) _⟩
def WH(k:Nat)(f:DF):DF:=⟨f.n,f.s++f.t.take k,[]⟩
def mix(keep:Nat)(fs:List DF)(j:Nat):List DF:=(fs.take j).map (WH keep)++fs.drop j
theorem AV1(k:Nat)(l:List UInt8):l.take (min k l.length)=l.take k:=by
 by_cases h:k<=l.length
 .rw[Nat.min_eq_left h]
 .rw[Nat.min_eq_right (by omega),List.take_length,List.take_of_length_le (by omega)]
theorem BD4(keep:Nat)(fs:List DF):mix keep fs 0=fs:=by simp[mix]
theorem BX0(keep:Nat)(fs:List DF):mix keep fs fs.length=fs.map (WH keep):=by simp[mix]
theorem zF{keep:Nat}{j:Nat}{f:DF}(h:fs[j]?=FZ f):(mix keep fs j)[j]?=FZ f:=by
 have hl:=(AU.1 h).1;rw[mix,BA (by simp;omega)];simp[h,Nat.min_eq_left (Nat.le_of_lt hl)]
theorem BX1{keep:Nat}{j:Nat}{f:DF}(h:fs[j]?=FZ f):(mix keep fs j).set j (WH keep f)=mix keep fs (j+1):=by
 obtain⟨hl,rfl⟩:=AU.1 h;have e:fs.drop j=fs[j]::fs.drop (j+1):=List.drop_eq_getElem_cons hl;have hm:((fs.take j).map (WH keep)).length=j:=by simp;omega
 rw[mix,mix,e,List.set_append_right _ _ (by omega),hm,Nat.sub_self,List.set_cons_zero,List.take_succ_eq_append_getElem hl];simp only[List.map_append,List.map_cons,List.map_nil,BQ,List.cons_append,List.nil_append]
theorem BD5(v:FV)(fs:List DF)(keep:Int)(w:FU)(hv:IK w v fs)(hs:l7 fs)(h:UQ fs=false\/keep<0):
  FW prog 105 #[.agg #[v],I0 keep] w (R0 w (.tuple #[.agg #[N0],I0 3])):=by
 obtain⟨a,n0,c,rfl⟩:=IU hv;have C:=fun W (hW:B0 w W)=>U4 _ fs W (hv.next hW) hs;clear hv hs
 cases hg:UQ fs with
 |false=>
  rw[hg]at C;clear hg h;go_enter func105,ntmps105;go_wp2_with fail;have X:=P9.start w (FQ a n0 c) 42 42;refine(C _ X.below).mono ?_;rintro e w1 ⟨rfl,hb1⟩;have X1:=X.next hb1;have HB:=G6 X1.below;have c1:=X1.cr;have f1:=X1.fr;clear C hb1 X X1;go_wp2_with fail;exact bodyPost_ret (v:=.tuple #[.agg #[N0],I0 3]) (by simp[results,results105,go_sem,c1]) rfl ⟨rfl,(G5 HB).setCell (by simp) _⟩
 |true=>
  rw[hg]at C h;have hk:keep<0:=h.elim (fun h=>by cases h) id;clear hg h;go_enter func105,ntmps105;go_wp2_with fail;have X:=P9.start w (FQ a n0 c) 42 42;refine(C _ X.below).mono ?_;rintro e w1 ⟨rfl,hb1⟩;have X1:=X.next hb1;have HB:=G6 X1.below;have c1:=X1.cr;have f1:=X1.fr;clear C hb1 X X1;go_wp2_with fail;exact bodyPost_ret (v:=.tuple #[.agg #[N0],I0 3]) (by simp[results,results105,go_sem,c1]) rfl ⟨rfl,(G5 HB).setCell (by simp) _⟩
theorem AV2(v:FV)(fs:List DF)(keep:Nat)(w:FU)(hv:IK w v fs)(hs:l7 fs)(g:LK fs):
  FW prog 105 #[.agg #[v],I0 keep] w fun e w'=>∃v',e=.returned (.tuple #[.agg #[v'],I0 0])/\XL w' w.heap.size v' (fs.map (WH keep))/\B0 w w':=by
 obtain⟨a,n0,c,rfl⟩:=IU hv;have C:=fun W (hW:B0 w W)=>U4 _ fs W (hv.next hW) hs;have CC:=fun W (hW:B0 w W)=>RS _ fs W (hv.next hW) hs g.few;rw[MP.2 g]at C;have hk0:¬ ((keep:Int)<0):=by omega
 have CT:=fun(q c:Nat) (j:Nat) (f:DF) (n:Nat) (W:FU) (ho:Own W q c (mix keep fs j)) (hj:fs[j]?=FZ f) (hn:n=f.s.length+min keep f.t.length)=>
  bQ q c j (mix keep fs j) f n W ho (zF hj) (by omega) (NC (g.ok f (AZ hj)))
 have HCT:=G6 CT;have HG:=G6 g;have hfew:=g.few;clear hv hs g CT;go_enter func105,ntmps105;go_wp2_with fail;have X:=P9.start w (FQ a n0 c) 42 42;refine(C _ X.below).mono ?_;rintro e w1 ⟨rfl,hb1⟩;have X1:=X.next hb1;have HX:=G6 X1;have cd:=X1.cd;clear C hb1 X X1;go_wp2_with fail;refine(CC _ (G5 HX).below).mono ?_;rintro e w2 ⟨v',rfl,ho,hb2⟩;have hz2:=(G5 HX).size;have X2:=(G5 HX).next hb2;clear CC HX cd;rcases ho with⟨rfl,rfl⟩|⟨q,cap,rfl,hq,ho⟩
 .have HX:=G6 (X2.alloc (FT #[N0] 42));clear X2;have ca:(w2.alloc (FT #[N0] 42)).cell? ⟨w2.heap.size,0,FX⟩=FZ (N0):=by simp
  go_wp2_with fail
  go_loopg [22] 1 (fun _ s wr=>s=I0 0/\Hid (P9 w wr (FQ a n0 c))/\wr.cell? ⟨w2.heap.size,0,FX⟩=FZ (N0))
  case atStart=>exact⟨rfl,HX,ca⟩
  case round=>
   obtain⟨rfl,hX,hca⟩:=hrel;have cr:=(G5 hX).cr;have fr:=(G5 hX).fr;go_wp2_with fail;exact bodyPost_ret (v:=.tuple #[.agg #[N0],I0 0]) (by simp[results,results105,go_sem,cr]) rfl ⟨_,rfl,.inl ⟨rfl,rfl⟩,(G5 hX).below.setCell (by simp) _⟩
 .have HX:=G6 (X2.alloc (FT #[FQ (FZ ⟨q,0,FX⟩) fs.length cap] 42));have HO:=G6 (ho.alloc (FT #[FQ (FZ ⟨q,0,FX⟩) fs.length cap] 42));have hql:=ho.lt;have ca:(w2.alloc (FT #[FQ (FZ ⟨q,0,FX⟩) fs.length cap] 42)).cell? ⟨w2.heap.size,0,FX⟩=FZ (FQ (FZ ⟨q,0,FX⟩) fs.length cap):=by simp
  have hq2:w.heap.size+2<=q:=by omega
  clear X2 ho;go_wp2_with fail
  go_loopg [22] fs.length (fun kx s wr=>∃k:Nat,s=I0 k/\k<=fs.length/\fs.length-k<=kx/\Hid (P9 w wr (FQ a n0 c)/\Own wr q cap (mix keep fs k))/\wr.cell? ⟨w2.heap.size,0,FX⟩=FZ (FQ (FZ ⟨q,0,FX⟩) fs.length cap))
  case atStart=>exact⟨0,rfl,Nat.zero_le _,by omega,G6 ⟨G5 HX,by rw[BD4];exact G5 HO⟩,ca⟩
  case round=>
   obtain⟨k,rfl,hk,hkx,hI,hca⟩:=hrel;clear ca;by_cases hlt:k<fs.length
   .obtain⟨f,hf⟩:∃f,fs[k]?=FZ f:=⟨_,List.getElem?_eq_getElem hlt⟩;have hfl:=NC ((G5 HG).ok f (AZ hf));have e1:=(G5 hI).2.c1 (zF hf);have e2:=(G5 hI).2.c2 (zF hf);have HF:=G6 hf;have CT:=fun(n:Nat) (hn:n=f.s.length+min keep f.t.length)=>G5 HCT q cap k f n wr.drew (G5 hI).2.drew hf hn;have C85:(k:Int)<(fs.length:Int):=by omega
    clear hf;have CT2:=CT _ rfl;have hwm:IntKind.i64.wrap ((f.s.length:Int)+min (keep:Int) (f.t.length:Int))=((f.s.length+min keep f.t.length:Nat):Int):=by
     rw[FD];omega
    have hset:(mix keep fs k).set k ⟨f.n,(f.s++f.t).take (f.s.length+min keep f.t.length),[]⟩=mix keep fs (k+1):=by
     rw[<-BX1 (G5 HF),WH,List.take_length_add_append,AV1]
    rw[hset]at CT2;have HW:=G6 hwm;clear CT hset hwm;generalize f.s.length+min keep f.t.length=M at CT2 HW;go_wp2_with fail
    go_region_with (first|(go_at_call 88;rw[G5 HW];refine CT2.mono ?_;rintro e w4 ⟨rfl,ho4,hg4⟩))
    all_goals
     have hg5:wr.grownBy w4 (FZ q):=⟨hg4.os,hg4.tape,hg4.output,hg4.size,hg4.block⟩;have X4:=(G5 hI).1.grown hg5 hq2;have ca4:w4.cell? ⟨w2.heap.size,0,FX⟩=FZ (FQ (FZ ⟨q,0,FX⟩) fs.length cap):=hg5.cell hca (fun e=>by have e3:w2.heap.size=q:=BN e;omega);have HI:=G6 (And.intro X4 ho4);clear X4 ho4 hg4 hg5 CT2;go_wp2_with fail
     go_roundg (fs.length-(k+1))
     case measure=>omega
     case rel=>exact⟨k+1,rfl,by omega,A8 _,HI,ca4⟩
   .have hkk:k=fs.length:=by omega
    subst hkk;have cr:=(G5 hI).1.cr;have fr:=(G5 hI).1.fr;go_wp2_with fail;exact bodyPost_ret (v:=.tuple #[.agg #[FQ (FZ ⟨q,0,FX⟩) fs.length cap],I0 0]) (by simp[results,results105,go_sem,cr]) rfl
     ⟨_,rfl,.inr ⟨q,cap,by simp,by omega,by have:=(G5 hI).2;rw[BX0]at this;exact this.other (by show q≠w.heap.size+1;omega) _⟩,(G5 hI).1.below.setCell (by simp) _⟩
theorem JR(g:LK fs):l7 fs:=fun f hf=>by
 have h:=g.ok f hf;have h1:=NC h;have h2:=VU h;simp only[J9,Bool.and_eq_true,decide_eq_true_eq]at h2;omega
theorem BD6{f:DF}(g:LK (A++f::B))(hn:f'.n=f.n)(hl:f'.s.length+f'.t.length<=1048576):LK (A++f'::B):=by
 refine⟨by simpa using g.few,?_,?_⟩
 .intro x hx;rcases BU.1 hx with h|h
  .exact g.ok x (by simp[h])
  .rcases BO.1 h with rfl|h
   .have:=VU (g.ok f (by simp));simp[QC,hn,this,hl]
   .exact g.ok x (by simp[h])
 .have h:=g.asc;unfold Asc at h⊢;rw[DJ,FH]at h⊢;refine⟨h.1,⟨fun b hb=>by rw[hn];exact h.2.1.1 b hb,h.2.1.2⟩,fun a ha b hb=>?_⟩;rcases BO.1 hb with rfl|hb
  .rw[hn];exact h.2.2 a ha f (by simp)
  .exact h.2.2 a ha b (by simp[hb])
theorem pR(g:LK fs)(G:Gap fs A B name)(hn:J9 name=true)(hl:fs.length<16)(hf:f'.n=name)(hs:f'.s.length+f'.t.length<=1048576):LK (A++f'::B):=by
 have g':=g;rw[G.eq]at g' hl;refine⟨by simp at hl⊢;omega,?_,?_⟩
 .intro x hx;rcases BU.1 hx with h|h
  .exact g'.ok x (by simp[h])
  .rcases BO.1 h with rfl|h
   .simp[QC,hf,hn,hs]
   .exact g'.ok x (by simp[h])
 .have h:=g'.asc;unfold Asc at h⊢;rw[DJ]at h;rw[DJ,FH];refine⟨h.1,⟨fun b hb=>by rw[hf];exact G.hi b hb,h.2.1⟩,fun a ha b hb=>?_⟩;rcases BO.1 hb with rfl|hb
  .rw[hf];exact G.lo a ha
  .exact h.2.2 a ha b hb
theorem There.set{f:DF}(T:There fs A f B name)(hf:f'.n=name):There (A++f'::B) A f' B name:=⟨rfl,hf,T.lo,T.hi⟩
theorem Gap.ins(G:Gap fs A B name)(hf:f'.n=name):There (A++f'::B) A f' B name:=⟨rfl,hf,G.lo,G.hi⟩
def zG(fs:List DF)(name:List UInt8):Option DF:=fs.find? fun f=>decide (f.n=name)
theorem There.look{f:DF}(T:There fs A f B name):zG fs name=FZ f:=by
 rw[zG,T.eq,List.find?_append,List.find?_eq_none.2 (fun a ha=>by simp[TU (T.lo a ha)])];simp[T.nm]
theorem Gap.look(G:Gap fs A B name):zG fs name=FX:=by
 rw[zG,G.eq,List.find?_append,List.find?_eq_none.2 (fun a ha=>by simp[TU (G.lo a ha)]),List.find?_eq_none.2 (fun b hb=>by simp[(TU (G.hi b hb)).symm])];rfl
noncomputable def VI(fs:List DF)(name:List UInt8):List UInt8×Int:=if UQ fs=true then match zG fs name with
 |some f=>(f.s++f.t,0)
 |none=>([],7)else([],3)
theorem iY(h:UQ fs=false):VI fs name=([],3):=by simp[VI,h]
theorem UW{f:DF}(g:LK fs)(T:There fs A f B name):VI fs name=(f.s++f.t,0):=by simp[VI,MP.2 g,T.look]
theorem iZ(g:LK fs)(G:Gap fs A B name):VI fs name=([],7):=by simp[VI,MP.2 g,G.look]
theorem AV3(fs:List DF)(name:List UInt8):(VI fs name).1.length<=1048576:=by
 rcases iT fs name with⟨E,⟨h,_⟩|⟨g,⟨A,B,G⟩,_⟩⟩|⟨g,A,f,B,T⟩
 .rw[iY h];simp
 .rw[iZ g G];simp
 .rw[UW g T];have:=NC (T.ok g);simp;omega
theorem BD7(v:FV)(fs:List DF)(name:List UInt8)(w:FU)(hv:IK w v fs)(hs:l7 fs):
  FW prog 56 #[.agg #[v],S0 name] w (R0 w (.tuple #[S0 (VI fs name).1,I0 (VI fs name).2])):=by
 rcases iT fs name with⟨E,h⟩|⟨g,A,f,B,T⟩
 .have h':=yX v fs name E w hv hs h;rcases h with⟨h,rfl⟩|⟨g,⟨A,B,G⟩,rfl⟩
  .rw[iY h];exact h'
  .rw[iZ g G];exact h'
 .rw[UW g T];exact mQ v fs A B f name w hv hs g T
def MX(f:FuncId)(args:FV->Array FV)(fs d:List DF)(E:Int):Prop:=∀v W,IK W v fs->FW prog f (args (.agg #[v])) W fun e w'=>∃a n c,e=.returned (.tuple #[.agg #[FQ a n c],I0 E])/\Hid (IK w' (FQ a n c) d)/\B0 W w'
theorem uN{f:FuncId}{args:FV->Array FV}{E:Int}(h:∀v W,IK W v fs->FW prog f (args (.agg #[v])) W (R0 W (.tuple #[.agg #[N0],I0 E]))):MX f args fs [] E:=
 fun v W hv=>(h v W hv).mono fun _ w' ⟨he,hb⟩=>⟨_,_,_,he,IK.nil w',hb⟩
theorem MO{f:FuncId}{args:FV->Array FV}{d:List DF}(h:∀v W,IK W v fs->FW prog f (args (.agg #[v])) W fun e w'=>∃v',e=.returned (.tuple #[.agg #[v'],I0 0])/\XL w' W.heap.size v' d/\B0 W w'):MX f args fs d 0:=
 fun v W hv=>(h v W hv).mono fun _ w' ⟨v',he,ho,hb⟩=>by
  obtain⟨a,n,c,rfl⟩:=IU ho.disk;exact⟨a,n,c,he,ho.disk,hb⟩
