/-
  Part.
-/
import Derived.Test.YtppjdeblncincaaGreatDoorLOH
import Derived.Lib.AppendZerosOnto
import Derived.Lib.Overlaps
set_option maxRecDepth 20000
set_option maxHeartbeats 8000000
namespace Go.Proofs.YtppjdeblncincaaGreatDoor
open Go.RowKit Go.Proofs.Tryz
open _root_.Nat renaming le_refl->A8,zero_add->BJ,add_sub_cancel_left->FD
open _root_.Array renaming getElem?_eq_some_iff->AL
open _root_.List renaming length_append->AP,getElem?_eq_some_iff->AV,mem_of_getElem?->BA,getElem?_append_right->BD,length_cons->BH,mem_cons->BQ,append_assoc->BU,mem_append->C9,pairwise_append->DL,append_nil->DU,length_nil->EW,pairwise_cons->FK
open Go.Builtin renaming zeroCells->BI,copy_->DY
open Go.Addr renaming add_lit->BK
open _root_.Option.some renaming inj->BP
open Go.IntKind renaming wrap_i64->FI
open Go.Value renaming slice->FU
open Go.Obj renaming cells->FV
open Go renaming World->FW,Value->FX,Calls->FZ
open _root_.Option renaming none->G5,some->G6
variable{W V:FW}{B fs A:List DF}{v:FX}{k:Nat}{f':DF}{name:List UInt8}
theorem bD(w:FW)(ty:TypeId)(b o dLen dCap:Nat)(a:Addr)(sLen sCap:Nat)(cs:List FX)(hn:cs.length=Nat.min sLen dLen*3)
  (hsrc:∀j v,cs[j]?=G6 v->w.cell? (a.add j)=G6 v) (hc:∀j,j<cs.length->(w.cell? ⟨b,o+j,G5⟩).isSome=true) (hf:∀j,j<cs.length->w.frozen? ⟨b,o+j,G5⟩=false) (h1:∀v∈cs,v.oneCell'=true):
  (DY #[28,28] ty #[FU (G6 ⟨b,o,G5⟩) dLen dCap,FU (G6 a) sLen sCap]).run prog w=.ok (goInt (Nat.min sLen dLen)) (w.setCells b o cs):=by
 have hl:=run_loadCells_list (P:=prog) w a cs hsrc;have hst:=run_storeCells_cells (P:=prog) b o cs 0 w (by simpa using hc) (by simpa using hf) h1;obtain⟨i0,hi0,hz0,hz1,hz2⟩:=UK;simp[DY,run_underlying underlying28,Builtin.lenOf,Builtin.firstCells,sizeOf,typeInfo,hi0,hz1,<-hn,hl,hst]
theorem vM(w:FW){o:Oper}{a:Act}{K:Act->FW->Prop}{Q:Exit->Act->FW->Prop}(d s:Operand)(t t':TypeId)
  (ho:o.op=.call {callee:=.builtin .copy,args:=#[d,s],argTypes:=#[t,t']}) (v u:FX) (hd:a.eval d=v) (hs:a.eval s=u) {v':FX} {w':FW}
  (hr:(DY #[t,t'] o.type #[v,u]).run prog w=.ok v' w') (h:K (a.put o.dst v') w'):o.wp prog a w K Q:=by
 unfold Oper.wp execOp;simp only[ho,resolve,invoke,builtin,Sem.run_bind,Sem.run_pure,Result.andThen_ok,List.map_toArray,List.map_cons,List.map_nil,hd,hs,hr];exact h
theorem VY(w:FW){ops:Array Oper}{rest:List Oper}{o:Oper}{a:Act}{Q:Exit->Act->FW->Prop}(hgd:o.guard=G5)(d s:Operand)(t t':TypeId)
  (ho:o.op=.call {callee:=.builtin .copy,args:=#[d,s],argTypes:=#[t,t']}) (v u:FX) (hd:a.eval d=v) (hs:a.eval s=u) {v':FX} {w':FW}
  (hr:(DY #[t,t'] o.type #[v,u]).run prog w=.ok v' w') (h:wpList prog ops Q rest (a.put o.dst v') w'):wpList prog ops Q (o::rest) a w:=
 wpList_plain hgd fun _ hK=>vM w d s t t' ho v u hd hs hr (hK _ _ h)
theorem Z4{ops:Array Oper}{o:Oper}{a:Act}{w:FW}{K:Act->FW->Prop}{Q:Exit->Act->FW->Prop}{E:Prop}
  (hg:o.guard=G5) (d x:Operand) (dT sT:TypeId) (hop:o.op=Op.call {callee:=Callee.builtin Builtin.copy,args:=#[d,x],argTypes:=#[dT,sT]})
  (v u:FX) (hd:a.eval d=v) (hx:a.eval x=u) {v':FX} {w':FW} (hr:(DY #[dT,sT] o.type #[v,u]).run prog w=.ok v' w') (hK:K (a.put o.dst v') w'):
  if Region.wanted o (yielded ops a.tmps)=true then Oper.wp prog o a w K Q else E:=by
 have hw:Region.wanted o (yielded ops a.tmps)=true:=by simp[Region.wanted,hg]
 rw[if_pos hw];unfold Oper.wp;simp[execOp,hop,resolve,invoke,builtin,hd,hx,hr,Result.andThen];exact hK
def One(W:FW)(b:Nat)(x:DF):Prop:=W.heap[b]?=G6 (FV (JD x).toArray 81 (0,0))
theorem One.row{b:Nat}{x:DF}(h:One W b x):∀j v,(JD x)[j]?=G6 v->W.cell? ⟨b,0+j,G5⟩=G6 v:=by
 intro j v hj;unfold One at h;have:(JD x).toArray[j]?=G6 v:=by simpa using hj
 simp[World.cell?,h,hj]
theorem YJ(x:DF):∀u∈JD x,u.oneCell'=true:=by
 intro u h;simp[JD]at h;rcases h with rfl|rfl|rfl<;>rfl
theorem A02(v:FX)(A:List DF)(x:DF)(B b:Nat)(w:FW)(ho:YG w B v A)(hB:B<=w.heap.size)(hl:A.length<=16)(h1:One w b x):
  FZ prog 106 #[v,I0 A.length,FU (G6 ⟨b,0,G5⟩) 1 1] w fun e w'=>
   ∃v',e=.returned v'/\YG w' B v' (A++[x])/\w.grownBy w' v.ownBlock:=by
 obtain⟨i0,hi0,hz0,hz1,hz2⟩:=UK;have hrow:=ho.row;have HR:=G8 hrow;have H1:=G8 h1.row;have V:∃a c,v=FU a A.length c/\A.length<=c:=by
  rcases ho with⟨rfl,rfl⟩|⟨g,cap,rfl,_,h⟩
  .exact⟨G5,0,rfl,A8 _⟩
  .exact⟨_,cap,rfl,h.le⟩
 obtain⟨a,c,rfl,hc⟩:=V;clear ho hrow h1;rcases Nat.lt_or_ge A.length c with hcl|hcl
 .have hne:¬c=A.length:=by omega
  go_enter func106,ntmps106;go_wp2_with (at_builtin;refine wpList_append_own _ rfl _ _ 28 rfl B 81 i0 _ 3 48 underlying28 hi0 hz0 hz1 hz2 rfl (by decide) _ A.length (H8 A) rfl (G7 HR) ⟨b,0,G5⟩ 1 1 (JD x) rfl (by rfl) ?qc2 (YJ x) ?qc4 ?qc5 hB ?_)
  case qc2=>
   intro j u hj;rw[BK];exact G7 H1 j u hj
  case qc4=>simp only[maxLen];omega
  case qc5=>omega
  intro v' w1 hown hgrow _
  go_wp2
  go_ret;exact⟨v',rfl,YG.L9 (by rw[AP,JR];simpa [H8]using hown),hgrow⟩
 .obtain rfl:c=A.length:=by omega
  go_enter func106,ntmps106;go_wp2_with (at_builtin;refine wpList_append_own _ rfl _ _ 28 rfl B 81 i0 _ 3 48 underlying28 hi0 hz0 hz1 hz2 rfl (by decide) _ A.length (H8 A) rfl (G7 HR) ⟨b,0,G5⟩ 1 1 (JD x) rfl (by rfl) ?qc2 (YJ x) ?qc4 ?qc5 hB ?_)
  case qc2=>
   intro j u hj;rw[BK];exact G7 H1 j u hj
  case qc4=>simp only[maxLen];omega
  case qc5=>omega
  intro v' w1 hown hgrow _
  go_wp2
  go_ret;exact⟨v',rfl,YG.L9 (by rw[AP,JR];simpa [H8]using hown),hgrow⟩
theorem qR(g cap:Nat)(A R:List DF)(y x:DF)(n b:Nat)(w:FW)(ho:Own w g cap (A++y::R))(hn:n=A.length+R.length+1)(hsm:n<=16)(hroom:n+1<=cap)(h1:One w b x)(hbg:b≠g):
  FZ prog 106 #[FU (G6 ⟨g,0,G5⟩) n cap,I0 A.length,FU (G6 ⟨b,0,G5⟩) 1 1] w fun e w'=>
   e=.returned (FU (G6 ⟨g,0,G5⟩) (n+1) cap)/\Own w' g cap (A++x::y::R)/\w.grownBy w' (G6 g):=by
 have hcl:=ho.capLe;simp only[maxLen]at hcl;have hrow:=ho.row;have AY8:w.shape? g=G6 (81,cap*3):=by
  obtain⟨rest,q1,q2,_⟩:=ho;rw[AP,BH]at q2;simp[World.shape?,q1,H7,q2]
 have AY9:w.shape? b=G6 (81,3):=by unfold One at h1;simp[World.shape?,h1,JD]
 have hfb:∀j,w.frozen? ⟨b,j,G5⟩=false:=fun j=>by unfold One at h1;simp[World.frozen?,h1]
 have hov:∀lb cb,(callFunc 151 #[FU (G6 ⟨b,0,G5⟩) 1 1,FU (G6 ⟨g,(A.length+1)*3,G5⟩) lb cb]).run prog w=.ok (.value (.bool false)) w:=fun lb cb=>by
  rw[run_callFunc_extern func151 (by kernel_rfl) (by kernel_rfl) (by kernel_rfl) (e:=Extern.SlicesOverlaps.overlaps #[28,28] #[4]) (by kernel_rfl),
   Lib.run_overlaps_apart w 28 4 81 underlying28 3 sizeOf81 ⟨b,0,G5⟩ ⟨g,(A.length+1)*3,G5⟩ 1 1 lb cb hbg 81 81 3 (cap*3) AY9 AY8 (by omega) (hfb 0) (hfb 3)]
  rfl
 obtain⟨W1,hW1⟩:∃W1,W1=w.drew.setCells g ((A.length+1)*3) (H8 (y::R)):=⟨_,rfl⟩;have ho1:Own W1 g cap (A++y::y::R):=by
  have h:Own w.drew g cap ((A++[y])++R):=by rw[BU];exact ho
  have:=h.splice (y::R) (by simp;omega);rw[hW1];simpa using this
 have hg1:w.grownBy W1 (G6 g):=by rw[hW1];have:=LV (g:=g) (H8 (y::R)) ((A.length+1)*3) w.drew;exact⟨this.os,this.tape,this.output,this.size,this.block⟩
 have hcp1:∀ty dc sc,(DY #[28,28] ty #[FU (G6 ⟨g,(A.length+1)*3,G5⟩) (n-A.length) dc,FU (G6 ⟨g,A.length*3,G5⟩) (n+1-A.length) sc]).run prog w.drew=.ok (goInt (Nat.min (n+1-A.length) (n-A.length))) W1:=fun ty dc sc=>by
  rw[hW1];exact bD w.drew ty g _ _ dc ⟨g,A.length*3,G5⟩ _ sc (H8 (y::R)) (by rw[H7];simp only[Nat.min_def,BH];split<;>omega)
   (fun j v hj=>by
    rw[BK];have:=hrow (A.length*3+j) v (by rw[JR,BD (by rw[H7];omega),H7,FD];exact hj);rw[BJ]at this;exact this)
   (fun j hj=>by rw[H7]at hj;exact ho.some (by simp at hj;omega)) (fun j _=>ho.frozen _) (YF _)
 have hcp2:∀ty dc,(DY #[28,28] ty #[FU (G6 ⟨g,A.length*3,G5⟩) (n+1-A.length) dc,FU (G6 ⟨b,0,G5⟩) 1 1]).run prog W1=.ok (goInt (Nat.min 1 (n+1-A.length))) (W1.setCells g (A.length*3) (JD x)):=fun ty dc=>
  bD W1 ty g _ _ dc ⟨b,0,G5⟩ 1 1 (JD x) (by simp only[Nat.min_def,JD,BH,EW];split<;>omega)
   (fun j v hj=>by
    rw[BK];have hb2:W1.heap[b]?=w.heap[b]? :=hg1.block b (by unfold One at h1;exact(AL.1 h1).1) (fun e=>hbg (BP e));have h2:One W1 b x:=hb2.trans h1;exact h2.row j v hj)
   (fun j hj=>ho1.some (by simp[JD]at hj;omega)) (fun j _=>ho1.frozen _) (YJ x)
 have FIN:Hid (Own (W1.setCells g (A.length*3) (JD x)) g cap (A++x::y::R)/\w.grownBy (W1.setCells g (A.length*3) (JD x)) (G6 g)):=
  ⟨ho1.vC x,SK hg1 (LV _ _ _)⟩
 have hin:A.length<n:=by omega
 have C32:(A.length:Int)<(n:Int):=by omega
 have hw1:IntKind.i64.wrap ((A.length:Int)+1)=(A.length:Int)+1:=by rw[FI];omega
 have hb1:(0:Int)<=(A.length:Int)+1:=by omega
 have hb2:¬ (cap=A.length+1):=by omega
 have hb3:(A.length:Int)<=(n:Int)+1:=by omega
 have hb4:¬ (cap=A.length):=by omega
 have hb5:(A.length:Int)+1<=(n:Int)+1:=by omega
 have hb6:¬ ((cap:Int)<(n:Int)+1):=by omega
 have hz2:¬ ((A.length:Int)=(n:Int)):=by omega
 have htn:((A.length:Int)+1).toNat=A.length+1:=by omega
 clear hW1 ho1 hg1 hrow AY8 AY9 hfb ho h1 hn;go_enter func106,ntmps106;go_wp2_with (simp only[hov])
 go_region_law (refine Z4 rfl (.tmp 73) (.tmp 76) 28 28 rfl (FU (G6 ⟨g,(A.length+1)*3,G5⟩) (n-A.length) (cap-(A.length+1))) (FU (G6 ⟨g,A.length*3,G5⟩) (n+1-A.length) (cap-A.length)) (by simp[Act.eval,Act.put]) (by simp[Act.eval,Act.put]) (hcp1 _ _ _) ?_)
 go_wp2_with (at_builtin;refine VY _ rfl _ _ 28 28 rfl _ _ rfl rfl (hcp2 _ _) ?_);go_ret;exact⟨rfl,FIN.out⟩
theorem A03(k:Nat):(BI (Value.agg #[.string ⟨#[]⟩,.string ⟨#[]⟩,.string ⟨#[]⟩]).cells k).size=k*3:=by
 simp[BI,Value.cells]
theorem vO(g cap:Nat)(A R:List DF)(y x:DF)(n b:Nat)(w:FW)(ho:Own w g cap (A++y::R))(hn:n=A.length+R.length+1)(hsm:n<=16)(hroom:cap<n+1)(h1:One w b x):
  FZ prog 106 #[FU (G6 ⟨g,0,G5⟩) n cap,I0 A.length,FU (G6 ⟨b,0,G5⟩) 1 1] w fun e w'=>
   ∃cap',e=.returned (FU (G6 ⟨w.heap.size,0,G5⟩) (n+1) cap')/\Own w' w.heap.size cap' (A++x::y::R)/\B0 w w':=by
 have hcap:cap=n:=by have:=ho.le;simp at this;omega
 obtain⟨i0,hi0,hz0,hz1,hz2⟩:=UK;have hrow:=ho.row;have hgw:=ho.lt;have hbw:b<w.heap.size:=by unfold One at h1;exact(AL.1 h1).1
 have hold:(Builtin.firstCells i0.size A.length (FU (G6 ⟨g,0,G5⟩) A.length cap)).run prog w.drew=.ok (H8 A).toArray w.drew:=by
  rw[hz1];exact run_firstCells_some w.drew 3 A.length ⟨g,0,G5⟩ A.length cap (H8 A) (H7 A) (fun j v hj=>by
   rw[BK];exact hrow j v (by rw[JR,List.getElem?_append_left (AV.1 hj).1];exact hj))
 obtain⟨G,hG⟩:∃G,G=grownCap w (n+1) cap 81:=⟨_,rfl⟩;have hGn:n+1<=G:=by rw[hG];exact grownCap_ge w _ _ _
 have hGm:G<=maxLen:=by rw[hG];exact grownCap_le_maxLen w (n+1) cap _ (by unfold maxLen;omega)
 have hG63:G<=9223372036854775807:=by have:=hGm;unfold maxLen at this;omega
 obtain⟨ROW,hROW⟩:∃ROW:Array FX,ROW=(H8 A).toArray++BI (Value.agg #[.string ⟨#[]⟩,.string ⟨#[]⟩,.string ⟨#[]⟩]).cells (n+1-A.length)++BI (Value.agg #[.string ⟨#[]⟩,.string ⟨#[]⟩,.string ⟨#[]⟩]).cells (G-(n+1)):=⟨_,rfl⟩;obtain⟨W1,hW1⟩:∃W1,W1=w.drew.alloc (FV ROW 81):=⟨_,rfl⟩;have hik:A.length+(n+1-A.length)=n+1:=by omega
 have hrz:∀ty,(Builtin.append_ #[28,3] ty #[FU (G6 ⟨g,0,G5⟩) A.length cap,I0 ((n:Int)+1-(A.length:Int))]).run prog w=
   .ok (FU (G6 ⟨w.heap.size,0,G5⟩) (n+1) G) W1:=fun ty=>by
  have h:=Lib.run_append_grow_zeros w 28 3 ty 81 i0 _ .i64 .i64 underlying28 underlying3 hi0 hz0 (G6 ⟨g,0,G5⟩) A.length cap (H8 A) hold (n+1-A.length) (by omega) (by omega) (by omega) (by omega) (by rw[hz2];omega) (by rw[hz2,hik];exact growslice_fits hroom (by omega));rw[hik,<-hG,<-hROW,<-hW1]at h;rw[show (n:Int)+1-(A.length:Int)=((n+1-A.length:Nat):Int) by omega];exact h
 have ho1:Own W1 w.heap.size G A:=by
  refine⟨(BI (Value.agg #[.string ⟨#[]⟩,.string ⟨#[]⟩,.string ⟨#[]⟩]).cells (n+1-A.length)++BI (Value.agg #[.string ⟨#[]⟩,.string ⟨#[]⟩,.string ⟨#[]⟩]).cells (G-(n+1))).toList,?_,?_,hGm⟩
  .rw[hW1,hROW];have:=heap_alloc_new w.drew (FV ((H8 A).toArray++BI (Value.agg #[.string ⟨#[]⟩,.string ⟨#[]⟩,.string ⟨#[]⟩]).cells (n+1-A.length)++BI (Value.agg #[.string ⟨#[]⟩,.string ⟨#[]⟩,.string ⟨#[]⟩]).cells (G-(n+1))) 81);refine Eq.trans this ?_
   congr 2
   apply Array.toList_inj.1
   simp
  .simp only[Array.length_toList,Array.size_append,A03];omega
 have hB1:B0 w W1:=by rw[hW1];exact((Below.refl _ w).drew).alloc (A8 _) _
 obtain⟨W2,hW2⟩:∃W2,W2=W1.setCells w.heap.size (A.length*3) (JD x):=⟨_,rfl⟩;have ho2:Own W2 w.heap.size G (A++[x]):=by
  have h:Own W1 w.heap.size G (A++[]):=by rw[DU];exact ho1
  have:=h.splice [x] (by simp;omega);rw[hW2];simpa [H8]using this
 have hg2:W1.grownBy W2 (G6 w.heap.size):=by rw[hW2];exact LV _ _ _
 have hB2:B0 w W2:=hB1.grown hg2 hB1.size (fun k e=>by cases e;exact A8 _);have hcpA:∀ty dc,(DY #[28,28] ty #[FU (G6 ⟨w.heap.size,A.length*3,G5⟩) (n+1-A.length) dc,FU (G6 ⟨b,0,G5⟩) 1 1]).run prog W1=.ok (goInt (Nat.min 1 (n+1-A.length))) W2:=fun ty dc=>by
  rw[hW2];exact bD W1 ty w.heap.size _ _ dc ⟨b,0,G5⟩ 1 1 (JD x) (by simp only[Nat.min_def,JD,BH,EW];split<;>omega)
   (fun j v hj=>by rw[BK];exact(show One W1 b x from(hB1.block b hbw).trans h1).row j v hj)
   (fun j hj=>ho1.some (by simp[JD]at hj;omega)) (fun j _=>ho1.frozen _) (YJ x)
 obtain⟨W3,hW3⟩:∃W3,W3=W2.drew.setCells w.heap.size ((A.length+1)*3) (H8 (y::R)):=⟨_,rfl⟩;have hcpB:∀ty dc sc,(DY #[28,28] ty #[FU (G6 ⟨w.heap.size,(A.length+1)*3,G5⟩) (n-A.length) dc,FU (G6 ⟨g,A.length*3,G5⟩) (n-A.length) sc]).run prog W2.drew=.ok (goInt (Nat.min (n-A.length) (n-A.length))) W3:=fun ty dc sc=>by
  rw[hW3];exact bD W2.drew ty w.heap.size _ _ dc ⟨g,A.length*3,G5⟩ _ sc (H8 (y::R)) (by rw[H7];simp only[Nat.min_self,BH];omega)
   (fun j v hj=>by
    rw[BK];have:=hrow (A.length*3+j) v (by rw[JR,BD (by rw[H7];omega),H7,FD];exact hj);rw[BJ]at this;exact(hB2.cell (p:=⟨g,A.length*3+j,G5⟩) hgw).trans this)
   (fun j hj=>by rw[H7]at hj;exact ho2.drew.some (by simp at hj;omega)) (fun j _=>ho2.drew.frozen _) (YF _)
 have FIN:Hid (Own W3 w.heap.size G (A++x::y::R)/\B0 w W3):=by
  refine⟨?_,?_⟩
  .have h:Own W2.drew w.heap.size G ((A++[x])++[]):=by rw[DU];exact ho2
   have:=h.splice (y::R) (by simp;omega);rw[hW3];simpa using this
  .rw[hW3];exact hB2.drew.grown (LV _ _ _) hB2.size (fun k e=>by cases e;exact A8 _)
 have hin:A.length<n:=by omega
 have C32:(A.length:Int)<(n:Int):=by omega
 have hw1:IntKind.i64.wrap ((A.length:Int)+1)=(A.length:Int)+1:=by rw[FI];omega
 have hb1:(0:Int)<=(A.length:Int)+1:=by omega
 have hb2:¬ (G=A.length+1):=by omega
 have hb3:(A.length:Int)<=(n:Int)+1:=by omega
 have hb4:¬ (n=A.length):=by omega
 have hb5:(A.length:Int)+1<=(n:Int)+1:=by omega
 have hb6:¬ (G=A.length):=by omega
 have hb7:(A.length:Int)<=(n:Int):=by omega
 have hz3:¬ ((A.length:Int)=(n:Int)):=by omega
 have htn:((A.length:Int)+1).toNat=A.length+1:=by omega
 subst hcap;clear hn hROW hW1 hW2 hW3 hG hrow ho h1 ho1 ho2 hB1 hB2 hg2 hold hik;go_enter func106,ntmps106;go_wp2_with (first
  |(at_builtin;refine Lib.wpList_append_run _ rfl _ _ _ _ rfl _ _ rfl rfl _ _ (hrz _) ?_)
  |(at_builtin;refine VY _ rfl _ _ 28 28 rfl _ _ rfl rfl (hcpA _ _) ?_))
 go_region_law (refine Z4 rfl (.tmp 50) (.tmp 53) 28 28 rfl (FU (G6 ⟨w.heap.size,(A.length+1)*3,G5⟩) (cap-A.length) (G-(A.length+1))) (FU (G6 ⟨g,A.length*3,G5⟩) (cap-A.length) (cap-A.length)) (by simp[Act.eval,Act.put]) (by simp[Act.eval,Act.put]) (hcpB _ _ _) ?_)
 go_wp2
 go_ret;exact⟨G,rfl,FIN.out⟩
theorem AZ0{B:Nat}(h:YG W B v fs):∃a c,v=FU a fs.length c/\fs.length<=c:=by
 rcases h with⟨rfl,rfl⟩|⟨g,cap,rfl,_,h⟩
 .exact⟨G5,0,rfl,A8 _⟩
 .exact⟨_,cap,rfl,h.le⟩
theorem vP{B:Nat}(h:YG W B v fs):∀k,v.ownBlock=G6 k->B<=k/\k<W.heap.size:=by
 intro k hk;rcases h with⟨rfl,rfl⟩|⟨g,cap,rfl,hB,h⟩
 .cases hk
 .cases hk;exact⟨hB,h.lt⟩
theorem A04(v:FX)(A R:List DF)(x:DF)(B b:Nat)(w:FW)(ho:YG w B v (A++R))(hB:B<=w.heap.size)(hl:(A++R).length<=15)(h1:One w b x)(hb:v.ownBlock≠G6 b):
  FZ prog 106 #[v,I0 A.length,FU (G6 ⟨b,0,G5⟩) 1 1] w fun e w'=>
   ∃v',e=.returned v'/\YG w' B v' (A++x::R)/\w.grownBy w' v.ownBlock:=by
 cases R with
 |nil=>
  rw[DU]at ho hl;exact A02 v A x B b w ho hB (by omega) h1
 |cons y R=>
  obtain⟨g,cap,rfl,hg,ho⟩:=YH ho (k:=0) (by simp;omega);have hlen:(A++y::R).length=A.length+R.length+1:=by simp;omega
  have hlen':(A++x::y::R).length=(A++y::R).length+1:=by simp;omega
  by_cases hroom:(A++y::R).length+1<=cap
  .exact(qR g cap A R y x _ b w ho hlen (by omega) hroom h1 (fun e=>hb (by rw[e];rfl))).mono fun e w' ⟨he,ho',hg'⟩=>⟨_,he,.inr ⟨g,cap,by rw[hlen'],hg,ho'⟩,hg'⟩
  .exact(vO g cap A R y x _ b w ho hlen (by omega) (by omega) h1).mono fun e w' ⟨c,he,ho',hb'⟩=>⟨_,he,.inr ⟨w.heap.size,c,by rw[hlen'],hB,ho'⟩,hb'.os,hb'.tape,hb'.output,hb'.size,fun k hk _=>hb'.block k hk⟩
def KL(W:FW)(k:Nat)(v:FX):Prop:=W.heap[k]?=G6 (FV #[v] 30 (0,0))
theorem KL.c(h:KL W k v):W.cell? ⟨k,0,G5⟩=G6 v:=by unfold KL at h;simp[World.cell?,h]
theorem KL.f(h:KL W k v):W.frozen? ⟨k,0,G5⟩=false:=by unfold KL at h;simp[World.frozen?,h]
theorem KL.next(h:KL W k v)(hb:B0 W V):KL V k v:=(hb.block k (by unfold KL at h;exact(AL.1 h).1)).trans h
theorem KL.grown{r:Option Nat}(h:KL W k v)(hb:W.grownBy V r)(hr:G6 k≠r):KL V k v:=(hb.block k (by unfold KL at h;exact(AL.1 h).1) hr).trans h
theorem KL.set(h:KL W k v)(u:FX):KL (W.setCell ⟨k,0,G5⟩ u) k u:=GV u h
theorem KL.ne{g cap:Nat}(h:KL W k v)(ho:Own W g cap fs):g≠k:=by
 rintro rfl;obtain⟨rest,h1,_⟩:=ho;unfold KL at h;rw[h]at h1;have:=BP h1;simp at this
theorem KL.new(W:FW)(v:FX):KL (W.alloc (FV #[v] 30)) W.heap.size v:=heap_alloc_new W _
theorem PO.AZ1{w:FW}{r:Option Nat}(h:PO w W v)(hg:W.grownBy V r)(hl:∀k,r=G6 k->w.heap.size+2<=k):PO w V v:=by
 have hs:=h.size;have b0:V.heap[w.heap.size]?=W.heap[w.heap.size]? :=hg.block _ (by omega) (fun e=>by have:=hl _ e.symm;omega);have b1:V.heap[w.heap.size+1]?=W.heap[w.heap.size+1]? :=hg.block _ (by omega) (fun e=>by have:=hl _ e.symm;omega);exact⟨h.below.grown hg (by omega) (fun k e=>by have:=hl k e;omega),Nat.le_trans h.size hg.size,(World.cell?_of_block b0).trans h.cd,(World.cell?_of_block b1).trans h.cr,(World.frozen?_of_block b1).trans h.fr⟩
theorem PO.other{w:FW}(h:PO w W v)(hk:w.heap.size+2<=k)(j:Nat)(u:FX):PO w (W.setCell ⟨k,j,G5⟩ u) v:=h.grown (XB u) hk
theorem jW(v:FX)(fs A B:List DF)(f:DF)(name x:List UInt8)(w:FW)(hv:IV w v fs)(hs:mW fs)(g:LQ fs)(T:There fs A f B name)(hfit:f.s.length+f.t.length+x.length<=1048576):
  FZ prog 71 #[.agg #[v],S0 name,S0 x] w fun e w'=>∃v',e=.returned (.tuple #[.agg #[v'],I0 0])/\YG w' w.heap.size v' (A++⟨f.n,f.s,f.t++x⟩::B)/\B0 w w':=by
 have hn:JB name=true:=by rw[<-T.nm];exact WT (T.ok g)
 have CG:=fun W (hW:B0 w W)=>UJ _ fs W (hv.next hW) hs;have CN:=fun W=>A96 name (by simp only[JB,Bool.and_eq_true,decide_eq_true_eq]at hn;omega) W;have CC:=fun W (hW:B0 w W)=>SH _ fs W (hv.next hW) hs g.few;have CF:=fun W (hW:B0 w W)=>o8 _ fs A B f name W (hv.next hW) g.few T;rw[MR.2 g]at CG;rw[hn]at CN;obtain⟨b,off,cap,rfl,hb,hr,hk,hlt⟩:=XC hv T;have HR:=G8 hr;have HK:=G8 hk;have BE5:(A.length:Int)<(fs.length:Int):=by omega
 have CS:=fun W=>aY f W (by omega);have CT:=fun(q c:Nat) (W:FW) (ho:Own W q c fs)=>o9 q c A.length fs f x W ho hk (by omega) (by omega);have hset:fs.set A.length ⟨f.n,f.s,f.t++x⟩=A++⟨f.n,f.s,f.t++x⟩::B:=by rw[T.eq];simp
 have hsl:fs.length=(A++(⟨f.n,f.s,f.t++x⟩:DF)::B).length:=by rw[T.eq];simp
 rw[hset]at CT;obtain⟨fs',BX4⟩:∃y,A++(⟨f.n,f.s,f.t++x⟩:DF)::B=y:=⟨_,rfl⟩;rw[BX4]at CT hsl⊢;have HSL:=G8 hsl;obtain⟨L,hL⟩:∃L,f.s.length+f.t.length=L:=⟨_,rfl⟩;rw[hL]at CS hfit;have hlg:(x.length:Int)<=1048576-(L:Int):=by omega
 have hsub:IntKind.i64.wrap (1048576-(L:Int))=1048576-(L:Int):=by rw[FI];omega
 clear hv hs g hn T hr hk hset BX4 hsl hL;go_enter func71,ntmps71;go_wp2_with fail;have X:=PO.start w (FU (G6 ⟨b,off,G5⟩) fs.length cap) 30 30;refine(CG _ X.below).mono ?_;rintro e w1 ⟨rfl,hb1⟩;have X1:=X.next hb1;have HX:=G8 X1;have cd:=X1.cd;have cr:=X1.cr;have fr:=X1.fr;clear CG hb1 X X1;go_wp2_with fail;refine(CN _).mono ?_;rintro e w2 ⟨rfl,rfl⟩;clear CN;go_wp2_with fail;refine(CF _ (G7 HX).below).mono ?_;rintro e w3 ⟨rfl,hb3⟩;have X3:=(G7 HX).next hb3;clear CF HX cd cr fr;have HX:=G8 X3;have cd:=X3.cd;have cr:=X3.cr;have fr:=X3.fr;have r:=(G7 HR).kept X3.below hb;have e0:=r.c0 (G7 HK);have e1:=r.c1 (G7 HK);have e2:=r.c2 (G7 HK);clear hb3 X3 r;go_wp2_with fail;refine(CS _).mono ?_;rintro e w4 ⟨rfl,hb4⟩;have X4:=(G7 HX).next hb4;clear CS HX cd cr fr e0 e1 e2;have HX:=G8 X4;have cd:=X4.cd;clear hb4 X4;go_wp2_with fail;refine(CC _ (G7 HX).below).mono ?_;rintro e w5 ⟨v',rfl,ho,hb5⟩;obtain⟨q,cap2,rfl,hq,ho⟩:=YH ho hlt;have hq2:w.heap.size+2<=q:=by have:=(G7 HX).size;omega
 have X5:=((G7 HX).next hb5).alloc (FV #[FU (G6 ⟨q,0,G5⟩) fs.length cap2] 30);have ho5:=ho.alloc (FV #[FU (G6 ⟨q,0,G5⟩) fs.length cap2] 30);have hbx:=KL.new w5 (FU (G6 ⟨q,0,G5⟩) fs.length cap2);have ca:=hbx.c;clear CC hb5 ho HX cd;go_wp2_with fail;generalize w5.alloc (FV #[FU (G6 ⟨q,0,G5⟩) fs.length cap2] 30)=W at*;refine(CT q cap2 W ho5).mono ?_;rintro e w6 ⟨rfl,ho6,hg6⟩;have hne:=hbx.ne ho5;have X6:=X5.grown hg6 hq2;have ca6:=(hbx.grown hg6 (fun e=>hne (BP e).symm)).c;have cr:=X6.cr;have fr:=X6.fr;have HB:=G8 X6.below;have HO6:=G8 ho6;clear X6 ho6 hg6 X5 ho5 CT ca hbx;go_wp2_with fail;exact bodyPost_ret (v:=.tuple #[.agg #[FU (G6 ⟨q,0,G5⟩) fs.length cap2],I0 0]) (by simp[results,results71,go_sem,cr]) rfl
  ⟨_,rfl,.inr ⟨q,cap2,by rw[G7 HSL],by omega,(G7 HO6).other (by show q≠w.heap.size+1;omega) _⟩,(G7 HB).setCell (by simp) _⟩
theorem bF(v:FX)(fs A B:List DF)(name x:List UInt8)(w:FW)(hv:IV w v fs)(hs:mW fs)(g:LQ fs)(hn:JB name=true)(hl:fs.length<16)(G:Gap fs A B name)(hfit:x.length<=1048576):
  FZ prog 71 #[.agg #[v],S0 name,S0 x] w fun e w'=>∃v',e=.returned (.tuple #[.agg #[v'],I0 0])/\YG w' w.heap.size v' (A++⟨name,[],x⟩::B)/\B0 w w':=by
 have hnl:name.length<=40:=by simp only[JB,Bool.and_eq_true,decide_eq_true_eq]at hn;omega
 have CG:=fun W (hW:B0 w W)=>UJ _ fs W (hv.next hW) hs;have CN:=fun W=>A96 name (by omega) W;have CC:=fun W (hW:B0 w W)=>SH _ fs W (hv.next hW) hs g.few;have CF:=fun W (hW:B0 w W)=>A95 _ fs A B name W (hv.next hW) g.few G;have CL:=fun W=>OQ name W (by omega);have hlen:∃a c,v=FU a fs.length c:=by
  rcases hv with⟨a,cap,rfl,rfl,_⟩|⟨b,off,cap,rfl,_⟩
  .exact⟨_,_,rfl⟩
  .exact⟨_,_,rfl⟩
 rw[MR.2 g]at CG;rw[hn]at CN;obtain⟨a,c,rfl⟩:=hlen;have hl2:¬ ((fs.length:Int)=16):=by omega
 have hlg:¬ ((1048576:Int)<(x.length:Int)):=by omega
 have CI:=fun(v5:FX) (D k:Nat) (W:FW) (ho:YG W D v5 fs) (hD:D<=W.heap.size) (h1:One W k ⟨name,[],[]⟩) (hk:v5.ownBlock≠G6 k)=>A04 v5 A B ⟨name,[],[]⟩ D k W (by rw[<-G.eq];exact ho) hD (by rw[<-G.eq];omega) h1 hk;have CT:=fun(q c:Nat) (W:FW) (ho:Own W q c (A++⟨name,[],[]⟩::B))=>o9 q c A.length _ ⟨name,[],[]⟩ x W ho (by simp) hfit (by simp);have hset:(A++(⟨name,[],[]⟩:DF)::B).set A.length ⟨name,[],[]++x⟩=A++⟨name,[],x⟩::B:=by simp
 simp only at CT;rw[hset]at CT;have hsl:(A++(⟨name,[],[]⟩:DF)::B).length=(A++(⟨name,[],x⟩:DF)::B).length:=by simp
 have HSL:=G8 hsl;have hat:A.length<(A++(⟨name,[],[]⟩:DF)::B).length:=by simp
 obtain⟨f1,hf1⟩:∃y,A++(⟨name,[],x⟩:DF)::B=y:=⟨_,rfl⟩;obtain⟨f0,hf0⟩:∃y,A++(⟨name,[],[]⟩:DF)::B=y:=⟨_,rfl⟩;rw[hf1]at CT HSL⊢;rw[hf0]at CT HSL hat CI;have HCI:=G8 CI;have hati:(A.length:Int)<(f0.length:Int):=by omega
 clear hv hs g hn G hset hsl hf0 hf1 CI;go_enter func71,ntmps71;go_wp2_with fail;have X:=PO.start w (FU a fs.length c) 30 30;refine(CG _ X.below).mono ?_;rintro e w1 ⟨rfl,hb1⟩;have X1:=X.next hb1;have HX:=G8 X1;have cd:=X1.cd;have cr:=X1.cr;have fr:=X1.fr;clear CG hb1 X X1;go_wp2_with fail;refine(CN _).mono ?_;rintro e w2 ⟨rfl,rfl⟩;clear CN;go_wp2_with fail;refine(CF _ (G7 HX).below).mono ?_;rintro e w3 ⟨rfl,hb3⟩;have X3:=(G7 HX).next hb3;clear CF HX cd cr fr;have HX:=G8 X3;have cd:=X3.cd;have cr:=X3.cr;have fr:=X3.fr;clear hb3 X3;go_wp2_with fail;refine(CC _ (G7 HX).below).mono ?_;rintro e w5 ⟨v',rfl,ho,hb5⟩;have hob:=vP ho;obtain⟨a5,c5,rfl,_⟩:=AZ0 ho;have hz:=(G7 HX).size;have X5:=((G7 HX).next hb5).alloc (FV #[FU a5 fs.length c5] 30);have ho5:=ho.next ((Below.refl _ _).alloc (A8 _) (FV #[FU a5 fs.length c5] 30));have hbx:=KL.new w5 (FU a5 fs.length c5);have haz:(w5.alloc (FV #[FU a5 fs.length c5] 30)).heap.size=w5.heap.size+1:=by simp
 have HOB:=G8 hob;have hz35:=hb5.size;clear CC hb5 ho HX cd hob;go_wp2_with fail;generalize w5.alloc (FV #[FU a5 fs.length c5] 30)=W at*;have CI6:∀w6:FW,B0 W w6->FZ prog 106 #[FU a5 fs.length c5,I0 A.length,FU (G6 ⟨w6.heap.size,0,G5⟩) 1 1] (w6.alloc (FV #[S0 name,.string ⟨#[]⟩,.string ⟨#[]⟩] 81)) fun e w'=>
   ∃g7 c7,e=.returned (FU (G6 ⟨g7,0,G5⟩) f0.length c7)/\Hid (w3.heap.size<=g7/\Own w' g7 c7 f0/\PO w w' (FU a fs.length c)/\KL w' w5.heap.size (FU a5 fs.length c5)):=fun w6 hb6=>by
  have hal:=(Below.refl w6.heap.size w6).alloc (A8 _) (FV #[S0 name,.string ⟨#[]⟩,.string ⟨#[]⟩] 81);have hs6:=hb6.size;refine(G7 HCI _ w3.heap.size w6.heap.size _ ((ho5.next hb6).next hal) (by have:=X5.size;have:=vP ho5;simp;omega) (heap_alloc_new w6 _) (fun e=>by have:=G7 HOB _ e;omega)).mono ?_;rintro e w7 ⟨v7,he,ho7,hg7⟩;obtain⟨g7,c7,rfl,h7,ho7⟩:=YH ho7 hat;exact⟨g7,c7,he,h7,ho7,((X5.next hb6).next hal).AZ1 hg7 (fun k e=>by have:=G7 HOB k e;omega),((hbx.next hb6).next hal).grown hg7 (fun e=>by have:=G7 HOB _ e.symm;omega)⟩
 have ca:=hbx.c;have HBX:=G8 hbx;clear X5 ho5 hbx HCI;have hcx:∀w6:FW,B0 W w6->w6.cell? ⟨w5.heap.size,0,G5⟩=G6 (FU a5 fs.length c5)/\w5.heap.size<w6.heap.size:=fun w6 hb6=>⟨((G7 HBX).next hb6).c,by have:=hb6.size;omega⟩;have HCX:=G8 hcx;have HC6:=G8 CI6;clear hcx CI6
 go_region_with (first
  |(go_at_call 48;refine(CL _).mono ?_;rintro e w6 ⟨rfl,hb6⟩;obtain⟨ca6,hl6⟩:=G7 HCX w6 (UL hb6))
  |(go_at_call 106;refine(G7 HC6 w6 (UL hb6)).mono ?_;rintro e w7 ⟨g7,c7,rfl,h7⟩;have ca7:=(G7 h7).2.2.2.c;have fa7:=(G7 h7).2.2.2.f))
 all_goals
  have hz5:w.heap.size+2<=w5.heap.size:=by omega
  have hne:=(G7 h7).2.2.2.ne (G7 h7).2.1;have ho8:=(G7 h7).2.1.other (a:=⟨w5.heap.size,0,G5⟩) hne (FU (G6 ⟨g7,0,G5⟩) f0.length c7);have X8:=(G7 h7).2.2.1.other hz5 0 (FU (G6 ⟨g7,0,G5⟩) f0.length c7);have hb8:=(G7 h7).2.2.2.set (FU (G6 ⟨g7,0,G5⟩) f0.length c7);have hg7:=(G7 h7).1;have ca8:=hb8.c;clear h7 ca7 fa7 ca6 hb6 ca CL HC6 HCX HBX;generalize w7.setCell ⟨w5.heap.size,0,G5⟩ (FU (G6 ⟨g7,0,G5⟩) f0.length c7)=w8 at*;go_wp2_with fail;refine(CT g7 c7 w8 ho8).mono ?_;rintro e w9 ⟨rfl,ho9,hg9⟩;have X9:=X8.grown hg9 (by omega);have ca9:=(hb8.grown hg9 (fun e=>hne (BP e).symm)).c;have cr9:=X9.cr;have fr9:=X9.fr;have HB:=G8 X9.below;have HO9:=G8 ho9;clear X9 ho9 hg9 X8 ho8 CT ca8 hb8 cr fr;go_wp2_with fail;exact bodyPost_ret (v:=.tuple #[.agg #[FU (G6 ⟨g7,0,G5⟩) f0.length c7],I0 0]) (by simp[results,results71,go_sem,cr9]) rfl
   ⟨_,rfl,.inr ⟨g7,c7,by rw[G7 HSL],by omega,(G7 HO9).other (by show g7≠w.heap.size+1;omega) _⟩,(G7 HB).setCell (by simp) _⟩
def XD(k:Nat)(f:DF):DF:=⟨f.n,f.s++f.t.take k,[]⟩
def mix(keep:Nat)(fs:List DF)(j:Nat):List DF:=(fs.take j).map (XD keep)++fs.drop j
theorem AZ2(k:Nat)(l:List UInt8):l.take (min k l.length)=l.take k:=by
 by_cases h:k<=l.length
 .rw[Nat.min_eq_left h]
 .rw[Nat.min_eq_right (by omega),List.take_length,List.take_of_length_le (by omega)]
theorem BI9(keep:Nat)(fs:List DF):mix keep fs 0=fs:=by simp[mix]
theorem C33(keep:Nat)(fs:List DF):mix keep fs fs.length=fs.map (XD keep):=by simp[mix]
theorem A05{keep:Nat}{j:Nat}{f:DF}(h:fs[j]?=G6 f):(mix keep fs j)[j]?=G6 f:=by
 have hl:=(AV.1 h).1;rw[mix,BD (by simp;omega)];simp[h,Nat.min_eq_left (Nat.le_of_lt hl)]
theorem C34{keep:Nat}{j:Nat}{f:DF}(h:fs[j]?=G6 f):(mix keep fs j).set j (XD keep f)=mix keep fs (j+1):=by
 obtain⟨hl,rfl⟩:=AV.1 h;have e:fs.drop j=fs[j]::fs.drop (j+1):=List.drop_eq_getElem_cons hl;have hm:((fs.take j).map (XD keep)).length=j:=by simp;omega
 rw[mix,mix,e,List.set_append_right _ _ (by omega),hm,Nat.sub_self,List.set_cons_zero,List.take_succ_eq_append_getElem hl];simp only[List.map_append,List.map_cons,List.map_nil,BU,List.cons_append,List.nil_append]
theorem BJ0(v:FX)(fs:List DF)(keep:Int)(w:FW)(hv:IV w v fs)(hs:mW fs)(h:VH fs=false\/keep<0):
  FZ prog 90 #[.agg #[v],I0 keep] w (R0 w (.tuple #[.agg #[N0],I0 3])):=by
 obtain⟨a,n0,c,rfl⟩:=IZ hv;have C:=fun W (hW:B0 w W)=>UJ _ fs W (hv.next hW) hs;clear hv hs
 cases hg:VH fs with
 |false=>
  rw[hg]at C;clear hg h;go_enter func90,ntmps90;go_wp2_with fail;have X:=PO.start w (FU a n0 c) 30 30;refine(C _ X.below).mono ?_;rintro e w1 ⟨rfl,hb1⟩;have X1:=X.next hb1;have HB:=G8 X1.below;have c1:=X1.cr;have f1:=X1.fr;clear C hb1 X X1;go_wp2_with fail;exact bodyPost_ret (v:=.tuple #[.agg #[N0],I0 3]) (by simp[results,results90,go_sem,c1]) rfl ⟨rfl,(G7 HB).setCell (by simp) _⟩
 |true=>
  rw[hg]at C h;have hk:keep<0:=h.elim (fun h=>by cases h) id;clear hg h;go_enter func90,ntmps90;go_wp2_with fail;have X:=PO.start w (FU a n0 c) 30 30;refine(C _ X.below).mono ?_;rintro e w1 ⟨rfl,hb1⟩;have X1:=X.next hb1;have HB:=G8 X1.below;have c1:=X1.cr;have f1:=X1.fr;clear C hb1 X X1;go_wp2_with fail;exact bodyPost_ret (v:=.tuple #[.agg #[N0],I0 3]) (by simp[results,results90,go_sem,c1]) rfl ⟨rfl,(G7 HB).setCell (by simp) _⟩
theorem AZ3(v:FX)(fs:List DF)(keep:Nat)(w:FW)(hv:IV w v fs)(hs:mW fs)(g:LQ fs):
  FZ prog 90 #[.agg #[v],I0 keep] w fun e w'=>∃v',e=.returned (.tuple #[.agg #[v'],I0 0])/\YG w' w.heap.size v' (fs.map (XD keep))/\B0 w w':=by
 obtain⟨a,n0,c,rfl⟩:=IZ hv;have C:=fun W (hW:B0 w W)=>UJ _ fs W (hv.next hW) hs;have CC:=fun W (hW:B0 w W)=>SH _ fs W (hv.next hW) hs g.few;rw[MR.2 g]at C;have hk0:¬ ((keep:Int)<0):=by omega
 have CT:=fun(q c:Nat) (j:Nat) (f:DF) (n:Nat) (W:FW) (ho:Own W q c (mix keep fs j)) (hj:fs[j]?=G6 f) (hn:n=f.s.length+min keep f.t.length)=>
  dU q c j (mix keep fs j) f n W ho (A05 hj) (by omega) (NM (g.ok f (BA hj)))
 have HCT:=G8 CT;have HG:=G8 g;have hfew:=g.few;clear hv hs g CT;go_enter func90,ntmps90;go_wp2_with fail;have X:=PO.start w (FU a n0 c) 30 30;refine(C _ X.below).mono ?_;rintro e w1 ⟨rfl,hb1⟩;have X1:=X.next hb1;have HX:=G8 X1;have cd:=X1.cd;clear C hb1 X X1;go_wp2_with fail;refine(CC _ (G7 HX).below).mono ?_;rintro e w2 ⟨v',rfl,ho,hb2⟩;have hz2:=(G7 HX).size;have X2:=(G7 HX).next hb2;clear CC HX cd;rcases ho with⟨rfl,rfl⟩|⟨q,cap,rfl,hq,ho⟩
 .have HX:=G8 (X2.alloc (FV #[N0] 30));clear X2;have ca:(w2.alloc (FV #[N0] 30)).cell? ⟨w2.heap.size,0,G5⟩=G6 (N0):=by simp
  go_wp2_with fail
  go_loopg [22] 1 (fun _ s wr=>s=I0 0/\Hid (PO w wr (FU a n0 c))/\wr.cell? ⟨w2.heap.size,0,G5⟩=G6 (N0))
  case atStart=>exact⟨rfl,HX,ca⟩
  case round=>
   obtain⟨rfl,hX,hca⟩:=hrel;have cr:=(G7 hX).cr;have fr:=(G7 hX).fr;go_wp2_with fail;exact bodyPost_ret (v:=.tuple #[.agg #[N0],I0 0]) (by simp[results,results90,go_sem,cr]) rfl ⟨_,rfl,.inl ⟨rfl,rfl⟩,(G7 hX).below.setCell (by simp) _⟩
 .have HX:=G8 (X2.alloc (FV #[FU (G6 ⟨q,0,G5⟩) fs.length cap] 30));have HO:=G8 (ho.alloc (FV #[FU (G6 ⟨q,0,G5⟩) fs.length cap] 30));have hql:=ho.lt;have ca:(w2.alloc (FV #[FU (G6 ⟨q,0,G5⟩) fs.length cap] 30)).cell? ⟨w2.heap.size,0,G5⟩=G6 (FU (G6 ⟨q,0,G5⟩) fs.length cap):=by simp
  have hq2:w.heap.size+2<=q:=by omega
  clear X2 ho;go_wp2_with fail
  go_loopg [22] fs.length (fun kx s wr=>∃k:Nat,s=I0 k/\k<=fs.length/\fs.length-k<=kx/\Hid (PO w wr (FU a n0 c)/\Own wr q cap (mix keep fs k))/\wr.cell? ⟨w2.heap.size,0,G5⟩=G6 (FU (G6 ⟨q,0,G5⟩) fs.length cap))
  case atStart=>exact⟨0,rfl,Nat.zero_le _,by omega,G8 ⟨G7 HX,by rw[BI9];exact G7 HO⟩,ca⟩
  case round=>
   obtain⟨k,rfl,hk,hkx,hI,hca⟩:=hrel;clear ca;by_cases hlt:k<fs.length
   .obtain⟨f,hf⟩:∃f,fs[k]?=G6 f:=⟨_,List.getElem?_eq_getElem hlt⟩;have hfl:=NM ((G7 HG).ok f (BA hf));have e1:=(G7 hI).2.c1 (A05 hf);have e2:=(G7 hI).2.c2 (A05 hf);have HF:=G8 hf;have CT:=fun(n:Nat) (hn:n=f.s.length+min keep f.t.length)=>G7 HCT q cap k f n wr.drew (G7 hI).2.drew hf hn;have BE5:(k:Int)<(fs.length:Int):=by omega
    clear hf;have CT2:=CT _ rfl;have hwm:IntKind.i64.wrap ((f.s.length:Int)+min (keep:Int) (f.t.length:Int))=((f.s.length+min keep f.t.length:Nat):Int):=by
     rw[FI];omega
    have hset:(mix keep fs k).set k ⟨f.n,(f.s++f.t).take (f.s.length+min keep f.t.length),[]⟩=mix keep fs (k+1):=by
     rw[<-C34 (G7 HF),XD,List.take_length_add_append,AZ2]
    rw[hset]at CT2;have HW:=G8 hwm;clear CT hset hwm;generalize f.s.length+min keep f.t.length=M at CT2 HW;go_wp2_with fail
    go_region_with (first|(go_at_call 110;rw[G7 HW];refine CT2.mono ?_;rintro e w4 ⟨rfl,ho4,hg4⟩))
    all_goals
     have hg5:wr.grownBy w4 (G6 q):=⟨hg4.os,hg4.tape,hg4.output,hg4.size,hg4.block⟩;have X4:=(G7 hI).1.grown hg5 hq2;have ca4:w4.cell? ⟨w2.heap.size,0,G5⟩=G6 (FU (G6 ⟨q,0,G5⟩) fs.length cap):=hg5.cell hca (fun e=>by have e3:w2.heap.size=q:=BP e;omega);have HI:=G8 (And.intro X4 ho4);clear X4 ho4 hg4 hg5 CT2;go_wp2_with fail
     go_roundg (fs.length-(k+1))
     case measure=>omega
     case rel=>exact⟨k+1,rfl,by omega,A8 _,HI,ca4⟩
   .have hkk:k=fs.length:=by omega
    subst hkk;have cr:=(G7 hI).1.cr;have fr:=(G7 hI).1.fr;go_wp2_with fail;exact bodyPost_ret (v:=.tuple #[.agg #[FU (G6 ⟨q,0,G5⟩) fs.length cap],I0 0]) (by simp[results,results90,go_sem,cr]) rfl
     ⟨_,rfl,.inr ⟨q,cap,by simp,by omega,by have:=(G7 hI).2;rw[C33]at this;exact this.other (by show q≠w.heap.size+1;omega) _⟩,(G7 hI).1.below.setCell (by simp) _⟩
theorem JV(g:LQ fs):mW fs:=fun f hf=>by
 have h:=g.ok f hf;have h1:=NM h;have h2:=WT h;simp only[JB,Bool.and_eq_true,decide_eq_true_eq]at h2;omega
theorem BJ1{f:DF}(g:LQ (A++f::B))(hn:f'.n=f.n)(hl:f'.s.length+f'.t.length<=1048576):LQ (A++f'::B):=by
 refine⟨by simpa using g.few,?_,?_⟩
 .intro x hx;rcases C9.1 hx with h|h
  .exact g.ok x (by simp[h])
  .rcases BQ.1 h with rfl|h
   .have:=WT (g.ok f (by simp));simp[QJ,hn,this,hl]
   .exact g.ok x (by simp[h])
 .have h:=g.asc;unfold Asc at h⊢;rw[DL,FK]at h⊢;refine⟨h.1,⟨fun b hb=>by rw[hn];exact h.2.1.1 b hb,h.2.1.2⟩,fun a ha b hb=>?_⟩;rcases BQ.1 hb with rfl|hb
  .rw[hn];exact h.2.2 a ha f (by simp)
  .exact h.2.2 a ha b (by simp[hb])
theorem qU(g:LQ fs)(G:Gap fs A B name)(hn:JB name=true)(hl:fs.length<16)(hf:f'.n=name)(hs:f'.s.length+f'.t.length<=1048576):LQ (A++f'::B):=by
 have g':=g;rw[G.eq]at g' hl;refine⟨by simp at hl⊢;omega,?_,?_⟩
 .intro x hx;rcases C9.1 hx with h|h
  .exact g'.ok x (by simp[h])
  .rcases BQ.1 h with rfl|h
   .simp[QJ,hf,hn,hs]
   .exact g'.ok x (by simp[h])
 .have h:=g'.asc;unfold Asc at h⊢;rw[DL]at h;rw[DL,FK];refine⟨h.1,⟨fun b hb=>by rw[hf];exact G.hi b hb,h.2.1⟩,fun a ha b hb=>?_⟩;rcases BQ.1 hb with rfl|hb
  .rw[hf];exact G.lo a ha
  .exact h.2.2 a ha b hb
theorem There.set{f:DF}(T:There fs A f B name)(hf:f'.n=name):There (A++f'::B) A f' B name:=⟨rfl,hf,T.lo,T.hi⟩
theorem Gap.ins(G:Gap fs A B name)(hf:f'.n=name):There (A++f'::B) A f' B name:=⟨rfl,hf,G.lo,G.hi⟩
def A06(fs:List DF)(name:List UInt8):Option DF:=fs.find? fun f=>decide (f.n=name)
theorem There.look{f:DF}(T:There fs A f B name):A06 fs name=G6 f:=by
 rw[A06,T.eq,List.find?_append,List.find?_eq_none.2 (fun a ha=>by simp[WS (T.lo a ha)])];simp[T.nm]
theorem Gap.look(G:Gap fs A B name):A06 fs name=G5:=by
 rw[A06,G.eq,List.find?_append,List.find?_eq_none.2 (fun a ha=>by simp[WS (G.lo a ha)]),List.find?_eq_none.2 (fun b hb=>by simp[(WS (G.hi b hb)).symm])];rfl
noncomputable def WE(fs:List DF)(name:List UInt8):List UInt8×Int:=if VH fs=true then match A06 fs name with
 |some f=>(f.s++f.t,0)
 |none=>([],7)else([],3)
theorem jX(h:VH fs=false):WE fs name=([],3):=by simp[WE,h]
theorem VK{f:DF}(g:LQ fs)(T:There fs A f B name):WE fs name=(f.s++f.t,0):=by simp[WE,MR.2 g,T.look]
theorem jY(g:LQ fs)(G:Gap fs A B name):WE fs name=([],7):=by simp[WE,MR.2 g,G.look]
theorem AZ4(fs:List DF)(name:List UInt8):(WE fs name).1.length<=1048576:=by
 rcases jT fs name with⟨E,⟨h,_⟩|⟨g,⟨A,B,G⟩,_⟩⟩|⟨g,A,f,B,T⟩
 .rw[jX h];simp
 .rw[jY g G];simp
 .rw[VK g T];have:=NM (T.ok g);simp;omega
theorem BJ2(v:FX)(fs:List DF)(name:List UInt8)(w:FW)(hv:IV w v fs)(hs:mW fs):
  FZ prog 70 #[.agg #[v],S0 name] w (R0 w (.tuple #[S0 (WE fs name).1,I0 (WE fs name).2])):=by
 rcases jT fs name with⟨E,h⟩|⟨g,A,f,B,T⟩
 .have h':=A00 v fs name E w hv hs h;rcases h with⟨h,rfl⟩|⟨g,⟨A,B,G⟩,rfl⟩
  .rw[jX h];exact h'
  .rw[jY g G];exact h'
 .rw[VK g T];exact oC v fs A B f name w hv hs g T
def NG(f:FuncId)(args:FX->Array FX)(fs d:List DF)(E:Int):Prop:=∀v W,IV W v fs->FZ prog f (args (.agg #[v])) W fun e w'=>∃a n c,e=.returned (.tuple #[.agg #[FU a n c],I0 E])/\Hid (IV w' (FU a n c) d)/\B0 W w'
theorem vS{f:FuncId}{args:FX->Array FX}{E:Int}(h:∀v W,IV W v fs->FZ prog f (args (.agg #[v])) W (R0 W (.tuple #[.agg #[N0],I0 E]))):NG f args fs [] E:=
 fun v W hv=>(h v W hv).mono fun _ w' ⟨he,hb⟩=>⟨_,_,_,he,IV.nil w',hb⟩
theorem MQ{f:FuncId}{args:FX->Array FX}{d:List DF}(h:∀v W,IV W v fs->FZ prog f (args (.agg #[v])) W fun e w'=>∃v',e=.returned (.tuple #[.agg #[v'],I0 0])/\YG w' W.heap.size v' d/\B0 W w'):NG f args fs d 0:=
 fun v W hv=>(h v W hv).mono fun _ w' ⟨v',he,ho,hb⟩=>by
  obtain⟨a,n,c,rfl⟩:=IZ ho.disk;exact⟨a,n,c,he,ho.disk,hb⟩
