/-
  Part.
-/
import Derived.Test.YtodnhndkghdinaaGreatDoorLOI
import Derived.Lib.AppendZerosOnto
import Derived.Lib.Overlaps
set_option maxRecDepth 20000
set_option maxHeartbeats 8000000
namespace Go.Proofs.YtodnhndkghdinaaGreatDoor
open Go.RowKit Go.Proofs.Tryz
variable{W V:World}{B fs A:List DF}{v:Value}{k:Nat}{f':DF}{name:List UInt8}
theorem XG(w:World)(ty:TypeId)(b o dLen dCap:Nat)(a:Addr)(sLen sCap:Nat)(cs:List Value)(hn:cs.length=Nat.min sLen dLen*3)
  (hsrc:∀j v,cs[j]?=some v→w.cell? (a.add j)=some v) (hc:∀j,j<cs.length→(w.cell? ⟨b,o+j,none⟩).isSome=true) (hf:∀j,j<cs.length→w.frozen? ⟨b,o+j,none⟩=false) (h1:∀v∈cs,v.oneCell'=true):
  (Builtin.copy_ #[36,36] ty #[.slice (some ⟨b,o,none⟩) dLen dCap,.slice (some a) sLen sCap]).run prog w=.ok (goInt (Nat.min sLen dLen)) (w.setCells b o cs):=by
 have hl:=run_loadCells_list (P:=prog) w a cs hsrc;have hst:=run_storeCells_cells (P:=prog) b o cs 0 w (by simpa using hc) (by simpa using hf) h1;obtain⟨i0,hi0,hz0,hz1,hz2⟩:=PY;simp[Builtin.copy_,run_underlying underlying36,Builtin.lenOf,Builtin.firstCells,sizeOf,typeInfo,hi0,hz1,←hn,hl,hst]
theorem pV(w:World){o:Oper}{a:Act}{K:Act→World→Prop}{Q:Exit→Act→World→Prop}(d s:Operand)(t t':TypeId)
  (ho:o.op=.call {callee:=.builtin .copy,args:=#[d,s],argTypes:=#[t,t']}) (v u:Value) (hd:a.eval d=v) (hs:a.eval s=u) {v':Value} {w':World}
  (hr:(Builtin.copy_ #[t,t'] o.type #[v,u]).run prog w=.ok v' w') (h:K (a.put o.dst v') w'):o.wp prog a w K Q:=by
 unfold Oper.wp execOp;simp only[ho,resolve,invoke,builtin,Sem.run_bind,Sem.run_pure,Result.andThen_ok,List.map_toArray,List.map_cons,List.map_nil,hd,hs,hr];exact h
theorem RN(w:World){ops:Array Oper}{rest:List Oper}{o:Oper}{a:Act}{Q:Exit→Act→World→Prop}(hgd:o.guard=none)(d s:Operand)(t t':TypeId)
  (ho:o.op=.call {callee:=.builtin .copy,args:=#[d,s],argTypes:=#[t,t']}) (v u:Value) (hd:a.eval d=v) (hs:a.eval s=u) {v':Value} {w':World}
  (hr:(Builtin.copy_ #[t,t'] o.type #[v,u]).run prog w=.ok v' w') (h:wpList prog ops Q rest (a.put o.dst v') w'):wpList prog ops Q (o::rest) a w:=
 wpList_plain hgd fun _ hK=>pV w d s t t' ho v u hd hs hr (hK _ _ h)
theorem VB{ops:Array Oper}{o:Oper}{a:Act}{w:World}{K:Act→World→Prop}{Q:Exit→Act→World→Prop}{E:Prop}
  (hg:o.guard=none) (d x:Operand) (dT sT:TypeId) (hop:o.op=Op.call {callee:=Callee.builtin Builtin.copy,args:=#[d,x],argTypes:=#[dT,sT]})
  (v u:Value) (hd:a.eval d=v) (hx:a.eval x=u) {v':Value} {w':World} (hr:(Builtin.copy_ #[dT,sT] o.type #[v,u]).run prog w=.ok v' w') (hK:K (a.put o.dst v') w'):
  if Region.wanted o (yielded ops a.tmps)=true then Oper.wp prog o a w K Q else E:=by
 have hw:Region.wanted o (yielded ops a.tmps)=true:=by simp[Region.wanted,hg]
 rw[if_pos hw];unfold Oper.wp;simp[execOp,hop,resolve,invoke,builtin,hd,hx,hr,Result.andThen];exact hK
def One(W:World)(b:Nat)(x:DF):Prop:=W.heap[b]?=some (.cells (EH x).toArray 81 (0,0))
theorem One.row{b:Nat}{x:DF}(h:One W b x):∀j v,(EH x)[j]?=some v→W.cell? ⟨b,0+j,none⟩=some v:=by
 intro j v hj;unfold One at h;have:(EH x).toArray[j]?=some v:=by simpa using hj
 simp[World.cell?,h,hj]
theorem UK(x:DF):∀u∈EH x,u.oneCell'=true:=by
 intro u h;simp[EH]at h;rcases h with rfl|rfl|rfl<;>rfl
theorem vJ(v:Value)(A:List DF)(x:DF)(B b:Nat)(w:World)(ho:UG w B v A)(hB:B≤w.heap.size)(hl:A.length≤16)(h1:One w b x):
  Calls prog 51 #[v,I0 A.length,.slice (some ⟨b,0,none⟩) 1 1] w fun e w'=>
   ∃v',e=.returned v'∧UG w' B v' (A++[x])∧w.grownBy w' v.ownBlock:=by
 obtain⟨i0,hi0,hz0,hz1,hz2⟩:=PY;have hrow:=ho.row;have HR:=AA hrow;have H1:=AA h1.row;have V:∃a c,v=.slice a A.length c∧A.length≤c:=by
  rcases ho with⟨rfl,rfl⟩|⟨g,cap,rfl,_,h⟩
  ·exact⟨none,0,rfl,Nat.le_refl _⟩
  ·exact⟨_,cap,rfl,h.le⟩
 obtain⟨a,c,rfl,hc⟩:=V;clear ho hrow h1;rcases Nat.lt_or_ge A.length c with hcl|hcl
 ·have hne:¬c=A.length:=by omega
  go_enter func51,ntmps51;go_wp2_with (at_builtin;refine wpList_append_own _ rfl _ _ 36 rfl B 81 i0 _ 3 48 underlying36 hi0 hz0 hz1 hz2 rfl (by decide) _ A.length (BG A) rfl (A8 HR) ⟨b,0,none⟩ 1 1 (EH x) rfl (by rfl) ?qc2 (UK x) ?qc4 ?qc5 hB ?_)
  case qc2=>
   intro j u hj;rw[Addr.add_lit];exact A8 H1 j u hj
  case qc4=>simp only[maxLen];omega
  case qc5=>omega
  intro v' w1 hown hgrow _
  go_wp2
  go_ret;exact⟨v',rfl,UG.G8 (by rw[List.length_append,F6];simpa [BG]using hown),hgrow⟩
 ·obtain rfl:c=A.length:=by omega
  go_enter func51,ntmps51;go_wp2_with (at_builtin;refine wpList_append_own _ rfl _ _ 36 rfl B 81 i0 _ 3 48 underlying36 hi0 hz0 hz1 hz2 rfl (by decide) _ A.length (BG A) rfl (A8 HR) ⟨b,0,none⟩ 1 1 (EH x) rfl (by rfl) ?qc2 (UK x) ?qc4 ?qc5 hB ?_)
  case qc2=>
   intro j u hj;rw[Addr.add_lit];exact A8 H1 j u hj
  case qc4=>simp only[maxLen];omega
  case qc5=>omega
  intro v' w1 hown hgrow _
  go_wp2
  go_ret;exact⟨v',rfl,UG.G8 (by rw[List.length_append,F6];simpa [BG]using hown),hgrow⟩
theorem lC(g cap:Nat)(A R:List DF)(y x:DF)(n b:Nat)(w:World)(ho:Own w g cap (A++y::R))(hn:n=A.length+R.length+1)(hsm:n≤16)(hroom:n+1≤cap)(h1:One w b x)(hbg:b≠g):
  Calls prog 51 #[.slice (some ⟨g,0,none⟩) n cap,I0 A.length,.slice (some ⟨b,0,none⟩) 1 1] w fun e w'=>
   e=.returned (.slice (some ⟨g,0,none⟩) (n+1) cap)∧Own w' g cap (A++x::y::R)∧w.grownBy w' (some g):=by
 have hcl:=ho.capLe;simp only[maxLen]at hcl;have hrow:=ho.row;have AO5:w.shape? g=some (81,cap*3):=by
  obtain⟨rest,q1,q2,_⟩:=ho;rw[List.length_append,List.length_cons]at q2;simp[World.shape?,q1,BD,q2]
 have AO6:w.shape? b=some (81,3):=by unfold One at h1;simp[World.shape?,h1,EH]
 have hfb:∀j,w.frozen? ⟨b,j,none⟩=false:=fun j=>by unfold One at h1;simp[World.frozen?,h1]
 have hov:∀lb cb,(callFunc 72 #[.slice (some ⟨b,0,none⟩) 1 1,.slice (some ⟨g,(A.length+1)*3,none⟩) lb cb]).run prog w=.ok (.value (.bool false)) w:=fun lb cb=>by
  rw[run_callFunc_extern func72 (by kernel_rfl) (by kernel_rfl) (by kernel_rfl) (e:=Extern.SlicesOverlaps.overlaps #[36,36] #[4]) (by kernel_rfl),
   Lib.run_overlaps_apart w 36 4 81 underlying36 3 sizeOf81 ⟨b,0,none⟩ ⟨g,(A.length+1)*3,none⟩ 1 1 lb cb hbg 81 81 3 (cap*3) AO6 AO5 (by omega) (hfb 0) (hfb 3)]
  rfl
 obtain⟨W1,hW1⟩:∃W1,W1=w.drew.setCells g ((A.length+1)*3) (BG (y::R)):=⟨_,rfl⟩;have ho1:Own W1 g cap (A++y::y::R):=by
  have h:Own w.drew g cap ((A++[y])++R):=by rw[List.append_assoc];exact ho
  have:=h.splice (y::R) (by simp;omega);rw[hW1];simpa using this
 have hg1:w.grownBy W1 (some g):=by rw[hW1];have:=GY (g:=g) (BG (y::R)) ((A.length+1)*3) w.drew;exact⟨this.os,this.tape,this.output,this.size,this.block⟩
 have hcp1:∀ty dc sc,(Builtin.copy_ #[36,36] ty #[.slice (some ⟨g,(A.length+1)*3,none⟩) (n-A.length) dc,.slice (some ⟨g,A.length*3,none⟩) (n+1-A.length) sc]).run prog w.drew=.ok (goInt (Nat.min (n+1-A.length) (n-A.length))) W1:=fun ty dc sc=>by
  rw[hW1];exact XG w.drew ty g _ _ dc ⟨g,A.length*3,none⟩ _ sc (BG (y::R)) (by rw[BD];simp only[Nat.min_def,List.length_cons];split<;>omega)
   (fun j v hj=>by
    rw[Addr.add_lit];have:=hrow (A.length*3+j) v (by rw[F6,List.getElem?_append_right (by rw[BD];omega),BD,Nat.add_sub_cancel_left];exact hj);rw[Nat.zero_add]at this;exact this)
   (fun j hj=>by rw[BD]at hj;exact ho.some (by simp at hj;omega)) (fun j _=>ho.frozen _) (UF _)
 have hcp2:∀ty dc,(Builtin.copy_ #[36,36] ty #[.slice (some ⟨g,A.length*3,none⟩) (n+1-A.length) dc,.slice (some ⟨b,0,none⟩) 1 1]).run prog W1=.ok (goInt (Nat.min 1 (n+1-A.length))) (W1.setCells g (A.length*3) (EH x)):=fun ty dc=>
  XG W1 ty g _ _ dc ⟨b,0,none⟩ 1 1 (EH x) (by simp only[Nat.min_def,EH,List.length_cons,List.length_nil];split<;>omega)
   (fun j v hj=>by
    rw[Addr.add_lit];have hb2:W1.heap[b]?=w.heap[b]? :=hg1.block b (by unfold One at h1;exact(Array.getElem?_eq_some_iff.1 h1).1) (fun e=>hbg (Option.some.inj e));have h2:One W1 b x:=hb2.trans h1;exact h2.row j v hj)
   (fun j hj=>ho1.some (by simp[EH]at hj;omega)) (fun j _=>ho1.frozen _) (UK x)
 have FIN:Hid (Own (W1.setCells g (A.length*3) (EH x)) g cap (A++x::y::R)∧w.grownBy (W1.setCells g (A.length*3) (EH x)) (some g)):=
  ⟨ho1.pG x,OB hg1 (GY _ _ _)⟩
 have hin:A.length<n:=by omega
 have BR6:(A.length:Int)<(n:Int):=by omega
 have hw1:IntKind.i64.wrap ((A.length:Int)+1)=(A.length:Int)+1:=by rw[IntKind.wrap_i64];omega
 have hb1:(0:Int)≤(A.length:Int)+1:=by omega
 have hb2:¬ (cap=A.length+1):=by omega
 have hb3:(A.length:Int)≤(n:Int)+1:=by omega
 have hb4:¬ (cap=A.length):=by omega
 have hb5:(A.length:Int)+1≤(n:Int)+1:=by omega
 have hb6:¬ ((cap:Int)<(n:Int)+1):=by omega
 have hz2:¬ ((A.length:Int)=(n:Int)):=by omega
 have htn:((A.length:Int)+1).toNat=A.length+1:=by omega
 clear hW1 ho1 hg1 hrow AO5 AO6 hfb ho h1 hn;go_enter func51,ntmps51;go_wp2_with (simp only[hov])
 go_region_law (refine VB rfl (.tmp 73) (.tmp 76) 36 36 rfl (.slice (some ⟨g,(A.length+1)*3,none⟩) (n-A.length) (cap-(A.length+1))) (.slice (some ⟨g,A.length*3,none⟩) (n+1-A.length) (cap-A.length)) (by simp[Act.eval,Act.put]) (by simp[Act.eval,Act.put]) (hcp1 _ _ _) ?_)
 go_wp2_with (at_builtin;refine RN _ rfl _ _ 36 36 rfl _ _ rfl rfl (hcp2 _ _) ?_);go_ret;exact⟨rfl,FIN.out⟩
theorem vK(k:Nat):(Builtin.zeroCells (Value.agg #[.string ⟨#[]⟩,.string ⟨#[]⟩,.string ⟨#[]⟩]).cells k).size=k*3:=by
 simp[Builtin.zeroCells,Value.cells]
theorem pW(g cap:Nat)(A R:List DF)(y x:DF)(n b:Nat)(w:World)(ho:Own w g cap (A++y::R))(hn:n=A.length+R.length+1)(hsm:n≤16)(hroom:cap<n+1)(h1:One w b x):
  Calls prog 51 #[.slice (some ⟨g,0,none⟩) n cap,I0 A.length,.slice (some ⟨b,0,none⟩) 1 1] w fun e w'=>
   ∃cap',e=.returned (.slice (some ⟨w.heap.size,0,none⟩) (n+1) cap')∧Own w' w.heap.size cap' (A++x::y::R)∧B0 w w':=by
 have hcap:cap=n:=by have:=ho.le;simp at this;omega
 obtain⟨i0,hi0,hz0,hz1,hz2⟩:=PY;have hrow:=ho.row;have hgw:=ho.lt;have hbw:b<w.heap.size:=by unfold One at h1;exact(Array.getElem?_eq_some_iff.1 h1).1
 have hold:(Builtin.firstCells i0.size A.length (.slice (some ⟨g,0,none⟩) A.length cap)).run prog w.drew=.ok (BG A).toArray w.drew:=by
  rw[hz1];exact run_firstCells_some w.drew 3 A.length ⟨g,0,none⟩ A.length cap (BG A) (BD A) (fun j v hj=>by
   rw[Addr.add_lit];exact hrow j v (by rw[F6,List.getElem?_append_left (List.getElem?_eq_some_iff.1 hj).1];exact hj))
 obtain⟨G,hG⟩:∃G,G=grownCap w (n+1) cap 81:=⟨_,rfl⟩;have hGn:n+1≤G:=by rw[hG];exact grownCap_ge w _ _ _
 have hGm:G≤maxLen:=by rw[hG];exact grownCap_le_maxLen w (n+1) cap _ (by unfold maxLen;omega)
 have hG63:G≤9223372036854775807:=by have:=hGm;unfold maxLen at this;omega
 obtain⟨ROW,hROW⟩:∃ROW:Array Value,ROW=(BG A).toArray++Builtin.zeroCells (Value.agg #[.string ⟨#[]⟩,.string ⟨#[]⟩,.string ⟨#[]⟩]).cells (n+1-A.length)++Builtin.zeroCells (Value.agg #[.string ⟨#[]⟩,.string ⟨#[]⟩,.string ⟨#[]⟩]).cells (G-(n+1)):=⟨_,rfl⟩;obtain⟨W1,hW1⟩:∃W1,W1=w.drew.alloc (.cells ROW 81):=⟨_,rfl⟩;have hik:A.length+(n+1-A.length)=n+1:=by omega
 have hrz:∀ty,(Builtin.append_ #[36,3] ty #[.slice (some ⟨g,0,none⟩) A.length cap,I0 ((n:Int)+1-(A.length:Int))]).run prog w=
   .ok (.slice (some ⟨w.heap.size,0,none⟩) (n+1) G) W1:=fun ty=>by
  have h:=Lib.run_append_grow_zeros w 36 3 ty 81 i0 _ .i64 .i64 underlying36 underlying3 hi0 hz0 (some ⟨g,0,none⟩) A.length cap (BG A) hold (n+1-A.length) (by omega) (by omega) (by omega) (by omega) (by rw[hz2];omega) (by rw[hz2,hik];exact growslice_fits hroom (by omega));rw[hik,←hG,←hROW,←hW1]at h;rw[show (n:Int)+1-(A.length:Int)=((n+1-A.length:Nat):Int) by omega];exact h
 have ho1:Own W1 w.heap.size G A:=by
  refine⟨(Builtin.zeroCells (Value.agg #[.string ⟨#[]⟩,.string ⟨#[]⟩,.string ⟨#[]⟩]).cells (n+1-A.length)++Builtin.zeroCells (Value.agg #[.string ⟨#[]⟩,.string ⟨#[]⟩,.string ⟨#[]⟩]).cells (G-(n+1))).toList,?_,?_,hGm⟩
  ·rw[hW1,hROW];have:=heap_alloc_new w.drew (.cells ((BG A).toArray++Builtin.zeroCells (Value.agg #[.string ⟨#[]⟩,.string ⟨#[]⟩,.string ⟨#[]⟩]).cells (n+1-A.length)++Builtin.zeroCells (Value.agg #[.string ⟨#[]⟩,.string ⟨#[]⟩,.string ⟨#[]⟩]).cells (G-(n+1))) 81);refine Eq.trans this ?_
   congr 2
   apply Array.toList_inj.1
   simp
  ·simp only[Array.length_toList,Array.size_append,vK];omega
 have hB1:B0 w W1:=by rw[hW1];exact((Below.refl _ w).drew).alloc (Nat.le_refl _) _
 obtain⟨W2,hW2⟩:∃W2,W2=W1.setCells w.heap.size (A.length*3) (EH x):=⟨_,rfl⟩;have ho2:Own W2 w.heap.size G (A++[x]):=by
  have h:Own W1 w.heap.size G (A++[]):=by rw[List.append_nil];exact ho1
  have:=h.splice [x] (by simp;omega);rw[hW2];simpa [BG]using this
 have hg2:W1.grownBy W2 (some w.heap.size):=by rw[hW2];exact GY _ _ _
 have hB2:B0 w W2:=hB1.grown hg2 hB1.size (fun k e=>by cases e;exact Nat.le_refl _);have hcpA:∀ty dc,(Builtin.copy_ #[36,36] ty #[.slice (some ⟨w.heap.size,A.length*3,none⟩) (n+1-A.length) dc,.slice (some ⟨b,0,none⟩) 1 1]).run prog W1=.ok (goInt (Nat.min 1 (n+1-A.length))) W2:=fun ty dc=>by
  rw[hW2];exact XG W1 ty w.heap.size _ _ dc ⟨b,0,none⟩ 1 1 (EH x) (by simp only[Nat.min_def,EH,List.length_cons,List.length_nil];split<;>omega)
   (fun j v hj=>by rw[Addr.add_lit];exact(show One W1 b x from(hB1.block b hbw).trans h1).row j v hj)
   (fun j hj=>ho1.some (by simp[EH]at hj;omega)) (fun j _=>ho1.frozen _) (UK x)
 obtain⟨W3,hW3⟩:∃W3,W3=W2.drew.setCells w.heap.size ((A.length+1)*3) (BG (y::R)):=⟨_,rfl⟩;have hcpB:∀ty dc sc,(Builtin.copy_ #[36,36] ty #[.slice (some ⟨w.heap.size,(A.length+1)*3,none⟩) (n-A.length) dc,.slice (some ⟨g,A.length*3,none⟩) (n-A.length) sc]).run prog W2.drew=.ok (goInt (Nat.min (n-A.length) (n-A.length))) W3:=fun ty dc sc=>by
  rw[hW3];exact XG W2.drew ty w.heap.size _ _ dc ⟨g,A.length*3,none⟩ _ sc (BG (y::R)) (by rw[BD];simp only[Nat.min_self,List.length_cons];omega)
   (fun j v hj=>by
    rw[Addr.add_lit];have:=hrow (A.length*3+j) v (by rw[F6,List.getElem?_append_right (by rw[BD];omega),BD,Nat.add_sub_cancel_left];exact hj);rw[Nat.zero_add]at this;exact(hB2.cell (p:=⟨g,A.length*3+j,none⟩) hgw).trans this)
   (fun j hj=>by rw[BD]at hj;exact ho2.drew.some (by simp at hj;omega)) (fun j _=>ho2.drew.frozen _) (UF _)
 have FIN:Hid (Own W3 w.heap.size G (A++x::y::R)∧B0 w W3):=by
  refine⟨?_,?_⟩
  ·have h:Own W2.drew w.heap.size G ((A++[x])++[]):=by rw[List.append_nil];exact ho2
   have:=h.splice (y::R) (by simp;omega);rw[hW3];simpa using this
  ·rw[hW3];exact hB2.drew.grown (GY _ _ _) hB2.size (fun k e=>by cases e;exact Nat.le_refl _)
 have hin:A.length<n:=by omega
 have BR6:(A.length:Int)<(n:Int):=by omega
 have hw1:IntKind.i64.wrap ((A.length:Int)+1)=(A.length:Int)+1:=by rw[IntKind.wrap_i64];omega
 have hb1:(0:Int)≤(A.length:Int)+1:=by omega
 have hb2:¬ (G=A.length+1):=by omega
 have hb3:(A.length:Int)≤(n:Int)+1:=by omega
 have hb4:¬ (n=A.length):=by omega
 have hb5:(A.length:Int)+1≤(n:Int)+1:=by omega
 have hb6:¬ (G=A.length):=by omega
 have hb7:(A.length:Int)≤(n:Int):=by omega
 have hz3:¬ ((A.length:Int)=(n:Int)):=by omega
 have htn:((A.length:Int)+1).toNat=A.length+1:=by omega
 subst hcap;clear hn hROW hW1 hW2 hW3 hG hrow ho h1 ho1 ho2 hB1 hB2 hg2 hold hik;go_enter func51,ntmps51;go_wp2_with (first
  |(at_builtin;refine Lib.wpList_append_run _ rfl _ _ _ _ rfl _ _ rfl rfl _ _ (hrz _) ?_)
  |(at_builtin;refine RN _ rfl _ _ 36 36 rfl _ _ rfl rfl (hcpA _ _) ?_))
 go_region_law (refine VB rfl (.tmp 50) (.tmp 53) 36 36 rfl (.slice (some ⟨w.heap.size,(A.length+1)*3,none⟩) (cap-A.length) (G-(A.length+1))) (.slice (some ⟨g,A.length*3,none⟩) (cap-A.length) (cap-A.length)) (by simp[Act.eval,Act.put]) (by simp[Act.eval,Act.put]) (hcpB _ _ _) ?_)
 go_wp2
 go_ret;exact⟨G,rfl,FIN.out⟩
theorem AO7{B:Nat}(h:UG W B v fs):∃a c,v=.slice a fs.length c∧fs.length≤c:=by
 rcases h with⟨rfl,rfl⟩|⟨g,cap,rfl,_,h⟩
 ·exact⟨none,0,rfl,Nat.le_refl _⟩
 ·exact⟨_,cap,rfl,h.le⟩
theorem pX{B:Nat}(h:UG W B v fs):∀k,v.ownBlock=some k→B≤k∧k<W.heap.size:=by
 intro k hk;rcases h with⟨rfl,rfl⟩|⟨g,cap,rfl,hB,h⟩
 ·cases hk
 ·cases hk;exact⟨hB,h.lt⟩
theorem vM(v:Value)(A R:List DF)(x:DF)(B b:Nat)(w:World)(ho:UG w B v (A++R))(hB:B≤w.heap.size)(hl:(A++R).length≤15)(h1:One w b x)(hb:v.ownBlock≠some b):
  Calls prog 51 #[v,I0 A.length,.slice (some ⟨b,0,none⟩) 1 1] w fun e w'=>
   ∃v',e=.returned v'∧UG w' B v' (A++x::R)∧w.grownBy w' v.ownBlock:=by
 cases R with
 |nil=>
  rw[List.append_nil]at ho hl;exact vJ v A x B b w ho hB (by omega) h1
 |cons y R=>
  obtain⟨g,cap,rfl,hg,ho⟩:=UH ho (k:=0) (by simp;omega);have hlen:(A++y::R).length=A.length+R.length+1:=by simp;omega
  have hlen':(A++x::y::R).length=(A++y::R).length+1:=by simp;omega
  by_cases hroom:(A++y::R).length+1≤cap
  ·exact(lC g cap A R y x _ b w ho hlen (by omega) hroom h1 (fun e=>hb (by rw[e];rfl))).mono fun e w' ⟨he,ho',hg'⟩=>⟨_,he,.inr ⟨g,cap,by rw[hlen'],hg,ho'⟩,hg'⟩
  ·exact(pW g cap A R y x _ b w ho hlen (by omega) (by omega) h1).mono fun e w' ⟨c,he,ho',hb'⟩=>⟨_,he,.inr ⟨w.heap.size,c,by rw[hlen'],hB,ho'⟩,hb'.os,hb'.tape,hb'.output,hb'.size,fun k hk _=>hb'.block k hk⟩
def FQ(W:World)(k:Nat)(v:Value):Prop:=W.heap[k]?=some (.cells #[v] 38 (0,0))
theorem FQ.c(h:FQ W k v):W.cell? ⟨k,0,none⟩=some v:=by unfold FQ at h;simp[World.cell?,h]
theorem FQ.f(h:FQ W k v):W.frozen? ⟨k,0,none⟩=false:=by unfold FQ at h;simp[World.frozen?,h]
theorem FQ.next(h:FQ W k v)(hb:B0 W V):FQ V k v:=(hb.block k (by unfold FQ at h;exact(Array.getElem?_eq_some_iff.1 h).1)).trans h
theorem FQ.grown{r:Option Nat}(h:FQ W k v)(hb:W.grownBy V r)(hr:some k≠r):FQ V k v:=(hb.block k (by unfold FQ at h;exact(Array.getElem?_eq_some_iff.1 h).1) hr).trans h
theorem FQ.set(h:FQ W k v)(u:Value):FQ (W.setCell ⟨k,0,none⟩ u) k u:=AV u h
theorem FQ.ne{g cap:Nat}(h:FQ W k v)(ho:Own W g cap fs):g≠k:=by
 rintro rfl;obtain⟨rest,h1,_⟩:=ho;unfold FQ at h;rw[h]at h1;have:=Option.some.inj h1;simp at this
theorem FQ.new(W:World)(v:Value):FQ (W.alloc (.cells #[v] 38)) W.heap.size v:=heap_alloc_new W _
theorem LC.AO8{w:World}{r:Option Nat}(h:LC w W v)(hg:W.grownBy V r)(hl:∀k,r=some k→w.heap.size+2≤k):LC w V v:=by
 have hs:=h.size;have b0:V.heap[w.heap.size]?=W.heap[w.heap.size]? :=hg.block _ (by omega) (fun e=>by have:=hl _ e.symm;omega);have b1:V.heap[w.heap.size+1]?=W.heap[w.heap.size+1]? :=hg.block _ (by omega) (fun e=>by have:=hl _ e.symm;omega);exact⟨h.below.grown hg (by omega) (fun k e=>by have:=hl k e;omega),Nat.le_trans h.size hg.size,(World.cell?_of_block b0).trans h.cd,(World.cell?_of_block b1).trans h.cr,(World.frozen?_of_block b1).trans h.fr⟩
theorem LC.other{w:World}(h:LC w W v)(hk:w.heap.size+2≤k)(j:Nat)(u:Value):LC w (W.setCell ⟨k,j,none⟩ u) v:=h.grown (TA u) hk
theorem dJ(v:Value)(fs A B:List DF)(f:DF)(name x:List UInt8)(w:World)(hv:C9 w v fs)(hs:gJ fs)(g:G9 fs)(T:There fs A f B name)(hfit:f.s.length+f.t.length+x.length≤1048576):
  Calls prog 32 #[.agg #[v],S0 name,S0 x] w fun e w'=>∃v',e=.returned (.tuple #[.agg #[v'],I0 0])∧UG w' w.heap.size v' (A++⟨f.n,f.s,f.t++x⟩::B)∧B0 w w':=by
 have hn:EC name=true:=by rw[←T.nm];exact SI (T.ok g)
 have CG:=fun W (hW:B0 w W)=>OA _ fs W (hv.next hW) hs;have CN:=fun W=>A01 name (by simp only[EC,Bool.and_eq_true,decide_eq_true_eq]at hn;omega) W;have CC:=fun W (hW:B0 w W)=>NZ _ fs W (hv.next hW) hs g.few;have CF:=fun W (hW:B0 w W)=>jA _ fs A B f name W (hv.next hW) g.few T;rw[GI.2 g]at CG;rw[hn]at CN;obtain⟨b,off,cap,rfl,hb,hr,hk,hlt⟩:=TB hv T;have HR:=AA hr;have HK:=AA hk;have BR5:(A.length:Int)<(fs.length:Int):=by omega
 have CS:=fun W=>XE f W (by omega);have CT:=fun(q c:Nat) (W:World) (ho:Own W q c fs)=>jB q c A.length fs f x W ho hk (by omega) (by omega);have hset:fs.set A.length ⟨f.n,f.s,f.t++x⟩=A++⟨f.n,f.s,f.t++x⟩::B:=by rw[T.eq];simp
 have hsl:fs.length=(A++(⟨f.n,f.s,f.t++x⟩:DF)::B).length:=by rw[T.eq];simp
 rw[hset]at CT;obtain⟨fs',BL9⟩:∃y,A++(⟨f.n,f.s,f.t++x⟩:DF)::B=y:=⟨_,rfl⟩;rw[BL9]at CT hsl⊢;have HSL:=AA hsl;obtain⟨L,hL⟩:∃L,f.s.length+f.t.length=L:=⟨_,rfl⟩;rw[hL]at CS hfit;have hlg:(x.length:Int)≤1048576-(L:Int):=by omega
 have hsub:IntKind.i64.wrap (1048576-(L:Int))=1048576-(L:Int):=by rw[IntKind.wrap_i64];omega
 clear hv hs g hn T hr hk hset BL9 hsl hL;go_enter func32,ntmps32;go_wp2_with fail;have X:=LC.start w (.slice (some ⟨b,off,none⟩) fs.length cap) 38 38;refine(CG _ X.below).mono ?_;rintro e w1 ⟨rfl,hb1⟩;have X1:=X.next hb1;have HX:=AA X1;have cd:=X1.cd;have cr:=X1.cr;have fr:=X1.fr;clear CG hb1 X X1;go_wp2_with fail;refine(CN _).mono ?_;rintro e w2 ⟨rfl,rfl⟩;clear CN;go_wp2_with fail;refine(CF _ (A8 HX).below).mono ?_;rintro e w3 ⟨rfl,hb3⟩;have X3:=(A8 HX).next hb3;clear CF HX cd cr fr;have HX:=AA X3;have cd:=X3.cd;have cr:=X3.cr;have fr:=X3.fr;have r:=(A8 HR).kept X3.below hb;have e0:=r.c0 (A8 HK);have e1:=r.c1 (A8 HK);have e2:=r.c2 (A8 HK);clear hb3 X3 r;go_wp2_with fail;refine(CS _).mono ?_;rintro e w4 ⟨rfl,hb4⟩;have X4:=(A8 HX).next hb4;clear CS HX cd cr fr e0 e1 e2;have HX:=AA X4;have cd:=X4.cd;clear hb4 X4;go_wp2_with fail;refine(CC _ (A8 HX).below).mono ?_;rintro e w5 ⟨v',rfl,ho,hb5⟩;obtain⟨q,cap2,rfl,hq,ho⟩:=UH ho hlt;have hq2:w.heap.size+2≤q:=by have:=(A8 HX).size;omega
 have X5:=((A8 HX).next hb5).alloc (.cells #[.slice (some ⟨q,0,none⟩) fs.length cap2] 38);have ho5:=ho.alloc (.cells #[.slice (some ⟨q,0,none⟩) fs.length cap2] 38);have hbx:=FQ.new w5 (.slice (some ⟨q,0,none⟩) fs.length cap2);have ca:=hbx.c;clear CC hb5 ho HX cd;go_wp2_with fail;generalize w5.alloc (.cells #[.slice (some ⟨q,0,none⟩) fs.length cap2] 38)=W at*;refine(CT q cap2 W ho5).mono ?_;rintro e w6 ⟨rfl,ho6,hg6⟩;have hne:=hbx.ne ho5;have X6:=X5.grown hg6 hq2;have ca6:=(hbx.grown hg6 (fun e=>hne (Option.some.inj e).symm)).c;have cr:=X6.cr;have fr:=X6.fr;have HB:=AA X6.below;have HO6:=AA ho6;clear X6 ho6 hg6 X5 ho5 CT ca hbx;go_wp2_with fail;exact bodyPost_ret (v:=.tuple #[.agg #[.slice (some ⟨q,0,none⟩) fs.length cap2],I0 0]) (by simp[results,results32,go_sem,cr]) rfl
  ⟨_,rfl,.inr ⟨q,cap2,by rw[A8 HSL],by omega,(A8 HO6).other (by show q≠w.heap.size+1;omega) _⟩,(A8 HB).setCell (by simp) _⟩
theorem XH(v:Value)(fs A B:List DF)(name x:List UInt8)(w:World)(hv:C9 w v fs)(hs:gJ fs)(g:G9 fs)(hn:EC name=true)(hl:fs.length<16)(G:Gap fs A B name)(hfit:x.length≤1048576):
  Calls prog 32 #[.agg #[v],S0 name,S0 x] w fun e w'=>∃v',e=.returned (.tuple #[.agg #[v'],I0 0])∧UG w' w.heap.size v' (A++⟨name,[],x⟩::B)∧B0 w w':=by
 have hnl:name.length≤40:=by simp only[EC,Bool.and_eq_true,decide_eq_true_eq]at hn;omega
 have CG:=fun W (hW:B0 w W)=>OA _ fs W (hv.next hW) hs;have CN:=fun W=>A01 name (by omega) W;have CC:=fun W (hW:B0 w W)=>NZ _ fs W (hv.next hW) hs g.few;have CF:=fun W (hW:B0 w W)=>A00 _ fs A B name W (hv.next hW) g.few G;have CL:=fun W=>KD name W (by omega);have hlen:∃a c,v=.slice a fs.length c:=by
  rcases hv with⟨a,cap,rfl,rfl,_⟩|⟨b,off,cap,rfl,_⟩
  ·exact⟨_,_,rfl⟩
  ·exact⟨_,_,rfl⟩
 rw[GI.2 g]at CG;rw[hn]at CN;obtain⟨a,c,rfl⟩:=hlen;have hl2:¬ ((fs.length:Int)=16):=by omega
 have hlg:¬ ((1048576:Int)<(x.length:Int)):=by omega
 have CI:=fun(v5:Value) (D k:Nat) (W:World) (ho:UG W D v5 fs) (hD:D≤W.heap.size) (h1:One W k ⟨name,[],[]⟩) (hk:v5.ownBlock≠some k)=>vM v5 A B ⟨name,[],[]⟩ D k W (by rw[←G.eq];exact ho) hD (by rw[←G.eq];omega) h1 hk;have CT:=fun(q c:Nat) (W:World) (ho:Own W q c (A++⟨name,[],[]⟩::B))=>jB q c A.length _ ⟨name,[],[]⟩ x W ho (by simp) hfit (by simp);have hset:(A++(⟨name,[],[]⟩:DF)::B).set A.length ⟨name,[],[]++x⟩=A++⟨name,[],x⟩::B:=by simp
 simp only at CT;rw[hset]at CT;have hsl:(A++(⟨name,[],[]⟩:DF)::B).length=(A++(⟨name,[],x⟩:DF)::B).length:=by simp
 have HSL:=AA hsl;have hat:A.length<(A++(⟨name,[],[]⟩:DF)::B).length:=by simp
 obtain⟨f1,hf1⟩:∃y,A++(⟨name,[],x⟩:DF)::B=y:=⟨_,rfl⟩;obtain⟨f0,hf0⟩:∃y,A++(⟨name,[],[]⟩:DF)::B=y:=⟨_,rfl⟩;rw[hf1]at CT HSL⊢;rw[hf0]at CT HSL hat CI;have HCI:=AA CI;have hati:(A.length:Int)<(f0.length:Int):=by omega
 clear hv hs g hn G hset hsl hf0 hf1 CI;go_enter func32,ntmps32;go_wp2_with fail;have X:=LC.start w (.slice a fs.length c) 38 38;refine(CG _ X.below).mono ?_;rintro e w1 ⟨rfl,hb1⟩;have X1:=X.next hb1;have HX:=AA X1;have cd:=X1.cd;have cr:=X1.cr;have fr:=X1.fr;clear CG hb1 X X1;go_wp2_with fail;refine(CN _).mono ?_;rintro e w2 ⟨rfl,rfl⟩;clear CN;go_wp2_with fail;refine(CF _ (A8 HX).below).mono ?_;rintro e w3 ⟨rfl,hb3⟩;have X3:=(A8 HX).next hb3;clear CF HX cd cr fr;have HX:=AA X3;have cd:=X3.cd;have cr:=X3.cr;have fr:=X3.fr;clear hb3 X3;go_wp2_with fail;refine(CC _ (A8 HX).below).mono ?_;rintro e w5 ⟨v',rfl,ho,hb5⟩;have hob:=pX ho;obtain⟨a5,c5,rfl,_⟩:=AO7 ho;have hz:=(A8 HX).size;have X5:=((A8 HX).next hb5).alloc (.cells #[.slice a5 fs.length c5] 38);have ho5:=ho.next ((Below.refl _ _).alloc (Nat.le_refl _) (.cells #[.slice a5 fs.length c5] 38));have hbx:=FQ.new w5 (.slice a5 fs.length c5);have haz:(w5.alloc (.cells #[.slice a5 fs.length c5] 38)).heap.size=w5.heap.size+1:=by simp
 have HOB:=AA hob;have hz35:=hb5.size;clear CC hb5 ho HX cd hob;go_wp2_with fail;generalize w5.alloc (.cells #[.slice a5 fs.length c5] 38)=W at*;have CI6:∀w6:World,B0 W w6→Calls prog 51 #[.slice a5 fs.length c5,I0 A.length,.slice (some ⟨w6.heap.size,0,none⟩) 1 1] (w6.alloc (.cells #[S0 name,.string ⟨#[]⟩,.string ⟨#[]⟩] 81)) fun e w'=>
   ∃g7 c7,e=.returned (.slice (some ⟨g7,0,none⟩) f0.length c7)∧Hid (w3.heap.size≤g7∧Own w' g7 c7 f0∧LC w w' (.slice a fs.length c)∧FQ w' w5.heap.size (.slice a5 fs.length c5)):=fun w6 hb6=>by
  have hal:=(Below.refl w6.heap.size w6).alloc (Nat.le_refl _) (.cells #[S0 name,.string ⟨#[]⟩,.string ⟨#[]⟩] 81);have hs6:=hb6.size;refine(A8 HCI _ w3.heap.size w6.heap.size _ ((ho5.next hb6).next hal) (by have:=X5.size;have:=pX ho5;simp;omega) (heap_alloc_new w6 _) (fun e=>by have:=A8 HOB _ e;omega)).mono ?_;rintro e w7 ⟨v7,he,ho7,hg7⟩;obtain⟨g7,c7,rfl,h7,ho7⟩:=UH ho7 hat;exact⟨g7,c7,he,h7,ho7,((X5.next hb6).next hal).AO8 hg7 (fun k e=>by have:=A8 HOB k e;omega),((hbx.next hb6).next hal).grown hg7 (fun e=>by have:=A8 HOB _ e.symm;omega)⟩
 have ca:=hbx.c;have HBX:=AA hbx;clear X5 ho5 hbx HCI;have hcx:∀w6:World,B0 W w6→w6.cell? ⟨w5.heap.size,0,none⟩=some (.slice a5 fs.length c5)∧w5.heap.size<w6.heap.size:=fun w6 hb6=>⟨((A8 HBX).next hb6).c,by have:=hb6.size;omega⟩;have HCX:=AA hcx;have HC6:=AA CI6;clear hcx CI6
 go_region_with (first
  |(go_at_call 48;refine(CL _).mono ?_;rintro e w6 ⟨rfl,hb6⟩;obtain⟨ca6,hl6⟩:=A8 HCX w6 (PZ hb6))
  |(go_at_call 51;refine(A8 HC6 w6 (PZ hb6)).mono ?_;rintro e w7 ⟨g7,c7,rfl,h7⟩;have ca7:=(A8 h7).2.2.2.c;have fa7:=(A8 h7).2.2.2.f))
 all_goals
  have hz5:w.heap.size+2≤w5.heap.size:=by omega
  have hne:=(A8 h7).2.2.2.ne (A8 h7).2.1;have ho8:=(A8 h7).2.1.other (a:=⟨w5.heap.size,0,none⟩) hne (.slice (some ⟨g7,0,none⟩) f0.length c7);have X8:=(A8 h7).2.2.1.other hz5 0 (.slice (some ⟨g7,0,none⟩) f0.length c7);have hb8:=(A8 h7).2.2.2.set (.slice (some ⟨g7,0,none⟩) f0.length c7);have hg7:=(A8 h7).1;have ca8:=hb8.c;clear h7 ca7 fa7 ca6 hb6 ca CL HC6 HCX HBX;generalize w7.setCell ⟨w5.heap.size,0,none⟩ (.slice (some ⟨g7,0,none⟩) f0.length c7)=w8 at*;go_wp2_with fail;refine(CT g7 c7 w8 ho8).mono ?_;rintro e w9 ⟨rfl,ho9,hg9⟩;have X9:=X8.grown hg9 (by omega);have ca9:=(hb8.grown hg9 (fun e=>hne (Option.some.inj e).symm)).c;have cr9:=X9.cr;have fr9:=X9.fr;have HB:=AA X9.below;have HO9:=AA ho9;clear X9 ho9 hg9 X8 ho8 CT ca8 hb8 cr fr;go_wp2_with fail;exact bodyPost_ret (v:=.tuple #[.agg #[.slice (some ⟨g7,0,none⟩) f0.length c7],I0 0]) (by simp[results,results32,go_sem,cr9]) rfl
   ⟨_,rfl,.inr ⟨g7,c7,by rw[A8 HSL],by omega,(A8 HO9).other (by show g7≠w.heap.size+1;omega) _⟩,(A8 HB).setCell (by simp) _⟩
def TD(k:Nat)(f:DF):DF:=⟨f.n,f.s++f.t.take k,[]⟩
def mix(keep:Nat)(fs:List DF)(j:Nat):List DF:=(fs.take j).map (TD keep)++fs.drop j
theorem AO9(k:Nat)(l:List UInt8):l.take (min k l.length)=l.take k:=by
 by_cases h:k≤l.length
 ·rw[Nat.min_eq_left h]
 ·rw[Nat.min_eq_right (by omega),List.take_length,List.take_of_length_le (by omega)]
theorem B76(keep:Nat)(fs:List DF):mix keep fs 0=fs:=by simp[mix]
theorem BR7(keep:Nat)(fs:List DF):mix keep fs fs.length=fs.map (TD keep):=by simp[mix]
theorem vO{keep:Nat}{j:Nat}{f:DF}(h:fs[j]?=some f):(mix keep fs j)[j]?=some f:=by
 have hl:=(List.getElem?_eq_some_iff.1 h).1;rw[mix,List.getElem?_append_right (by simp;omega)];simp[h,Nat.min_eq_left (Nat.le_of_lt hl)]
theorem BR8{keep:Nat}{j:Nat}{f:DF}(h:fs[j]?=some f):(mix keep fs j).set j (TD keep f)=mix keep fs (j+1):=by
 obtain⟨hl,rfl⟩:=List.getElem?_eq_some_iff.1 h;have e:fs.drop j=fs[j]::fs.drop (j+1):=List.drop_eq_getElem_cons hl;have hm:((fs.take j).map (TD keep)).length=j:=by simp;omega
 rw[mix,mix,e,List.set_append_right _ _ (by omega),hm,Nat.sub_self,List.set_cons_zero,List.take_succ_eq_append_getElem hl];simp only[List.map_append,List.map_cons,List.map_nil,List.append_assoc,List.cons_append,List.nil_append]
theorem B77(v:Value)(fs:List DF)(keep:Int)(w:World)(hv:C9 w v fs)(hs:gJ fs)(h:PO fs=false∨keep<0):
  Calls prog 38 #[.agg #[v],I0 keep] w (R0 w (.tuple #[.agg #[N0],I0 3])):=by
 obtain⟨a,n0,c,rfl⟩:=DC hv;have C:=fun W (hW:B0 w W)=>OA _ fs W (hv.next hW) hs;clear hv hs
 cases hg:PO fs with
 |false=>
  rw[hg]at C;clear hg h;go_enter func38,ntmps38;go_wp2_with fail;have X:=LC.start w (.slice a n0 c) 38 38;refine(C _ X.below).mono ?_;rintro e w1 ⟨rfl,hb1⟩;have X1:=X.next hb1;have HB:=AA X1.below;have c1:=X1.cr;have f1:=X1.fr;clear C hb1 X X1;go_wp2_with fail;exact bodyPost_ret (v:=.tuple #[.agg #[N0],I0 3]) (by simp[results,results38,go_sem,c1]) rfl ⟨rfl,(A8 HB).setCell (by simp) _⟩
 |true=>
  rw[hg]at C h;have hk:keep<0:=h.elim (fun h=>by cases h) id;clear hg h;go_enter func38,ntmps38;go_wp2_with fail;have X:=LC.start w (.slice a n0 c) 38 38;refine(C _ X.below).mono ?_;rintro e w1 ⟨rfl,hb1⟩;have X1:=X.next hb1;have HB:=AA X1.below;have c1:=X1.cr;have f1:=X1.fr;clear C hb1 X X1;go_wp2_with fail;exact bodyPost_ret (v:=.tuple #[.agg #[N0],I0 3]) (by simp[results,results38,go_sem,c1]) rfl ⟨rfl,(A8 HB).setCell (by simp) _⟩
theorem AP0(v:Value)(fs:List DF)(keep:Nat)(w:World)(hv:C9 w v fs)(hs:gJ fs)(g:G9 fs):
  Calls prog 38 #[.agg #[v],I0 keep] w fun e w'=>∃v',e=.returned (.tuple #[.agg #[v'],I0 0])∧UG w' w.heap.size v' (fs.map (TD keep))∧B0 w w':=by
 obtain⟨a,n0,c,rfl⟩:=DC hv;have C:=fun W (hW:B0 w W)=>OA _ fs W (hv.next hW) hs;have CC:=fun W (hW:B0 w W)=>NZ _ fs W (hv.next hW) hs g.few;rw[GI.2 g]at C;have hk0:¬ ((keep:Int)<0):=by omega
 have CT:=fun(q c:Nat) (j:Nat) (f:DF) (n:Nat) (W:World) (ho:Own W q c (mix keep fs j)) (hj:fs[j]?=some f) (hn:n=f.s.length+min keep f.t.length)=>
  YN q c j (mix keep fs j) f n W ho (vO hj) (by omega) (JB (g.ok f (List.mem_of_getElem? hj)))
 have HCT:=AA CT;have HG:=AA g;have hfew:=g.few;clear hv hs g CT;go_enter func38,ntmps38;go_wp2_with fail;have X:=LC.start w (.slice a n0 c) 38 38;refine(C _ X.below).mono ?_;rintro e w1 ⟨rfl,hb1⟩;have X1:=X.next hb1;have HX:=AA X1;have cd:=X1.cd;clear C hb1 X X1;go_wp2_with fail;refine(CC _ (A8 HX).below).mono ?_;rintro e w2 ⟨v',rfl,ho,hb2⟩;have hz2:=(A8 HX).size;have X2:=(A8 HX).next hb2;clear CC HX cd;rcases ho with⟨rfl,rfl⟩|⟨q,cap,rfl,hq,ho⟩
 ·have HX:=AA (X2.alloc (.cells #[N0] 38));clear X2;have ca:(w2.alloc (.cells #[N0] 38)).cell? ⟨w2.heap.size,0,none⟩=some (N0):=by simp
  go_wp2_with fail
  go_loopg [22] 1 (fun _ s wr=>s=I0 0∧Hid (LC w wr (.slice a n0 c))∧wr.cell? ⟨w2.heap.size,0,none⟩=some (N0))
  case atStart=>exact⟨rfl,HX,ca⟩
  case round=>
   obtain⟨rfl,hX,hca⟩:=hrel;have cr:=(A8 hX).cr;have fr:=(A8 hX).fr;go_wp2_with fail;exact bodyPost_ret (v:=.tuple #[.agg #[N0],I0 0]) (by simp[results,results38,go_sem,cr]) rfl ⟨_,rfl,.inl ⟨rfl,rfl⟩,(A8 hX).below.setCell (by simp) _⟩
 ·have HX:=AA (X2.alloc (.cells #[.slice (some ⟨q,0,none⟩) fs.length cap] 38));have HO:=AA (ho.alloc (.cells #[.slice (some ⟨q,0,none⟩) fs.length cap] 38));have hql:=ho.lt;have ca:(w2.alloc (.cells #[.slice (some ⟨q,0,none⟩) fs.length cap] 38)).cell? ⟨w2.heap.size,0,none⟩=some (.slice (some ⟨q,0,none⟩) fs.length cap):=by simp
  have hq2:w.heap.size+2≤q:=by omega
  clear X2 ho;go_wp2_with fail
  go_loopg [22] fs.length (fun kx s wr=>∃k:Nat,s=I0 k∧k≤fs.length∧fs.length-k≤kx∧Hid (LC w wr (.slice a n0 c)∧Own wr q cap (mix keep fs k))∧wr.cell? ⟨w2.heap.size,0,none⟩=some (.slice (some ⟨q,0,none⟩) fs.length cap))
  case atStart=>exact⟨0,rfl,Nat.zero_le _,by omega,AA ⟨A8 HX,by rw[B76];exact A8 HO⟩,ca⟩
  case round=>
   obtain⟨k,rfl,hk,hkx,hI,hca⟩:=hrel;clear ca;by_cases hlt:k<fs.length
   ·obtain⟨f,hf⟩:∃f,fs[k]?=some f:=⟨_,List.getElem?_eq_getElem hlt⟩;have hfl:=JB ((A8 HG).ok f (List.mem_of_getElem? hf));have e1:=(A8 hI).2.c1 (vO hf);have e2:=(A8 hI).2.c2 (vO hf);have HF:=AA hf;have CT:=fun(n:Nat) (hn:n=f.s.length+min keep f.t.length)=>A8 HCT q cap k f n wr.drew (A8 hI).2.drew hf hn;have BR5:(k:Int)<(fs.length:Int):=by omega
    clear hf;have CT2:=CT _ rfl;have hwm:IntKind.i64.wrap ((f.s.length:Int)+min (keep:Int) (f.t.length:Int))=((f.s.length+min keep f.t.length:Nat):Int):=by
     rw[IntKind.wrap_i64];omega
    have hset:(mix keep fs k).set k ⟨f.n,(f.s++f.t).take (f.s.length+min keep f.t.length),[]⟩=mix keep fs (k+1):=by
     rw[←BR8 (A8 HF),TD,List.take_length_add_append,AO9]
    rw[hset]at CT2;have HW:=AA hwm;clear CT hset hwm;generalize f.s.length+min keep f.t.length=M at CT2 HW;go_wp2_with fail
    go_region_with (first|(go_at_call 55;rw[A8 HW];refine CT2.mono ?_;rintro e w4 ⟨rfl,ho4,hg4⟩))
    all_goals
     have hg5:wr.grownBy w4 (some q):=⟨hg4.os,hg4.tape,hg4.output,hg4.size,hg4.block⟩;have X4:=(A8 hI).1.grown hg5 hq2;have ca4:w4.cell? ⟨w2.heap.size,0,none⟩=some (.slice (some ⟨q,0,none⟩) fs.length cap):=hg5.cell hca (fun e=>by have e3:w2.heap.size=q:=Option.some.inj e;omega);have HI:=AA (And.intro X4 ho4);clear X4 ho4 hg4 hg5 CT2;go_wp2_with fail
     go_roundg (fs.length-(k+1))
     case measure=>omega
     case rel=>exact⟨k+1,rfl,by omega,Nat.le_refl _,HI,ca4⟩
   ·have hkk:k=fs.length:=by omega
    subst hkk;have cr:=(A8 hI).1.cr;have fr:=(A8 hI).1.fr;go_wp2_with fail;exact bodyPost_ret (v:=.tuple #[.agg #[.slice (some ⟨q,0,none⟩) fs.length cap],I0 0]) (by simp[results,results38,go_sem,cr]) rfl
     ⟨_,rfl,.inr ⟨q,cap,by simp,by omega,by have:=(A8 hI).2;rw[BR7]at this;exact this.other (by show q≠w.heap.size+1;omega) _⟩,(A8 hI).1.below.setCell (by simp) _⟩
theorem EN(g:G9 fs):gJ fs:=fun f hf=>by
 have h:=g.ok f hf;have h1:=JB h;have h2:=SI h;simp only[EC,Bool.and_eq_true,decide_eq_true_eq]at h2;omega
theorem B78{f:DF}(g:G9 (A++f::B))(hn:f'.n=f.n)(hl:f'.s.length+f'.t.length≤1048576):G9 (A++f'::B):=by
 refine⟨by simpa using g.few,?_,?_⟩
 ·intro x hx;rcases List.mem_append.1 hx with h|h
  ·exact g.ok x (by simp[h])
  ·rcases List.mem_cons.1 h with rfl|h
   ·have:=SI (g.ok f (by simp));simp[MG,hn,this,hl]
   ·exact g.ok x (by simp[h])
 ·have h:=g.asc;unfold Asc at h⊢;rw[List.pairwise_append,List.pairwise_cons]at h⊢;refine⟨h.1,⟨fun b hb=>by rw[hn];exact h.2.1.1 b hb,h.2.1.2⟩,fun a ha b hb=>?_⟩;rcases List.mem_cons.1 hb with rfl|hb
  ·rw[hn];exact h.2.2 a ha f (by simp)
  ·exact h.2.2 a ha b (by simp[hb])
theorem lG(g:G9 fs)(G:Gap fs A B name)(hn:EC name=true)(hl:fs.length<16)(hf:f'.n=name)(hs:f'.s.length+f'.t.length≤1048576):G9 (A++f'::B):=by
 have g':=g;rw[G.eq]at g' hl;refine⟨by simp at hl⊢;omega,?_,?_⟩
 ·intro x hx;rcases List.mem_append.1 hx with h|h
  ·exact g'.ok x (by simp[h])
  ·rcases List.mem_cons.1 h with rfl|h
   ·simp[MG,hf,hn,hs]
   ·exact g'.ok x (by simp[h])
 ·have h:=g'.asc;unfold Asc at h⊢;rw[List.pairwise_append]at h;rw[List.pairwise_append,List.pairwise_cons];refine⟨h.1,⟨fun b hb=>by rw[hf];exact G.hi b hb,h.2.1⟩,fun a ha b hb=>?_⟩;rcases List.mem_cons.1 hb with rfl|hb
  ·rw[hf];exact G.lo a ha
  ·exact h.2.2 a ha b hb
theorem There.set{f:DF}(T:There fs A f B name)(hf:f'.n=name):There (A++f'::B) A f' B name:=⟨rfl,hf,T.lo,T.hi⟩
theorem Gap.ins(G:Gap fs A B name)(hf:f'.n=name):There (A++f'::B) A f' B name:=⟨rfl,hf,G.lo,G.hi⟩
def vP(fs:List DF)(name:List UInt8):Option DF:=fs.find? fun f=>decide (f.n=name)
theorem There.look{f:DF}(T:There fs A f B name):vP fs name=some f:=by
 rw[vP,T.eq,List.find?_append,List.find?_eq_none.2 (fun a ha=>by simp[SH (T.lo a ha)])];simp[T.nm]
theorem Gap.look(G:Gap fs A B name):vP fs name=none:=by
 rw[vP,G.eq,List.find?_append,List.find?_eq_none.2 (fun a ha=>by simp[SH (G.lo a ha)]),List.find?_eq_none.2 (fun b hb=>by simp[(SH (G.hi b hb)).symm])];rfl
noncomputable def RU(fs:List DF)(name:List UInt8):List UInt8×Int:=if PO fs=true then match vP fs name with
 |some f=>(f.s++f.t,0)
 |none=>([],7)else([],3)
theorem dK(h:PO fs=false):RU fs name=([],3):=by simp[RU,h]
theorem QT{f:DF}(g:G9 fs)(T:There fs A f B name):RU fs name=(f.s++f.t,0):=by simp[RU,GI.2 g,T.look]
theorem dL(g:G9 fs)(G:Gap fs A B name):RU fs name=([],7):=by simp[RU,GI.2 g,G.look]
theorem AP1(fs:List DF)(name:List UInt8):(RU fs name).1.length≤1048576:=by
 rcases dG fs name with⟨E,⟨h,_⟩|⟨g,⟨A,B,G⟩,_⟩⟩|⟨g,A,f,B,T⟩
 ·rw[dK h];simp
 ·rw[dL g G];simp
 ·rw[QT g T];have:=JB (T.ok g);simp;omega
theorem B79(v:Value)(fs:List DF)(name:List UInt8)(w:World)(hv:C9 w v fs)(hs:gJ fs):
  Calls prog 31 #[.agg #[v],S0 name] w (R0 w (.tuple #[S0 (RU fs name).1,I0 (RU fs name).2])):=by
 rcases dG fs name with⟨E,h⟩|⟨g,A,f,B,T⟩
 ·have h':=vH v fs name E w hv hs h;rcases h with⟨h,rfl⟩|⟨g,⟨A,B,G⟩,rfl⟩
  ·rw[dK h];exact h'
  ·rw[dL g G];exact h'
 ·rw[QT g T];exact jC v fs A B f name w hv hs g T
def J6(f:FuncId)(args:Value→Array Value)(fs d:List DF)(E:Int):Prop:=∀v W,C9 W v fs→Calls prog f (args (.agg #[v])) W fun e w'=>∃a n c,e=.returned (.tuple #[.agg #[.slice a n c],I0 E])∧Hid (C9 w' (.slice a n c) d)∧B0 W w'
theorem pY{f:FuncId}{args:Value→Array Value}{E:Int}(h:∀v W,C9 W v fs→Calls prog f (args (.agg #[v])) W (R0 W (.tuple #[.agg #[N0],I0 E]))):J6 f args fs [] E:=
 fun v W hv=>(h v W hv).mono fun _ w' ⟨he,hb⟩=>⟨_,_,_,he,C9.nil w',hb⟩
theorem IV{f:FuncId}{args:Value→Array Value}{d:List DF}(h:∀v W,C9 W v fs→Calls prog f (args (.agg #[v])) W fun e w'=>∃v',e=.returned (.tuple #[.agg #[v'],I0 0])∧UG w' W.heap.size v' d∧B0 W w'):J6 f args fs d 0:=
 fun v W hv=>(h v W hv).mono fun _ w' ⟨v',he,ho,hb⟩=>by
  obtain⟨a,n,c,rfl⟩:=DC ho.disk;exact⟨a,n,c,he,ho.disk,hb⟩
end Go.Proofs.YtodnhndkghdinaaGreatDoor
