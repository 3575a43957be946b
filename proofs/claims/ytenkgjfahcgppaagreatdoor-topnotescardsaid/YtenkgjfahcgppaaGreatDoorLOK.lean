/-
  Part.
-/
import Derived.Test.YtenkgjfahcgppaaGreatDoorLOE
import Derived.Test.YtenkgjfahcgppaaGreatDoorLOJ
set_option maxRecDepth 20000
set_option maxHeartbeats 8000000
namespace Go.Proofs.YtenkgjfahcgppaaGreatDoor
open Go.RowKit Go.Proofs.Tryz
variable{W V:World}{b:Nat}{n:Nd}{F:Nat->Prop}{z:Int}{vn vs ve:Value}{ns:List Nd}{ss:List Int}{es:List Ev}
theorem CA9:(prog.info? 3).map (fun i=>(i.zero,i.size,i.bytes))=some (some (I0 0),1,8):=by kernel_rfl
theorem xE:∃i0,prog.info? 3=some i0/\i0.zero=some (I0 0)/\i0.size=1/\i0.bytes=8:=by
 obtain⟨i0,h,e⟩:=Option.map_eq_some_iff.1 CA9;simp only[Prod.mk.injEq]at e;exact⟨i0,h,e⟩
def TN:List Value:=[I0 0]
theorem BW6(w:World)(ty:TypeId)(b o c:Nat)(hc:∀j,j<1->(w.cell? ⟨b,o+j,none⟩).isSome=true)(hf:∀j,j<1->w.frozen? ⟨b,o+j,none⟩=false):
  (Builtin.clear_ #[38] ty #[.slice (some ⟨b,o,none⟩) 1 c]).run prog w=.ok (.tuple #[]) (w.setCells b o TN):=by
 have hzc:(Builtin.zeroCells (I0 0).cells 1).toList=TN:=by kernel_rfl
 have hst:=run_storeCells_cells (P:=prog) b o TN 0 w (fun j hj=>hc j (by simpa [TN]using hj)) (fun j hj=>hf j (by simpa [TN]using hj)) (by simp[TN,Value.oneCell']);simp only[Nat.add_zero]at hst;simp[Builtin.clear_,run_underlying underlying38,hzc,hst]
theorem xG(g cap:Nat)(A B:List Int)(f:Int)(n:Nat)(w:World)(ho:DY w g cap (A++f::B))(hn:n=A.length+B.length+1)(hsm:n<=2147483647):
  Calls prog 85 #[.slice (some ⟨g,0,none⟩) n cap,I0 A.length,I0 (A.length+1:Nat)] w fun e w'=>
   e=.returned (.slice (some ⟨g,0,none⟩) (A.length+B.length) cap)/\DY w' g cap (A++B)/\w.grownBy w' (some g):=by
 obtain⟨i0,hi0,hz0,hz1,hz2⟩:=xE;have hle:=ho.le;have hcl:=ho.capLe;simp only[maxLen]at hcl;rw[List.length_append,List.length_cons]at hle;have hrow:=ho.row;obtain⟨AD,hAD,hsrc⟩:∃AD:Addr,(if cap=A.length+1 then some (⟨g,0,none⟩:Addr)else some ⟨g,(A.length+1),none⟩)=some AD/\Hid (∀t u,(AO B)[t]?=some u->w.drew.cell? (AD.add t)=some u):=by
  by_cases h:cap=A.length+1
  .refine⟨⟨g,0,none⟩,by simp[h],fun t u hu=>?_⟩;have h0:B=[]:=List.eq_nil_of_length_eq_zero (by omega);rw[h0]at hu;simp[OG]at hu
  .refine⟨⟨g,(A.length+1),none⟩,by simp[h],fun t u hu=>?_⟩;rw[Addr.add_lit];have:=hrow ((A.length+1)+t) u (by
    rw[BH,List.getElem?_append_right (by rw[DV];omega),DV,F7,List.getElem?_append_right (by rw[Lay.len];show 1<=_;omega)];rw[Lay.len,<-hu];congr 1;show _-1=_;omega)
   rw[Nat.zero_add]at this;exact this
 have s1:Hid ((AO B).length=B.length*1):=(DV B).trans (Nat.mul_one _).symm;have s2:Hid (∀u∈AO B,u.oneCell'=true):=EZ B;have s3:Hid (∀t,t<(AO B).length->(w.drew.cell? ⟨g,0+A.length*1+t,none⟩).isSome=true/\w.drew.frozen? ⟨g,0+A.length*1+t,none⟩=false):=by
  intro t ht;rw[DV]at ht;exact⟨ho.AD2 (by omega),ho.frozen _⟩
 obtain⟨W1,hW1⟩:∃W1,W1=w.drew.setCells g (0+A.length*1) (AO B):=⟨_,rfl⟩;have ho1:DY W1 g cap (A++B):=by rw[hW1,Nat.zero_add,Nat.mul_one];exact ho.drew.mJ B (by omega)
 have hg1:w.grownBy W1 (some g):=by rw[hW1];have:=BI (g:=g) (AO B) (0+A.length*1) w.drew;exact⟨this.os,this.tape,this.output,this.size,this.block⟩
 have CL8:∀ty c,(Builtin.clear_ #[38] ty #[.slice (some ⟨g,(A.length+B.length),none⟩) 1 c]).run prog W1=.ok (.tuple #[]) (W1.setCells g ((A.length+B.length)) TN):=fun ty c=>
  BW6 W1 ty g _ c (fun j hj=>ho1.AD2 (by omega)) (fun j hj=>ho1.frozen _)
 have FIN:Hid (DY (W1.setCells g ((A.length+B.length)) TN) g cap (A++B)/\w.grownBy (W1.setCells g ((A.length+B.length)) TN) (some g)):=
  ⟨ho1.CA6 TN _ (by rw[List.length_append];omega) (by simp[TN];omega),BZ hg1 (BI _ _ _)⟩
 have hW:Hid (W1=w.drew.setCells g (0+A.length*1) (AO B)):=hW1;have hic:A.length<=cap:=by omega
 have hjc:A.length+1<=cap:=by omega
 have hne:¬ (cap=A.length+B.length):=by omega
 have hb1:(0:Int)<=(A.length:Int)+1:=by omega
 have hb2:(A.length:Int)<=(A.length:Int)+(B.length:Int):=by omega
 have hb3:(0:Int)<=(A.length:Int)+(B.length:Int):=by omega
 have hs1:A.length+B.length+1-(A.length+B.length)=1:=by omega
 clear hW1 ho1 hg1 hrow ho;subst hn;go_enter func85,ntmps85;go_wp2_with fail
 go_region_law (refine step_append_room rfl (.tmp 22) (.tmp 25) 38 rfl 3 i0 1 underlying38 hi0 hz1 g 0 A.length cap (by simp[Act.eval,Act.put]) AD B.length (cap-(A.length+1)) (AO B) (by simp[Act.eval,Act.put]) s1.out hsrc.out s2.out (by omega) s3.out ?_;rw[<-hW.out])
 go_wp2
 go_ret;exact⟨rfl,FIN.out⟩
theorem A36(w:World)(ty:TypeId)(b o dLen dCap:Nat)(a:Addr)(sLen sCap:Nat)(cs:List Value)(hn:cs.length=Nat.min sLen dLen)
  (hsrc:∀j v,cs[j]?=some v->w.cell? (a.add j)=some v) (hc:∀j,j<cs.length->(w.cell? ⟨b,o+j,none⟩).isSome=true) (hf:∀j,j<cs.length->w.frozen? ⟨b,o+j,none⟩=false) (h1:∀v∈cs,v.oneCell'=true):
  (Builtin.copy_ #[38,38] ty #[.slice (some ⟨b,o,none⟩) dLen dCap,.slice (some a) sLen sCap]).run prog w=.ok (goInt (Nat.min sLen dLen)) (w.setCells b o cs):=by
 have hl:=run_loadCells_list (P:=prog) w a cs hsrc;have hst:=run_storeCells_cells (P:=prog) b o cs 0 w (by simpa using hc) (by simpa using hf) h1;obtain⟨i0,hi0,hz0,hz1,hz2⟩:=xE;simp[Builtin.copy_,run_underlying underlying38,Builtin.lenOf,Builtin.firstCells,sizeOf,typeInfo,hi0,hz1,<-hn,hl,hst]
theorem xH(v:Value)(A:List Int)(x:Int)(B b:Nat)(w:World)(ho:BD w B v A)(hB:B<=w.heap.size)(hl:A.length<=2147483647)(h1:EW w b x):
  Calls prog 84 #[v,I0 A.length,.slice (some ⟨b,0,none⟩) 1 1] w fun e w'=>
   ∃v',e=.returned v'/\BD w' B v' (A++[x])/\w.grownBy w' v.ownBlock/\(v'.ownBlock=v.ownBlock\/v'.ownBlock=some w.heap.size):=by
 obtain⟨i0,hi0,hz0,hz1,hz2⟩:=xE;have hrow:=ho.row;have HR:=AA hrow;have H1:=AA h1.row;have V:∃a c,v=.slice a A.length c/\A.length<=c:=by
  rcases ho with⟨rfl,rfl⟩|⟨g,cap,rfl,_,h⟩
  .exact⟨none,0,rfl,Nat.le_refl _⟩
  .exact⟨_,cap,rfl,h.le⟩
 obtain⟨a,c,rfl,hc⟩:=V;clear ho hrow h1;rcases Nat.lt_or_ge A.length c with hcl|hcl
 .have hne:¬c=A.length:=by omega
  go_enter func84,ntmps84;go_wp2_with (at_builtin;refine wpList_append_own_at _ rfl _ _ 38 rfl B 3 i0 _ 1 8 underlying38 hi0 hz0 hz1 hz2 rfl (by decide) _ A.length (AO A) rfl (A8 HR) ⟨b,0,none⟩ 1 1 [I0 x] rfl (by rfl) ?qc2 ((Lay.one x)) ?qc4 ?qc5 hB ?_)
  case qc2=>
   intro j u hj;rw[Addr.add_lit];exact A8 H1 j u hj
  case qc4=>simp only[maxLen];omega
  case qc5=>omega
  intro v' w1 hown hgrow _ hloc
  go_wp2
  go_ret;exact⟨v',rfl,BD.G8 (by rw[List.length_append,EK];exact hown),hgrow,hloc⟩
 .obtain rfl:c=A.length:=by omega
  go_enter func84,ntmps84;go_wp2_with (at_builtin;refine wpList_append_own_at _ rfl _ _ 38 rfl B 3 i0 _ 1 8 underlying38 hi0 hz0 hz1 hz2 rfl (by decide) _ A.length (AO A) rfl (A8 HR) ⟨b,0,none⟩ 1 1 [I0 x] rfl (by rfl) ?qc2 ((Lay.one x)) ?qc4 ?qc5 hB ?_)
  case qc2=>
   intro j u hj;rw[Addr.add_lit];exact A8 H1 j u hj
  case qc4=>simp only[maxLen];omega
  case qc5=>omega
  intro v' w1 hown hgrow _ hloc
  go_wp2
  go_ret;exact⟨v',rfl,BD.G8 (by rw[List.length_append,EK];exact hown),hgrow,hloc⟩
theorem mQ(g cap:Nat)(A R:List Int)(y x:Int)(n b:Nat)(w:World)(ho:DY w g cap (A++y::R))(hn:n=A.length+R.length+1)(hsm:n<=2147483647)(hroom:n+1<=cap)(h1:EW w b x)(hbg:b≠g):
  Calls prog 84 #[.slice (some ⟨g,0,none⟩) n cap,I0 A.length,.slice (some ⟨b,0,none⟩) 1 1] w fun e w'=>
   e=.returned (.slice (some ⟨g,0,none⟩) (n+1) cap)/\DY w' g cap (A++x::y::R)/\w.grownBy w' (some g):=by
 have hcl:=ho.capLe;simp only[maxLen]at hcl;have hrow:=ho.row;have AR1:w.shape? g=some (3,cap):=by
  obtain⟨rest,q1,q2,_⟩:=ho;rw[List.length_append,List.length_cons,show Lay.k Int=1 from rfl,Nat.mul_one,Nat.mul_one]at q2;simp[World.shape?,q1,DV];exact⟨rfl,q2⟩
 have AR2:w.shape? b=some (3,1):=by unfold EW at h1;simp[World.shape?,h1];exact⟨rfl,rfl⟩
 have hfb:∀j,w.frozen? ⟨b,j,none⟩=false:=fun j=>by unfold EW at h1;simp[World.frozen?,h1]
 have hov:∀lb cb,(callFunc 122 #[.slice (some ⟨b,0,none⟩) 1 1,.slice (some ⟨g,(A.length+1),none⟩) lb cb]).run prog w=.ok (.value (.bool false)) w:=fun lb cb=>by
  rw[run_callFunc_extern func122 (by kernel_rfl) (by kernel_rfl) (by kernel_rfl) (e:=Extern.SlicesOverlaps.overlaps #[38,38] #[4]) (by kernel_rfl),
   Lib.run_overlaps_apart w 38 4 3 underlying38 1 sizeOf3 ⟨b,0,none⟩ ⟨g,(A.length+1),none⟩ 1 1 lb cb hbg 3 3 1 cap AR2 AR1 (by omega) (hfb 0) (hfb 1)]
  rfl
 obtain⟨W1,hW1⟩:∃W1,W1=w.drew.setCells g ((A.length+1)) (AO (y::R)):=⟨_,rfl⟩;have ho1:DY W1 g cap (A++y::y::R):=by
  have h:DY w.drew g cap ((A++[y])++R):=by rw[List.append_assoc];exact ho
  have:=h.mJ (y::R) (by simp;omega);rw[hW1];simpa using this
 have hg1:w.grownBy W1 (some g):=by rw[hW1];have:=BI (g:=g) (AO (y::R)) ((A.length+1)) w.drew;exact⟨this.os,this.tape,this.output,this.size,this.block⟩
 have hcp1:∀ty dc sc,(Builtin.copy_ #[38,38] ty #[.slice (some ⟨g,(A.length+1),none⟩) (n-A.length) dc,.slice (some ⟨g,A.length,none⟩) (n+1-A.length) sc]).run prog w.drew=.ok (goInt (Nat.min (n+1-A.length) (n-A.length))) W1:=fun ty dc sc=>by
  rw[hW1];exact A36 w.drew ty g _ _ dc ⟨g,A.length,none⟩ _ sc (AO (y::R)) (by rw[DV];simp only[Nat.min_def,List.length_cons];split<;>omega)
   (fun j v hj=>by
    rw[Addr.add_lit];have:=hrow (A.length+j) v (by rw[BH,List.getElem?_append_right (by rw[DV];omega),DV,Nat.add_sub_cancel_left];exact hj);rw[Nat.zero_add]at this;exact this)
   (fun j hj=>by rw[DV]at hj;exact ho.AD2 (by simp at hj;omega)) (fun j _=>ho.frozen _) (EZ _)
 have hcp2:∀ty dc,(Builtin.copy_ #[38,38] ty #[.slice (some ⟨g,A.length,none⟩) (n+1-A.length) dc,.slice (some ⟨b,0,none⟩) 1 1]).run prog W1=.ok (goInt (Nat.min 1 (n+1-A.length))) (W1.setCells g (A.length) [I0 x]):=fun ty dc=>
  A36 W1 ty g _ _ dc ⟨b,0,none⟩ 1 1 [I0 x] (by simp only[Nat.min_def,List.length_cons,List.length_nil];split<;>omega)
   (fun j v hj=>by
    rw[Addr.add_lit];have hb2:W1.heap[b]?=w.heap[b]? :=hg1.block b (by unfold EW at h1;exact(Array.getElem?_eq_some_iff.1 h1).1) (fun e=>hbg (Option.some.inj e));have h2:EW W1 b x:=hb2.trans h1;exact h2.row j v hj)
   (fun j hj=>ho1.AD2 (by simp at hj;omega)) (fun j _=>ho1.frozen _) ((Lay.one x))
 have FIN:Hid (DY (W1.setCells g (A.length) [I0 x]) g cap (A++x::y::R)/\w.grownBy (W1.setCells g (A.length) [I0 x]) (some g)):=
  ⟨ho1.CN7 x,BZ hg1 (BI _ _ _)⟩
 have hin:A.length<n:=by omega
 have BV7:(A.length:Int)<(n:Int):=by omega
 have hw1:IntKind.i64.wrap ((A.length:Int)+1)=(A.length:Int)+1:=by rw[IntKind.wrap_i64];omega
 have hb1:(0:Int)<=(A.length:Int)+1:=by omega
 have hb2:¬ (cap=A.length+1):=by omega
 have hb3:(A.length:Int)<=(n:Int)+1:=by omega
 have hb4:¬ (cap=A.length):=by omega
 have hb5:(A.length:Int)+1<=(n:Int)+1:=by omega
 have hb6:¬ ((cap:Int)<(n:Int)+1):=by omega
 have hz2:¬ ((A.length:Int)=(n:Int)):=by omega
 have htn:((A.length:Int)+1).toNat=A.length+1:=by omega
 clear hW1 ho1 hg1 hrow AR1 AR2 hfb ho h1 hn;go_enter func84,ntmps84;go_wp2_with (simp only[hov])
 go_region_law (refine IZ rfl (.tmp 73) (.tmp 76) 38 38 rfl (.slice (some ⟨g,(A.length+1),none⟩) (n-A.length) (cap-(A.length+1))) (.slice (some ⟨g,A.length,none⟩) (n+1-A.length) (cap-A.length)) (by simp[Act.eval,Act.put]) (by simp[Act.eval,Act.put]) (hcp1 _ _ _) ?_)
 go_wp2_with (at_builtin;refine GI _ rfl _ _ 38 38 rfl _ _ rfl rfl (hcp2 _ _) ?_);go_ret;exact⟨rfl,FIN.out⟩
theorem CB0(k:Nat):(Builtin.zeroCells (I0 0).cells k).size=k:=by
 simp[Builtin.zeroCells,Value.cells]
theorem rF(g cap:Nat)(A R:List Int)(y x:Int)(n b:Nat)(w:World)(ho:DY w g cap (A++y::R))(hn:n=A.length+R.length+1)(hsm:n<=2147483647)(hroom:cap<n+1)(h1:EW w b x):
  Calls prog 84 #[.slice (some ⟨g,0,none⟩) n cap,I0 A.length,.slice (some ⟨b,0,none⟩) 1 1] w fun e w'=>
   ∃cap',e=.returned (.slice (some ⟨w.heap.size,0,none⟩) (n+1) cap')/\DY w' w.heap.size cap' (A++x::y::R)/\B0 w w':=by
 have hcap:cap=n:=by have:=ho.le;simp at this;omega
 obtain⟨i0,hi0,hz0,hz1,hz2⟩:=xE;have hrow:=ho.row;have hgw:=ho.lt;have hbw:b<w.heap.size:=by unfold EW at h1;exact(Array.getElem?_eq_some_iff.1 h1).1
 have hold:(Builtin.firstCells i0.size A.length (.slice (some ⟨g,0,none⟩) A.length cap)).run prog w.drew=.ok (AO A).toArray w.drew:=by
  rw[hz1];exact run_firstCells_some w.drew 1 A.length ⟨g,0,none⟩ A.length cap (AO A) ((DV A).trans (Nat.mul_one _).symm) (fun j v hj=>by
   rw[Addr.add_lit];exact hrow j v (by rw[BH,List.getElem?_append_left (List.getElem?_eq_some_iff.1 hj).1];exact hj))
 obtain⟨G,hG⟩:∃G,G=grownCap w (n+1) cap 3:=⟨_,rfl⟩;have hGn:n+1<=G:=by rw[hG];exact grownCap_ge w _ _ _
 have hGm:G<=maxLen:=by rw[hG];exact grownCap_le_maxLen w (n+1) cap _ (by unfold maxLen;omega)
 have hG63:G<=9223372036854775807:=by have:=hGm;unfold maxLen at this;omega
 obtain⟨ROW,hROW⟩:∃ROW:Array Value,ROW=(AO A).toArray++Builtin.zeroCells (I0 0).cells (n+1-A.length)++Builtin.zeroCells (I0 0).cells (G-(n+1)):=⟨_,rfl⟩;obtain⟨W1,hW1⟩:∃W1,W1=w.drew.alloc (.cells ROW 3):=⟨_,rfl⟩;have hik:A.length+(n+1-A.length)=n+1:=by omega
 have hrz:∀ty,(Builtin.append_ #[38,3] ty #[.slice (some ⟨g,0,none⟩) A.length cap,I0 ((n:Int)+1-(A.length:Int))]).run prog w=
   .ok (.slice (some ⟨w.heap.size,0,none⟩) (n+1) G) W1:=fun ty=>by
  have h:=Lib.run_append_grow_zeros w 38 3 ty 3 i0 _ .i64 .i64 underlying38 underlying3 hi0 hz0 (some ⟨g,0,none⟩) A.length cap (AO A) hold (n+1-A.length) (by omega) (by omega) (by omega) (by omega) (by rw[hz2];omega) (by rw[hz2,hik];exact growslice_fits hroom (by omega));rw[hik,<-hG,<-hROW,<-hW1]at h;rw[show (n:Int)+1-(A.length:Int)=((n+1-A.length:Nat):Int) by omega];exact h
 have ho1:DY W1 w.heap.size G A:=by
  refine⟨(Builtin.zeroCells (I0 0).cells (n+1-A.length)++Builtin.zeroCells (I0 0).cells (G-(n+1))).toList,?_,?_,by omega,hGm⟩
  .rw[hW1,hROW];have:=heap_alloc_new w.drew (.cells ((AO A).toArray++Builtin.zeroCells (I0 0).cells (n+1-A.length)++Builtin.zeroCells (I0 0).cells (G-(n+1))) 3);refine Eq.trans this ?_
   congr 2
   apply Array.toList_inj.1
   simp
  .simp only[show Lay.k Int=1 from rfl,Array.length_toList,Array.size_append,CB0,Nat.mul_one];omega
 have hB1:B0 w W1:=by rw[hW1];exact((Below.refl _ w).drew).alloc (Nat.le_refl _) _
 obtain⟨W2,hW2⟩:∃W2,W2=W1.setCells w.heap.size (A.length) [I0 x]:=⟨_,rfl⟩;have ho2:DY W2 w.heap.size G (A++[x]):=by
  have h:DY W1 w.heap.size G (A++[]):=by rw[List.append_nil];exact ho1
  have:=h.mJ [x] (by simp;omega);rw[hW2];rw[F7,OG,List.append_nil]at this;exact this
 have hg2:W1.grownBy W2 (some w.heap.size):=by rw[hW2];exact BI _ _ _
 have hB2:B0 w W2:=hB1.grown hg2 hB1.size (fun k e=>by cases e;exact Nat.le_refl _);have hcpA:∀ty dc,(Builtin.copy_ #[38,38] ty #[.slice (some ⟨w.heap.size,A.length,none⟩) (n+1-A.length) dc,.slice (some ⟨b,0,none⟩) 1 1]).run prog W1=.ok (goInt (Nat.min 1 (n+1-A.length))) W2:=fun ty dc=>by
  rw[hW2];exact A36 W1 ty w.heap.size _ _ dc ⟨b,0,none⟩ 1 1 [I0 x] (by simp only[Nat.min_def,List.length_cons,List.length_nil];split<;>omega)
   (fun j v hj=>by rw[Addr.add_lit];exact(show EW W1 b x from(hB1.block b hbw).trans h1).row j v hj)
   (fun j hj=>ho1.AD2 (by simp at hj;omega)) (fun j _=>ho1.frozen _) ((Lay.one x))
 obtain⟨W3,hW3⟩:∃W3,W3=W2.drew.setCells w.heap.size ((A.length+1)) (AO (y::R)):=⟨_,rfl⟩;have hcpB:∀ty dc sc,(Builtin.copy_ #[38,38] ty #[.slice (some ⟨w.heap.size,(A.length+1),none⟩) (n-A.length) dc,.slice (some ⟨g,A.length,none⟩) (n-A.length) sc]).run prog W2.drew=.ok (goInt (Nat.min (n-A.length) (n-A.length))) W3:=fun ty dc sc=>by
  rw[hW3];exact A36 W2.drew ty w.heap.size _ _ dc ⟨g,A.length,none⟩ _ sc (AO (y::R)) (by rw[DV];simp only[Nat.min_self,List.length_cons];omega)
   (fun j v hj=>by
    rw[Addr.add_lit];have:=hrow (A.length+j) v (by rw[BH,List.getElem?_append_right (by rw[DV];omega),DV,Nat.add_sub_cancel_left];exact hj);rw[Nat.zero_add]at this;exact(hB2.cell (p:=⟨g,A.length+j,none⟩) hgw).trans this)
   (fun j hj=>by rw[DV]at hj;exact ho2.drew.AD2 (by simp at hj;omega)) (fun j _=>ho2.drew.frozen _) (EZ _)
 have FIN:Hid (DY W3 w.heap.size G (A++x::y::R)/\B0 w W3):=by
  refine⟨?_,?_⟩
  .have h:DY W2.drew w.heap.size G ((A++[x])++[]):=by rw[List.append_nil];exact ho2
   have:=h.mJ (y::R) (by simp;omega);rw[hW3];simpa using this
  .rw[hW3];exact hB2.drew.grown (BI _ _ _) hB2.size (fun k e=>by cases e;exact Nat.le_refl _)
 have hin:A.length<n:=by omega
 have BV7:(A.length:Int)<(n:Int):=by omega
 have hw1:IntKind.i64.wrap ((A.length:Int)+1)=(A.length:Int)+1:=by rw[IntKind.wrap_i64];omega
 have hb1:(0:Int)<=(A.length:Int)+1:=by omega
 have hb2:¬ (G=A.length+1):=by omega
 have hb3:(A.length:Int)<=(n:Int)+1:=by omega
 have hb4:¬ (n=A.length):=by omega
 have hb5:(A.length:Int)+1<=(n:Int)+1:=by omega
 have hb6:¬ (G=A.length):=by omega
 have hb7:(A.length:Int)<=(n:Int):=by omega
 have hz3:¬ ((A.length:Int)=(n:Int)):=by omega
 have htn:((A.length:Int)+1).toNat=A.length+1:=by omega
 subst hcap;clear hn hROW hW1 hW2 hW3 hG hrow ho h1 ho1 ho2 hB1 hB2 hg2 hold hik;go_enter func84,ntmps84;go_wp2_with (first
  |(at_builtin;refine Lib.wpList_append_run _ rfl _ _ _ _ rfl _ _ rfl rfl _ _ (hrz _) ?_)
  |(at_builtin;refine GI _ rfl _ _ 38 38 rfl _ _ rfl rfl (hcpA _ _) ?_))
 go_region_law (refine IZ rfl (.tmp 50) (.tmp 53) 38 38 rfl (.slice (some ⟨w.heap.size,(A.length+1),none⟩) (cap-A.length) (G-(A.length+1))) (.slice (some ⟨g,A.length,none⟩) (cap-A.length) (cap-A.length)) (by simp[Act.eval,Act.put]) (by simp[Act.eval,Act.put]) (hcpB _ _ _) ?_)
 go_wp2
 go_ret;exact⟨G,rfl,FIN.out⟩
theorem xI(v:Value)(A R:List Int)(x:Int)(q:Nat)(w:World)(ho:BD w 0 v (A++R))(hl:(A++R).length<=2147483647)(h1:EW w q x)(hq:v.ownBlock≠some q):
  Calls prog 84 #[v,I0 A.length,.slice (some ⟨q,0,none⟩) 1 1] w fun e w'=>
   ∃v',e=.returned v'/\BD w' 0 v' (A++x::R)/\w.grownBy w' v.ownBlock/\(v'.ownBlock=v.ownBlock\/∃k,w.heap.size<=k/\v'.ownBlock=some k):=by
 cases R with
 |nil=>
  rw[List.append_nil]at ho hl;refine(xH v A x 0 q w ho (Nat.zero_le _) hl h1).mono ?_;rintro e w' ⟨v',rfl,h2,h3,h4⟩;refine⟨v',rfl,h2,h3,?_⟩;rcases h4 with h|h
  .exact .inl h
  .exact .inr ⟨_,Nat.le_refl _,h⟩
 |cons y R=>
  rcases ho with⟨_,h⟩|⟨g,cap,rfl,_,ho⟩
  .simp at h
  .have hn:(A++y::R).length=A.length+R.length+1:=by simp;omega
   by_cases hc:(A++y::R).length+1<=cap
   .refine(mQ g cap A R y x _ q w ho hn hl hc h1 (fun e=>hq (by rw[e];rfl))).mono ?_;rintro e w' ⟨rfl,h2,h3⟩;exact⟨_,rfl,.inr ⟨g,cap,by simp;omega,Nat.zero_le _,h2⟩,h3,.inl rfl⟩
   .refine(rF g cap A R y x _ q w ho hn hl (by omega) h1).mono ?_;rintro e w' ⟨cap',rfl,h2,h3⟩;exact⟨_,rfl,.inr ⟨w.heap.size,cap',by simp;omega,Nat.zero_le _,h2⟩,⟨h3.os,h3.tape,h3.output,h3.size,fun k hk _=>h3.block k hk⟩,.inr ⟨_,Nat.le_refl _,rfl⟩⟩
theorem JF(s:List UInt8)(w:World)(hs:s.length<=281474976710656):
  Calls prog 72 #[S0 s] w (R0 w (S0 s)):=TA ⟨s.toArray⟩ w hs
theorem EW.EO(h:EW W b n)(j:Nat)(v:Value)(hj:(IE n)[j]?=some v):W.cell? ⟨b,j,none⟩=some v:=by
 have:=h.row j v hj;rwa[Nat.zero_add]at this
theorem EW.DX(h:EW W b n)(j:Nat):W.frozen? ⟨b,j,none⟩=false:=by
 unfold EW at h;simp[World.frozen?,h]
theorem EW.BD2(h:EW W b n)(hb:B0 W V):EW V b n:=by
 unfold EW at h⊢;exact(hb.block _ (Array.getElem?_eq_some_iff.1 h).1).trans h
def SC:Nd:=⟨[],[],0,0,0,0,0,0,0⟩
theorem WE(n:Nd)(w:World)(hp:n.p.length<=140737488355328)(hd:n.d.length<=140737488355328):
  Calls prog 56 #[PS n] w (R0 w (PS n)):=by
 have C1:=fun W=>JF n.p W (by omega);have C2:=fun W=>JF n.d W (by omega);have X0:∀W,W=(w.alloc (.cells (IE n).toArray 96)).alloc (.cells (IE SC).toArray 96)->EW W w.heap.size n/\EW W (w.heap.size+1) SC/\B0 w W:=by
  rintro W rfl;refine⟨?_,?_,((Below.refl _ _).alloc (Nat.le_refl _) _).alloc (by simp) _⟩
  .unfold EW;exact(((Below.refl (w.heap.size+1) (w.alloc (.cells (IE n).toArray 96))).alloc (by simp) (.cells (IE SC).toArray 96)).block _ (by omega)).trans (heap_alloc_new w _)
  .have:=heap_alloc_new (w.alloc (.cells (IE n).toArray 96)) (.cells (IE SC).toArray 96);rw[show (w.alloc (.cells (IE n).toArray 96)).heap.size=w.heap.size+1 by simp]at this;exact this
 have X:=AA X0;clear X0;unfold PS;go_enter func56,ntmps56;go_wp2_with fail;generalize hW0:(w.alloc _).alloc _=W0;obtain⟨x1,x2,x3⟩:=A8 X W0 hW0.symm;clear hW0 X;refine(C1 _).mono ?_;rintro e w1 ⟨rfl,hb1⟩;have y1:=x1.BD2 hb1;have e0:=y1.EO 0 _ rfl;have e1:=y1.EO 1 _ rfl;have f0:=y1.DX 0;have hs0:=BJ e0;have Y1:=AA y1;have Y2:=AA (x2.BD2 hb1);have B1:=AA (AL x3 hb1);clear y1 x1 x2 x3 hb1 C1;go_wp2_with fail;refine(C2 _).mono ?_;rintro e w2 ⟨rfl,hb2⟩;have y1:=(A8 Y1).BD2 hb2;have y2:=(A8 Y2).BD2 hb2;have B2:=AA (AL (A8 B1) hb2);clear e0 e1 f0 hs0 C2 hb2 Y1 Y2;have c0:=y1.EO 0 _ rfl;have c1:=y1.EO 1 _ rfl;have c2:=y1.EO 2 _ rfl;have c3:=y1.EO 3 _ rfl;have c4:=y1.EO 4 _ rfl;have c5:=y1.EO 5 _ rfl;have c6:=y1.EO 6 _ rfl;have c7:=y1.EO 7 _ rfl;have c8:=y1.EO 8 _ rfl;have d0:=y2.EO 0 _ rfl;have d1:=y2.EO 1 _ rfl;have d2:=y2.EO 2 _ rfl;have d3:=y2.EO 3 _ rfl;have d4:=y2.EO 4 _ rfl;have d5:=y2.EO 5 _ rfl;have d6:=y2.EO 6 _ rfl;have d7:=y2.EO 7 _ rfl;have d8:=y2.EO 8 _ rfl;have f1:=y1.DX 1;have g0:=y2.DX 0;have g1:=y2.DX 1;have g2:=y2.DX 2;have g3:=y2.DX 3;have g4:=y2.DX 4;have g5:=y2.DX 5;have g6:=y2.DX 6;have g7:=y2.DX 7;have g8:=y2.DX 8;have hs1:=BJ c1;have hne:w.heap.size≠w.heap.size+1:=by omega
 clear y1 y2;go_wp2_with fail;have BB:=A8 B2;exact bodyPost_ret (v:=PS n) (by simp[results,results56,go_sem,PS,d0,d1,d2,d3,d4,d5,d6,d7,d8]) rfl
  ⟨rfl,((((((((BB.setCell (by simp) _).setCell (by simp) _).setCell (by simp) _).setCell (by simp) _).setCell (by simp) _).setCell (by simp) _).setCell (by simp) _).setCell (by simp) _).setCell (by simp) _⟩
structure Grow(W:World)(F:Nat->Prop)(b:Nat)(z:Int)(vn vs ve:Value)(ns:List Nd)(ss:List Int)(es:List Ev):Prop where
 blk:W.heap[b]?=some (.cells #[I0 z,vn,vs,ve] 106 (0,0))
 fb:F b
 n:BD W 0 vn ns
 s:BD W 0 vs ss
 e:BD W 0 ve es
 fn:∀k,vn.ownBlock=some k->F k/\k≠b
 fs:∀k,vs.ownBlock=some k->F k/\k≠b
 fe:∀k,ve.ownBlock=some k->F k/\k≠b
 an:∀k,vn.ownBlock=some k->vs.ownBlock≠some k/\ve.ownBlock≠some k
 asn:∀k,vs.ownBlock=some k->ve.ownBlock≠some k
theorem Grow.lt(h:Grow W F b z vn vs ve ns ss es):b<W.heap.size:=(Array.getElem?_eq_some_iff.1 h.blk).1
theorem Grow.next(h:Grow W F b z vn vs ve ns ss es)(hb:B0 W V):Grow V F b z vn vs ve ns ss es:=
 ⟨(hb.block _ h.lt).trans h.blk,h.fb,h.n.next hb,h.s.next hb,h.e.next hb,h.fn,h.fs,h.fe,h.an,h.asn⟩
theorem Grow.cut{G:Nat->Prop}(h:Grow W F b z vn vs ve ns ss es)(hg:∀k,k<W.heap.size->F k->G k):Grow W G b z vn vs ve ns ss es:=
 ⟨h.blk,hg b h.lt h.fb,h.n,h.s,h.e,fun k hk=>⟨hg k (h.n.low k hk) (h.fn k hk).1,(h.fn k hk).2⟩,fun k hk=>⟨hg k (h.s.low k hk) (h.fs k hk).1,(h.fs k hk).2⟩,fun k hk=>⟨hg k (h.e.low k hk) (h.fe k hk).1,(h.fe k hk).2⟩,h.an,h.asn⟩
theorem Grow.c0(h:Grow W F b z vn vs ve ns ss es):W.cell? ⟨b,0,none⟩=some (I0 z):=by simp[World.cell?,h.blk]
theorem Grow.c1(h:Grow W F b z vn vs ve ns ss es):W.cell? ⟨b,1,none⟩=some vn:=by simp[World.cell?,h.blk]
theorem Grow.c2(h:Grow W F b z vn vs ve ns ss es):W.cell? ⟨b,2,none⟩=some vs:=by simp[World.cell?,h.blk]
theorem Grow.c3(h:Grow W F b z vn vs ve ns ss es):W.cell? ⟨b,3,none⟩=some ve:=by simp[World.cell?,h.blk]
theorem Grow.fz(h:Grow W F b z vn vs ve ns ss es)(j:Nat):W.frozen? ⟨b,j,none⟩=false:=by simp[World.frozen?,h.blk]
theorem Grow.ev{ve':Value}{es':List Ev}(h:Grow W F b z vn vs ve ns ss es)(hF:∀k,W.heap.size<=k->F k)(hg:W.grownBy V ve.ownBlock)(he:BD V 0 ve' es')(hl:ve'.ownBlock=ve.ownBlock\/ve'.ownBlock=some W.heap.size):
  Grow (V.setCell ⟨b,3,none⟩ ve') F b z vn vs ve' ns ss es':=by
 have hbe:some b≠ve.ownBlock:=fun e=>(h.fe b e.symm).2 rfl;have hb:=h.lt;have hne:∀k,ve'.ownBlock=some k->F k/\k≠b/\vn.ownBlock≠some k/\vs.ownBlock≠some k:=by
  intro k hk;rcases hl with e|e
  .rw[e]at hk;exact⟨(h.fe k hk).1,(h.fe k hk).2,fun hn=>(h.an k hn).2 hk,fun hs=>h.asn k hs hk⟩
  .rw[e]at hk
   cases hk
   exact⟨hF _ (Nat.le_refl _),by omega,fun hn=>by have:=h.n.low _ hn;omega,fun hs=>by have:=h.s.low _ hs;omega⟩
 refine⟨?_,h.fb,?_,?_,?_,h.fn,h.fs,fun k hk=>⟨(hne k hk).1,(hne k hk).2.1⟩,fun k hk=>⟨(h.an k hk).1,fun e=>(hne k e).2.2.1 hk⟩,fun k hk e=>(hne k e).2.2.2 hk⟩
 .rw[AV ve' ((hg.block b hb hbe).trans h.blk)];rfl
 .exact(h.n.grown hg (fun k hk e=>(h.an k hk).2 e.symm)).other (fun e=>(h.fn b e).2 rfl) _
 .exact(h.s.grown hg (fun k hk e=>h.asn k hk e.symm)).other (fun e=>(h.fs b e).2 rfl) _
 .exact he.other (fun e=>(hne b e).2.1 rfl) _
theorem Grow.nd{vn':Value}{ns':List Nd}(h:Grow W F b z vn vs ve ns ss es)(hF:∀k,W.heap.size<=k->F k)(hg:W.grownBy V vn.ownBlock)(hn':BD V 0 vn' ns')(hl:vn'.ownBlock=vn.ownBlock\/∃k,W.heap.size<=k/\vn'.ownBlock=some k):
  Grow (V.setCell ⟨b,1,none⟩ vn') F b z vn' vs ve ns' ss es:=by
 have hbn:some b≠vn.ownBlock:=fun e=>(h.fn b e.symm).2 rfl;have hb:=h.lt;have hne:∀k,vn'.ownBlock=some k->F k/\k≠b/\vs.ownBlock≠some k/\ve.ownBlock≠some k:=by
  intro k hk;rcases hl with e|⟨j,hj,e⟩
  .rw[e]at hk;exact⟨(h.fn k hk).1,(h.fn k hk).2,(h.an k hk).1,(h.an k hk).2⟩
  .rw[e]at hk
   cases hk
   exact⟨hF _ hj,by omega,fun hs=>by have:=h.s.low _ hs;omega,fun hs=>by have:=h.e.low _ hs;omega⟩
 refine⟨?_,h.fb,?_,?_,?_,fun k hk=>⟨(hne k hk).1,(hne k hk).2.1⟩,h.fs,h.fe,fun k hk=>(hne k hk).2.2,h.asn⟩
 .rw[AV vn' ((hg.block b hb hbn).trans h.blk)];rfl
 .exact hn'.other (fun e=>(hne b e).2.1 rfl) _
 .exact(h.s.grown hg (fun k hk e=>(h.an k e.symm).1 hk)).other (fun e=>(h.fs b e).2 rfl) _
 .exact(h.e.grown hg (fun k hk e=>(h.an k e.symm).2 hk)).other (fun e=>(h.fe b e).2 rfl) _
theorem Grow.se{vs':Value}{ss':List Int}(h:Grow W F b z vn vs ve ns ss es)(hF:∀k,W.heap.size<=k->F k)(hg:W.grownBy V vs.ownBlock)(hn':BD V 0 vs' ss')(hl:vs'.ownBlock=vs.ownBlock\/∃k,W.heap.size<=k/\vs'.ownBlock=some k):
  Grow (V.setCell ⟨b,2,none⟩ vs') F b z vn vs' ve ns ss' es:=by
 have hbn:some b≠vs.ownBlock:=fun e=>(h.fs b e.symm).2 rfl;have hb:=h.lt;have hne:∀k,vs'.ownBlock=some k->F k/\k≠b/\vn.ownBlock≠some k/\ve.ownBlock≠some k:=by
  intro k hk;rcases hl with e|⟨j,hj,e⟩
  .rw[e]at hk;exact⟨(h.fs k hk).1,(h.fs k hk).2,fun hn=>(h.an k hn).1 hk,h.asn k hk⟩
  .rw[e]at hk
   cases hk
   exact⟨hF _ hj,by omega,fun hs=>by have:=h.n.low _ hs;omega,fun hs=>by have:=h.e.low _ hs;omega⟩
 refine⟨?_,h.fb,?_,?_,?_,h.fn,fun k hk=>⟨(hne k hk).1,(hne k hk).2.1⟩,h.fe,fun k hk=>⟨fun e=>(hne k e).2.2.1 hk,(h.an k hk).2⟩,fun k hk=>(hne k hk).2.2.2⟩
 .rw[AV vs' ((hg.block b hb hbn).trans h.blk)];rfl
 .exact(h.n.grown hg (fun k hk e=>(h.an k hk).1 e.symm)).other (fun e=>(h.fn b e).2 rfl) _
 .exact hn'.other (fun e=>(hne b e).2.1 rfl) _
 .exact(h.e.grown hg (fun k hk e=>h.asn k e.symm hk)).other (fun e=>(h.fe b e).2 rfl) _
theorem Grow.put{g cap:Nat}{A B:List Nd}{m:Nd}{l:Nat}(h:Grow W F b z (.slice (some ⟨g,0,none⟩) l cap) vs ve (A++n::B) ss es){c:Nat}(hc:c<9){v:Value}(hm:IE m=(IE n).set c v):
  Grow (W.setCell ⟨g,A.length*9+c,none⟩ v) F b z (.slice (some ⟨g,0,none⟩) l cap) vs ve (A++m::B) ss es:=by
 have hgb:=(h.fn g rfl).2;refine⟨(Below.heap_setCell W ⟨g,_,none⟩ v b (fun e=>hgb e.symm)).trans h.blk,h.fb,?_,?_,?_,h.fn,h.fs,h.fe,h.an,h.asn⟩
 .rcases h.n with⟨h1,_⟩|⟨g',cap',h1,h2,h3⟩
  .cases h1
  .simp only[Value.slice.injEq,Option.some.injEq,Addr.mk.injEq,and_true]at h1;obtain⟨rfl,rfl,rfl⟩:=h1;refine .inr ⟨g,cap,by simp,h2,?_⟩;exact h3.set (c:=c) (by exact hc) hm
 .exact h.s.other (fun e=>(h.an g rfl).1 e) _
 .exact h.e.other (fun e=>(h.an g rfl).2 e) _
theorem Grow.bF(h:Grow W F b z vn vs ve ns ss es)(h0:ns≠[]):∃g cap,vn=.slice (some ⟨g,0,none⟩) ns.length cap/\DY W g cap ns/\g≠b/\F g:=by
 rcases h.n with⟨_,h1⟩|⟨g,cap,rfl,_,h3⟩
 .exact absurd h1 h0
 .exact⟨g,cap,rfl,h3,(h.fn g rfl).2,(h.fn g rfl).1⟩
theorem xK{w:World}{ops:Array Oper}{o:Oper}{a:Act}{K:Act->World->Prop}{Q:Exit->Act->World->Prop}{E:Prop}(hgd:Region.wanted o (yielded ops a.tmps)=true)(s x:Operand)
  (ho:o.op=.call {callee:=.builtin .append,args:=#[s,x],argTypes:=#[50,50]})
  (v:Value) (es:List Ev) (hs:a.eval s=v) (hown:BD w 0 v es)
  (q:Nat) (hx:a.eval x=.slice (some ⟨q,0,none⟩) 1 1) (t:Ev) (hnews:EW w q t) (hl:es.length<=100000)
  (h:∀a' c' w',BD w' 0 (.slice a' (es.length+1) c') (es++[t])->w.grownBy w' v.ownBlock->((Value.slice a' (es.length+1) c').ownBlock=v.ownBlock\/(Value.slice a' (es.length+1) c').ownBlock=some w.heap.size)->K (a.put o.dst (.slice a' (es.length+1) c')) w'):
  if Region.wanted o (yielded ops a.tmps)=true then Oper.wp prog o a w K Q else E:=by
 rw[if_pos hgd];obtain⟨i0,hi0,hz0,hz1,hz2⟩:=CN4;obtain⟨v',w',hr,h2,h3,_,h5⟩:=run_append_own_at (P:=prog) w 0 50 o.type 67 i0 _ 2 24 underlying50 hi0 hz0 hz1 hz2 rfl (by decide) v es.length (AO es) hown.row ⟨q,0,none⟩ 1 1 (AP4 t) rfl (O7 hnews) (Lay.one t) (by simp only[maxLen];omega) (by omega) (Nat.zero_le _);have h2':BD w' 0 v' (es++[t]):=BD.G8 (by rw[List.length_append,EK];exact h2);obtain⟨a',c',rfl,_⟩:=h2'.slice;have hlen:(es++[t]).length=es.length+1:=by simp
 rw[hlen]at h2' hr h5;unfold Oper.wp execOp;simp only[ho,resolve,invoke,builtin,Sem.run_bind,Sem.run_pure,Result.andThen_ok,List.map_toArray,List.map_cons,List.map_nil,hs,hx,hr];exact h a' c' w' h2' h3 h5
theorem bG(F:Nat->Prop)(b:Nat)(z:Int)(vn vs ve:Value)(ns:List Nd)(ss:List Int)(es:List Ev)(kind:Int)(p:List UInt8)(w:World)
  (h:Grow w F b z vn vs ve ns ss es) (hF:∀k,w.heap.size<=k->F k) (hp:p.length<=140737488355328) (hl:es.length<=100000):
  Calls prog 88 #[P0 b,I0 kind,S0 p] w fun e w'=>
   e=.returned (.tuple #[])/\∃ve',Grow w' F b z vn vs ve' ns ss (es++[⟨kind,p⟩])/\Touch F w w':=by
 have C:=fun W=>JF p W (by omega);have c3:=h.c3;have f3:=h.fz 3;have HG:=AA h;have HF:=AA hF;obtain⟨ea,ec,rfl,_⟩:=h.e.slice;have K1:=AA (fun w1 (hb1:B0 w w1)=>(⟨(h.next hb1).c3,(h.next hb1).fz 3,(h.next hb1).lt,((h.next hb1).next (AB _ _)).c3⟩:w1.cell? ⟨b,3,none⟩=some (.slice ea es.length ec)/\w1.frozen? ⟨b,3,none⟩=false/\b<w1.heap.size/\(w1.alloc (.cells #[I0 kind,S0 p] 67)).cell? ⟨b,3,none⟩=some (.slice ea es.length ec)));have KE:=AA (fun w1 (hb1:B0 w w1)=>(h.next hb1).e.next (AB w1 (.cells #[I0 kind,S0 p] 67)));have K2:∀ (w1 w2:World) (a2:Option Addr) (c2:Nat),B0 w w1->BD w2 0 (.slice a2 (es.length+1) c2) (es++[⟨kind,p⟩])->(w1.alloc (.cells #[I0 kind,S0 p] 67)).grownBy w2 (Value.slice ea es.length ec).ownBlock->
   ((Value.slice a2 (es.length+1) c2).ownBlock=(Value.slice ea es.length ec).ownBlock\/(Value.slice a2 (es.length+1) c2).ownBlock=some (w1.alloc (.cells #[I0 kind,S0 p] 67)).heap.size)->
   w2.cell? ⟨b,3,none⟩=some (.slice ea es.length ec)/\w2.frozen? ⟨b,3,none⟩=false/\Grow (w2.setCell ⟨b,3,none⟩ (.slice a2 (es.length+1) c2)) F b z vn vs (.slice a2 (es.length+1) c2) ns ss (es++[⟨kind,p⟩])/\Touch F w (w2.setCell ⟨b,3,none⟩ (.slice a2 (es.length+1) c2)):=by
  intro w1 w2 a2 c2 hb1 ho2 hg2 hl2;have g1:=(h.next hb1).next (AB w1 (.cells #[I0 kind,S0 p] 67));have n3:¬ (Value.slice ea es.length ec).ownBlock=some b:=fun e=>(h.fe b e).2 rfl;refine⟨hg2.cell g1.c3 (fun e=>n3 e.symm),(World.frozen?_of_block (hg2.block b g1.lt (fun e=>n3 e.symm))).trans (g1.fz 3),g1.ev (fun k hk=>hF k (by have:=hb1.size;simp at hk;omega)) hg2 ho2 hl2,?_⟩;exact(((Touch.of_below hb1).trans (Touch.of_below (AB _ _))).trans (Touch.RD hg2 (fun k e=>(h.fe k e).1))).trans (Touch.set h.fb _)
 have HK2:=AA K2;clear h hF hp K2;go_enter func88,ntmps88;go_wp2_with fail
 go_region_law (first
  |(refine xK (by kernel_rfl) _ _ (by rfl) (.slice ea es.length ec) es (by rfl) (A8 KE w1 (A8 HB1)) w1.heap.size (by rfl) ⟨kind,p⟩ (wG w1 kind p) hl ?_;intro a2 c2 w2 ho2 hg2 hl2;obtain⟨m3,l3,g2,t2⟩:=A8 HK2 w1 w2 a2 c2 (A8 HB1) ho2 hg2 hl2;have HG2:=AA g2;have HT2:=AA t2;clear ho2 hg2 hl2 g2 t2)
  |(go_simp;refine(C _).mono ?_;rintro e w1 ⟨rfl,hb1⟩;have HB1:Hid (B0 w w1):=(by first|exact hb1|exact BK hb1);obtain⟨d3,k3,hbn,d3a⟩:=A8 K1 w1 (A8 HB1);clear hb1))
 all_goals go_wp2_with fail
 all_goals go_end0
 all_goals exact⟨rfl,_,A8 HG2,A8 HT2⟩
theorem eP(a:Addr)(cap:Nat)(ss:List Int)(w:World)(hl:ss.length<=2147483647)(hc:∀j u,(AO ss)[j]?=some u->w.cell? (a.add j)=some u):
  Calls prog 30 #[.slice (some a) ss.length cap] w fun e w'=>∃v',e=.returned v'/\BD w' w.heap.size v' ss/\B0 w w':=by
 have q22:∀ (w:World) (a:Option Addr) (n c n' c':Nat),(binOp .eql 38 (.slice a n c) (.slice none n' c')).run prog w=.ok (.bool a.isNone) w:=fun w a n c n' c'=>Lib.run_eql_slice_nil w _ _ a n c n' c' underlying38;have H:Hid (∀j u,(AO ss)[j]?=some u->w.cell? (a.add j)=some u):=hc;clear hc;obtain⟨i0,hi0,hz0,hz1,hz2⟩:=xE;go_enter func30,ntmps30;go_wp2_with (at_builtin;refine wpList_append_own _ rfl _ _ 38 rfl w.heap.size 3 i0 _ 1 8 underlying38 hi0 hz0 hz1 hz2 rfl (by decide) _ _ _ rfl (World.ownsRow_made w #[] 0 (Nat.le_refl _) (Nat.zero_le _) (by simp)) a ss.length cap (AO ss) rfl ?qc1 ?qc2 ?qc3 ?qc4 ?qc5 ?qc6 ?_)
 case qc1=>exact(DV ss).trans (Nat.mul_one _).symm
 case qc2=>
  intro j u hj;exact Lib.cell?_alloc_some _ (H.out j u hj)
 case qc3=>exact EZ ss
 case qc4=>simp only[maxLen];omega
 case qc5=>omega
 case qc6=>simp
 intro v' w1 hown hgrow hnil
 go_wp2
 go_ret;refine⟨v',rfl,BD.G8 hown,?_⟩;exact((Below.refl _ w).alloc (Nat.le_refl _) _).grown hgrow (by simp) (by intro k hk;simp[Value.ownBlock]at hk;omega)
theorem AD5(n c:Nat)(w:World):
  Calls prog 30 #[.slice none n c] w fun e w'=>e=.returned (N0)/\w'=w:=by
 have q22:∀ (w:World) (a:Option Addr) (n c n' c':Nat),(binOp .eql 38 (.slice a n c) (.slice none n' c')).run prog w=.ok (.bool a.isNone) w:=fun w a n c n' c'=>Lib.run_eql_slice_nil w _ _ a n c n' c' underlying38;go_enter func30,ntmps30
 go_wp2
 go_ret;exact⟨rfl,rfl⟩
theorem Z4(v:Value)(ss:List Int)(w:World)(hv:BQ w v ss)(hl:ss.length<=2147483647):
  Calls prog 30 #[v] w fun e w'=>∃v',e=.returned v'/\BD w' w.heap.size v' ss/\B0 w w':=by
 rcases hv with⟨a,cap,rfl,rfl,_⟩|⟨b,off,cap,rfl,_,_,hb,_,hr⟩
 .cases a with
  |none=>exact(AD5 0 cap w).mono fun e w' ⟨he,hw⟩=>⟨_,he,.inl ⟨rfl,rfl⟩,by rw[hw];exact Below.refl _ _⟩
  |some a=>exact eP a cap [] w (by simp) (fun j u h=>by simp[OG]at h)
 .exact eP ⟨b,off,none⟩ cap ss w hl (fun j u h=>by rw[Addr.add_lit];exact hr j u h)
theorem xM{w:World}{ops:Array Oper}{o:Oper}{a:Act}{K:Act->World->Prop}{Q:Exit->Act->World->Prop}{E:Prop}(hgd:Region.wanted o (yielded ops a.tmps)=true)(s x:Operand)
  (ho:o.op=.call {callee:=.builtin .append,args:=#[s,x],argTypes:=#[37,37]})
  (v:Value) (ns:List Nd) (hs:a.eval s=v) (hown:BD w 0 v ns)
  (q:Nat) (hx:a.eval x=.slice (some ⟨q,0,none⟩) 1 1) (t:Nd) (hnews:EW w q t) (hl:ns.length<=100000)
  (h:∀a' c' w',BD w' 0 (.slice a' (ns.length+1) c') (ns++[t])->w.grownBy w' v.ownBlock->((Value.slice a' (ns.length+1) c').ownBlock=v.ownBlock\/(Value.slice a' (ns.length+1) c').ownBlock=some w.heap.size)->K (a.put o.dst (.slice a' (ns.length+1) c')) w'):
  if Region.wanted o (yielded ops a.tmps)=true then Oper.wp prog o a w K Q else E:=by
 rw[if_pos hgd];obtain⟨i0,hi0,hz0,hz1,hz2⟩:=AD3;obtain⟨v',w',hr,h2,h3,_,h5⟩:=run_append_own_at (P:=prog) w 0 37 o.type 96 i0 _ 9 88 underlying37 hi0 hz0 hz1 hz2 rfl (by decide) v ns.length (AO ns) hown.row ⟨q,0,none⟩ 1 1 (IE t) rfl (O7 hnews) (Lay.one t) (by simp only[maxLen];omega) (by omega) (Nat.zero_le _);have h2':BD w' 0 v' (ns++[t]):=BD.G8 (by rw[List.length_append,EK];exact h2);obtain⟨a',c',rfl,_⟩:=h2'.slice;have hlen:(ns++[t]).length=ns.length+1:=by simp
 rw[hlen]at h2' hr h5;unfold Oper.wp execOp;simp only[ho,resolve,invoke,builtin,Sem.run_bind,Sem.run_pure,Result.andThen_ok,List.map_toArray,List.map_cons,List.map_nil,hs,hx,hr];exact h a' c' w' h2' h3 h5
theorem mV(w:World)(n:Nd):EW (w.alloc (.cells #[S0 n.p,S0 n.d,I0 n.c,I0 n.m,I0 n.q,I0 n.v,I0 n.k,I0 n.o,I0 n.n] 96)) w.heap.size n:=heap_alloc_new w _
theorem AS8(t:Tr)(vn vs:Value)(z:Int)(w:World)(hn:BQ w vn t.ns)(hs:BQ w vs t.ss)(hl:t.ns.length<=400)(hls:t.ss.length<=2147483647)(BW7:∀n∈t.ns,n.p.length<=140737488355328/\n.d.length<=140737488355328):
  Calls prog 33 #[.agg #[I0 t.z,vn,vs],I0 z] w fun e w'=>
   ∃b vn' vs',e=.returned (P0 b)/\Grow w' (fun k=>w.heap.size<=k) b z vn' vs' (N0) t.ns t.ss []/\B0 w w':=by
 have CC:=AA (fun n (hn:n∈t.ns) W=>WE n W (BW7 n hn).1 (BW7 n hn).2);have CI:=AA (fun W (hW:B0 w W)=>Z4 vs t.ss W (hs.next hW) hls);have KR:∀W,B0 w W->∀k x,t.ns[k]?=some x->∃b off cap,vn=.slice (some ⟨b,off,none⟩) t.ns.length cap/\b<w.heap.size/\BL W b off (AO t.ns):=fun W hW k x hx=>by
  obtain⟨b,off,cap,e,hb,hr,_,_⟩:=J7 hn (fun h0=>by obtain⟨h1,_⟩:=List.getElem?_eq_some_iff.1 hx;rw[h0]at h1;simp at h1);exact⟨b,off,cap,e,hb,hr.kept hW hb⟩
 have HKR:=AA KR;obtain⟨na,nc,rfl⟩:=AU hn;obtain⟨sa,sc,rfl⟩:=AU hs;clear hn hs BW7 KR;unfold PS at CC;have S0:∀W,W=(w.alloc (.cells #[I0 t.z,.slice na t.ns.length nc,.slice sa t.ss.length sc] 40)).alloc (.cells #[I0 z,N0,N0,N0] 106)->
   Grow W (fun k=>w.heap.size+1<=k) (w.heap.size+1) z (N0) (N0) (N0) [] [] []/\Touch (fun k=>w.heap.size+1<=k) (w.alloc (.cells #[I0 t.z,.slice na t.ns.length nc,.slice sa t.ss.length sc] 40)) W:=by
  rintro W rfl;refine⟨⟨?_,Nat.le_refl _,.inl ⟨rfl,rfl⟩,.inl ⟨rfl,rfl⟩,.inl ⟨rfl,rfl⟩,(by intro k hk;cases hk),(by intro k hk;cases hk),(by intro k hk;cases hk),(by intro k hk;cases hk),(by intro k hk;cases hk)⟩,?_⟩
  .have:=heap_alloc_new (w.alloc (.cells #[I0 t.z,.slice na t.ns.length nc,.slice sa t.ss.length sc] 40)) (.cells #[I0 z,N0,N0,N0] 106);rw[show (w.alloc (.cells #[I0 t.z,.slice na t.ns.length nc,.slice sa t.ss.length sc] 40)).heap.size=w.heap.size+1 by simp]at this;exact this
  .exact Touch.of_below (AB _ _)
 have HS0:=AA S0;have BX:∀W,Touch (fun k=>w.heap.size+1<=k) (w.alloc (.cells #[I0 t.z,.slice na t.ns.length nc,.slice sa t.ss.length sc] 40)) W->B0 w W/\W.cell? ⟨w.heap.size,2,none⟩=some (.slice sa t.ss.length sc)/\w.heap.size+1<=W.heap.size:=by
  intro W h;have hb:W.heap[w.heap.size]?=_:=(h.block w.heap.size (by simp) (by omega)).trans (heap_alloc_new w _);refine⟨(AB w _).trans (h.below (by simp) (fun k hk=>by omega)),by simp[World.cell?,hb],by have:=h.size;simpa using this⟩
 have HBX:=AA BX;clear S0 BX;go_enter func33,ntmps33;go_wp2_with fail
 go_loopg [18] t.ns.length (fun kx s18 wr=>∃ (k:Nat) (vn':Value),s18=I0 k/\k<=t.ns.length/\t.ns.length-k<=kx/\Hid (Grow wr (fun k=>w.heap.size+1<=k) (w.heap.size+1) z vn' (N0) (N0) (t.ns.take k) [] [])/\Hid (Touch (fun k=>w.heap.size+1<=k) (w.alloc (.cells #[I0 t.z,.slice na t.ns.length nc,.slice sa t.ss.length sc] 40)) wr))
 case atStart=>
  obtain⟨g0,t0⟩:=A8 HS0 _ rfl;exact⟨0,_,rfl,Nat.zero_le _,Nat.le_refl _,AA g0,AA t0⟩
 case round=>
  obtain⟨k,vn',rfl,hk,hg,hG,hT⟩:=hrel;obtain⟨hBw,hc2,hsz⟩:=A8 HBX wr (A8 hT);have HBw:=AA hBw;by_cases hlt:k<t.ns.length
  .obtain⟨x,hx⟩:∃x,t.ns[k]?=some x:=⟨_,List.getElem?_eq_getElem hlt⟩;obtain⟨b,off,cap,he,hb,q⟩:=A8 HKR wr hBw k x hx;simp only[Value.slice.injEq]at he;obtain⟨rfl,_,rfl⟩:=he;have d0:=q.n0 hx;have d1:=q.n1 hx;have d2:=q.n2 hx;have d3:=q.n3 hx;have d4:=q.n4 hx;have d5:=q.n5 hx;have d6:=q.n6 hx;have d7:=q.n7 hx;have d8:=q.n8 hx;have hbw:b<wr.heap.size:=by omega
   have CX:=fun W=>A8 CC x (List.mem_of_getElem? hx) W;have HT1:=AA (show t.ns.take (k+1)=t.ns.take k++[x] by rw[List.take_add_one,hx];rfl);have hlk:(t.ns.take k).length<=400:=by simp;omega
   obtain⟨P,hP⟩:∃P,t.ns.take k=P:=⟨_,rfl⟩;rw[hP]at hG hlk HT1;clear q hx hP;obtain⟨va,vc,rfl,_⟩:=(A8 hG).n.slice;have h:=A8 hG;have c1:=h.c1;have f1:=h.fz 1;have K1:=AA (fun w1 (hb1:B0 wr w1)=>(⟨(h.next hb1).c1,(h.next hb1).fz 1,(h.next hb1).lt,((h.next hb1).next (AB _ _)).c1⟩:w1.cell? ⟨w.heap.size+1,1,none⟩=some (.slice va P.length vc)/\w1.frozen? ⟨w.heap.size+1,1,none⟩=false/\w.heap.size+1<w1.heap.size/\(w1.alloc (.cells #[S0 x.p,S0 x.d,I0 x.c,I0 x.m,I0 x.q,I0 x.v,I0 x.k,I0 x.o,I0 x.n] 96)).cell? ⟨w.heap.size+1,1,none⟩=some (.slice va P.length vc)));have KE:=AA (fun w1 (hb1:B0 wr w1)=>(h.next hb1).n.next (AB w1 (.cells #[S0 x.p,S0 x.d,I0 x.c,I0 x.m,I0 x.q,I0 x.v,I0 x.k,I0 x.o,I0 x.n] 96)));have K2:∀ (w1 w2:World) (a2:Option Addr) (c2:Nat),B0 wr w1->BD w2 0 (.slice a2 (P.length+1) c2) (P++[x])->(w1.alloc (.cells #[S0 x.p,S0 x.d,I0 x.c,I0 x.m,I0 x.q,I0 x.v,I0 x.k,I0 x.o,I0 x.n] 96)).grownBy w2 (Value.slice va P.length vc).ownBlock->
     ((Value.slice a2 (P.length+1) c2).ownBlock=(Value.slice va P.length vc).ownBlock\/(Value.slice a2 (P.length+1) c2).ownBlock=some (w1.alloc (.cells #[S0 x.p,S0 x.d,I0 x.c,I0 x.m,I0 x.q,I0 x.v,I0 x.k,I0 x.o,I0 x.n] 96)).heap.size)->
     w2.cell? ⟨w.heap.size+1,1,none⟩=some (.slice va P.length vc)/\w2.frozen? ⟨w.heap.size+1,1,none⟩=false/\Grow (w2.setCell ⟨w.heap.size+1,1,none⟩ (.slice a2 (P.length+1) c2)) (fun k=>w.heap.size+1<=k) (w.heap.size+1) z (.slice a2 (P.length+1) c2) (N0) (N0) (P++[x]) [] []/\Touch (fun k=>w.heap.size+1<=k) wr (w2.setCell ⟨w.heap.size+1,1,none⟩ (.slice a2 (P.length+1) c2)):=by
    intro w1 w2 a2 c2 hb1 ho2 hg2 hl2;have g1:=(h.next hb1).next (AB w1 (.cells #[S0 x.p,S0 x.d,I0 x.c,I0 x.m,I0 x.q,I0 x.v,I0 x.k,I0 x.o,I0 x.n] 96));have n3:¬ (Value.slice va P.length vc).ownBlock=some (w.heap.size+1):=fun e=>(h.fn _ e).2 rfl;refine⟨hg2.cell g1.c1 (fun e=>n3 e.symm),(World.frozen?_of_block (hg2.block _ g1.lt (fun e=>n3 e.symm))).trans (g1.fz 1),g1.nd (fun k hk=>by have:=hb1.size;simp at hk;omega) hg2 ho2 ?_,?_⟩
    .rcases hl2 with e|e
     .exact .inl e
     .exact .inr ⟨_,Nat.le_refl _,e⟩
    .exact(((Touch.of_below hb1).trans (Touch.of_below (AB _ _))).trans (Touch.RD hg2 (fun k e=>(h.fn k e).1))).trans (Touch.set h.fb _)
   have HK2:=AA K2;have hbn:w.heap.size+1≠wr.heap.size:=by have:=h.lt;omega
   have hbl:=h.lt;clear h K2;go_wp2_with fail
   go_region_law (first
    |(refine xM (by kernel_rfl) _ _ (by rfl) (.slice va P.length vc) P (by rfl) (A8 KE w1 (A8 HB1)) w1.heap.size (by rfl) x (mV w1 x) (by omega) ?_;intro a2 c2 w2 ho2 hg2 hl2;obtain⟨m3,l3,g2,t2⟩:=A8 HK2 w1 w2 a2 c2 (A8 HB1) ho2 hg2 hl2;have HG2:=AA g2;have HT2:=AA ((A8 hT).trans t2);clear ho2 hg2 hl2 g2 t2)
    |(go_simp;refine(CX _).mono ?_;rintro e w1 ⟨rfl,hb1⟩;have HB1:Hid (B0 wr w1):=(by first|exact AY (BK hb1)|exact AY hb1);obtain⟨e3,k3,hbn2,d3a⟩:=A8 K1 w1 (A8 HB1);clear hb1))
   all_goals
    go_wp2_with fail
    go_roundg (t.ns.length-(k+1))
    case measure=>omega
    case rel=>exact⟨k+1,_,rfl,by omega,Nat.le_refl _,(by rw[A8 HT1];exact HG2),HT2⟩
  .obtain rfl:k=t.ns.length:=by omega
   clear hBw;go_wp2_with fail;refine(A8 CI wr (A8 HBw)).mono ?_;rintro e w1 ⟨vs',rfl,ho,hb1⟩;have h:=(A8 hG).next hb1;have c2:=h.c2;have f2:=h.fz 2;have g2:=(A8 hG).se (V:=w1) (vs':=vs') (ss':=t.ss) (fun k hk=>by omega) ⟨hb1.os,hb1.tape,hb1.output,hb1.size,fun k hk _=>hb1.block k hk⟩ (ho.lower (Nat.zero_le _)) (by
    rcases ho with⟨rfl,_⟩|⟨g,cap,rfl,hB,_⟩
    .exact .inl rfl
    .exact .inr ⟨g,hB,rfl⟩)
   have hne:w.heap.size+1≠w.heap.size:=by omega
   rw[List.take_length]at g2;have HG2:=AA (g2.cut (G:=fun k=>w.heap.size<=k) (fun k _ hk=>by omega));have HB2:=AA (AL (A8 HBw) hb1);obtain⟨sa',sc',rfl,_⟩:=ho.slice;clear h g2 ho hb1;go_wp2_with fail;go_ret;exact⟨w.heap.size+1,_,_,rfl,A8 HG2,(A8 HB2).setCell (by simp) _⟩
theorem QH(A:List Nd)(x:Nd)(B:List Nd):(A++x::B)[A.length]?=some x:=by simp
theorem eU(F:Nat->Prop)(b:Nat)(z:Int)(vn vs ve:Value)(ns A B:List Nd)(u:Nd)(ss:List Int)(es:List Ev)(p:List UInt8)(more:Int)(w:World)
  (h:Grow w F b z vn vs ve ns ss es) (T:FQ ns A u B p) (hl:ns.length<=400) (hk:u.k=2147483647):
  Calls prog 89 #[P0 b,S0 p,I0 more] w fun e w'=>e=.returned (I0 6)/\Touch F w w':=by
 have CF:=fun W (hW:B0 w W)=>FB vn ns A B u p W (h.n.next hW).seq (by omega) T;obtain⟨g,cap,rfl,hr,hgb,hFg⟩:=h.bF (by rw[T.eq];simp);have c1:=h.c1;have HG:=AA h;have HE:=AA T.eq;have hlt:A.length<ns.length:=by rw[T.eq];simp
 clear h hr T;go_enter func89,ntmps89;go_wp2_with fail;refine(CF _ (Below.refl _ _)).mono ?_;rintro e w1 ⟨rfl,hb1⟩;have g1:=(A8 HG).next hb1;have d1:=g1.c1;obtain⟨g',cap',he,hr,_,_⟩:=g1.bF (by rw[A8 HE];simp);simp only[Value.slice.injEq,Option.some.injEq,Addr.mk.injEq,and_true]at he;obtain⟨rfl,_,rfl⟩:=he;have r6:=hr.row.n6 (i:=A.length) (x:=u) (by rw[A8 HE];exact QH A u B);rw[hk,Nat.zero_add]at r6;have HB:=AA hb1;clear CF c1 g1 hr hb1;go_wp2_with fail;go_ret;exact⟨rfl,Touch.of_below (A8 HB)⟩
theorem rG(F:Nat->Prop)(b:Nat)(z:Int)(vn vs ve:Value)(ns A B:List Nd)(u:Nd)(ss:List Int)(es:List Ev)(p:List UInt8)(more:Int)(w:World)
  (h:Grow w F b z vn vs ve ns ss es) (hF:∀k,w.heap.size<=k->F k) (T:FQ ns A u B p) (hl:ns.length<=400) (hk:0<=u.k/\u.k<2147483647) (hn:0<=u.n/\u.n<=1000) (hm: -1<=more/\more<=1) (hp:p.length<=140737488355328) (hes:es.length<=99999):
  Calls prog 89 #[P0 b,S0 p,I0 more] w fun e w'=>e=.returned (I0 0)/\∃ve',Grow w' F b z vn vs ve' (A++bump z more u::B) ss (es++[⟨4,p⟩])/\Touch F w w':=by
 have CF:=fun W (hW:B0 w W)=>FB vn ns A B u p W (h.n.next hW).seq (by omega) T;obtain⟨g,cap,rfl,hr,hgb,hFg⟩:=h.bF (by rw[T.eq];simp);have c1:=h.c1;have HG:=AA h;have HE:=AA T.eq;have HF:=AA hF;have hlt:A.length<ns.length:=by rw[T.eq];simp
 clear h hr T hF;go_enter func89,ntmps89;go_wp2_with fail;refine(CF _ (Below.refl _ _)).mono ?_;rintro e w1 ⟨rfl,hb1⟩;have g1:=(A8 HG).next hb1;have d1:=g1.c1;have d0:=g1.c0;obtain⟨g',cap',he,hr,_,_⟩:=g1.bF (by rw[A8 HE];simp);simp only[Value.slice.injEq,Option.some.injEq,Addr.mk.injEq,and_true]at he;obtain⟨rfl,_,rfl⟩:=he;have at':ns[A.length]?=some u:=by rw[A8 HE];exact QH A u B
 have r4:=hr.row.n4 at';have r6:=hr.row.n6 at';have r8:=hr.row.n8 at';have z4:=hr.frozen (A.length*9+4);have z6:=hr.frozen (A.length*9+6);have z8:=hr.frozen (A.length*9+8);rw[Nat.zero_add]at r4 r6 r8;have hne:g≠b:=hgb;have hne':b≠g:=Ne.symm hgb;have hk1:=hk.1;have hk2:=hk.2;have hkn:¬u.k=2147483647:=by omega
 have g4:Grow (((w1.setCell ⟨g,A.length*9+8,none⟩ (I0 (u.n+more))).setCell ⟨g,A.length*9+6,none⟩ (I0 (u.k+1))).setCell ⟨g,A.length*9+4,none⟩ (I0 z)) F b z (.slice (some ⟨g,0,none⟩) ns.length cap) vs ve (A++bump z more u::B) ss es:=by
  have e0:=g1;rw[A8 HE]at e0;have e1:=e0.put (m:=⟨u.p,u.d,u.c,u.m,u.q,u.v,u.k,u.o,u.n+more⟩) (c:=8) (by omega) (v:=I0 (u.n+more)) rfl;have e2:=e1.put (m:=⟨u.p,u.d,u.c,u.m,u.q,u.v,u.k+1,u.o,u.n+more⟩) (c:=6) (by omega) (v:=I0 (u.k+1)) rfl;have e3:=e2.put (m:=bump z more u) (c:=4) (by omega) (v:=I0 z) rfl;rw[A8 HE];exact e3
 have T4:Touch F w (((w1.setCell ⟨g,A.length*9+8,none⟩ (I0 (u.n+more))).setCell ⟨g,A.length*9+6,none⟩ (I0 (u.k+1))).setCell ⟨g,A.length*9+4,none⟩ (I0 z)):=
  (((Touch.of_below hb1).trans (Touch.set hFg _)).trans (Touch.set hFg _)).trans (Touch.set hFg _)
 have CT:=fun W (hW:Grow W F b z (.slice (some ⟨g,0,none⟩) ns.length cap) vs ve (A++bump z more u::B) ss es) (hs:w.heap.size<=W.heap.size)=>bG F b z _ vs ve _ ss es 4 p W hW (fun k hk=>A8 HF k (by omega)) hp (by omega);have HG4:=AA g4;have HT4:=AA T4;have HCT:=AA CT;clear CF c1 g1 hr hb1 at' g4 T4 CT;go_wp2_with fail;refine(A8 HCT _ (A8 HG4) (A8 HT4).size).mono ?_;rintro e w5 ⟨rfl,ve',g5,t5⟩;have HG5:=AA g5;have HT5:=AA ((A8 HT4).trans t5);clear g5 t5;go_wp2_with fail;go_ret;exact⟨rfl,ve',A8 HG5,A8 HT5⟩
theorem AD6(F:Nat->Prop)(b:Nat)(z:Int)(vn vs ve:Value)(ns A B:List Nd)(ss:List Int)(es:List Ev)(p:List UInt8)(w:World)
  (h:Grow w F b z vn vs ve ns ss es) (G:jE ns A B p) (hl:ns.length<=400):
  Calls prog 60 #[P0 b,S0 p] w fun e w'=>e=.returned (I0 7)/\Touch F w w':=by
 have CF:=fun W (hW:B0 w W)=>JB vn ns A B p W (h.n.next hW).seq (by omega) G;have c1:=h.c1;obtain⟨na,nc,rfl,_⟩:=h.n.slice;clear h G;go_enter func60,ntmps60;go_wp2_with fail;refine(CF _ (Below.refl _ _)).mono ?_;rintro e w1 ⟨rfl,hb1⟩;clear CF;go_wp2_with fail;go_ret;exact⟨rfl,Touch.of_below hb1⟩
theorem xO(F:Nat->Prop)(b:Nat)(z:Int)(vn vs ve:Value)(ns A B:List Nd)(u:Nd)(ss:List Int)(es:List Ev)(p:List UInt8)(w:World)
  (h:Grow w F b z vn vs ve ns ss es) (T:FQ ns A u B p) (hl:ns.length<=400) (hk:u.n≠0):
  Calls prog 60 #[P0 b,S0 p] w fun e w'=>e=.returned (I0 10)/\Touch F w w':=by
 have CF:=fun W (hW:B0 w W)=>FB vn ns A B u p W (h.n.next hW).seq (by omega) T;obtain⟨g,cap,rfl,hr,hgb,hFg⟩:=h.bF (by rw[T.eq];simp);have c1:=h.c1;have HG:=AA h;have HE:=AA T.eq;have hlt:A.length<ns.length:=by rw[T.eq];simp
 clear h hr T;go_enter func60,ntmps60;go_wp2_with fail;refine(CF _ (Below.refl _ _)).mono ?_;rintro e w1 ⟨rfl,hb1⟩;have g1:=(A8 HG).next hb1;have d1:=g1.c1;obtain⟨g',cap',he,hr,_,_⟩:=g1.bF (by rw[A8 HE];simp);simp only[Value.slice.injEq,Option.some.injEq,Addr.mk.injEq,and_true]at he;obtain⟨rfl,_,rfl⟩:=he;have r8:=hr.row.n8 (i:=A.length) (x:=u) (by rw[A8 HE];exact QH A u B);rw[Nat.zero_add]at r8;have hk':(u.n !=0)=true:=by simpa using hk
 have HB:=AA hb1;clear CF c1 g1 hr hb1 hk;go_wp2_with fail;go_ret;exact⟨rfl,Touch.of_below (A8 HB)⟩
theorem eX(F:Nat->Prop)(b:Nat)(z:Int)(vn vs ve:Value)(ns A B:List Nd)(n:Nd)(ss:List Int)(es:List Ev)(p:List UInt8)(w:World)(E:Int)(Post:World->Prop)
  (h:Grow w F b z vn vs ve ns ss es) (hF:∀k,w.heap.size<=k->F k) (T:FQ ns A n B p) (hl:ns.length<=400) (hk:n.n=0) (hp:p.length<=140737488355328) (hes:es.length<=99998)
  (hpar:∀W vn' ve',Grow W F b z vn' vs ve' (A++B) ss (es++[⟨2,p⟩])->w.heap.size<=W.heap.size->Touch F w W->Calls prog 89 #[P0 b,S0 (BU p),I0 (-1)] W fun e w'=>e=.returned (I0 E)/\Post w'):
  Calls prog 60 #[P0 b,S0 p] w fun e w'=>e=.returned (I0 E)/\Post w':=by
 have CF:=fun W (hW:B0 w W)=>FB vn ns A B n p W (h.n.next hW).seq (by omega) T;obtain⟨g,cap,rfl,hr,hgb,hFg⟩:=h.bF (by rw[T.eq];simp);have c1:=h.c1;have HG:=AA h;have HE:=AA T.eq;have HF:=AA hF;have HP:=AA hpar;have hlen:ns.length=A.length+B.length+1:=by rw[T.eq];simp;omega
 have hlt:A.length<ns.length:=by omega
 have HL:=AA hlen;have CD:=fun W (ho:DY W g cap (A++n::B))=>xA g cap A B n ns.length W ho (A8 HL) hl;have CS:=fun W=>JA p W;have HCD:=AA CD;have HCS:=AA CS;clear h hr T hF hpar CD CS hlen;go_enter func60,ntmps60;go_wp2_with fail;refine(CF _ (Below.refl _ _)).mono ?_;rintro e w1 ⟨rfl,hb1⟩;have g1:=(A8 HG).next hb1;have d1:=g1.c1;obtain⟨g',cap',he,hr,_,_⟩:=g1.bF (by rw[A8 HE];simp);simp only[Value.slice.injEq,Option.some.injEq,Addr.mk.injEq,and_true]at he;obtain⟨rfl,_,rfl⟩:=he;have r8:=hr.row.n8 (i:=A.length) (x:=n) (by rw[A8 HE];exact QH A n B);rw[Nat.zero_add,hk]at r8;have HB:=AA hb1;have HG1:=AA g1;have HR:=AA (show DY w1 g cap (A++n::B) by rw[<-A8 HE];exact hr);clear CF c1 g1 hr hb1;go_wp2_with fail;rw[show ((A.length:Int)+1)=((A.length+1:Nat):Int)from by omega];refine(A8 HCD _ (A8 HR)).mono ?_;rintro e w2 ⟨rfl,ho2,hg2⟩;have m1:w2.cell? ⟨b,1,none⟩=some (.slice (some ⟨g,0,none⟩) ns.length cap):=hg2.cell d1 (fun e=>hgb (Option.some.inj e).symm);have l1:w2.frozen? ⟨b,1,none⟩=false:=(World.frozen?_of_block (hg2.block b (A8 HG1).lt (fun e=>hgb (Option.some.inj e).symm))).trans ((A8 HG1).fz 1);have g2:=(A8 HG1).nd (vn':=.slice (some ⟨g,0,none⟩) (A.length+B.length) cap) (ns':=A++B) (fun k hk=>A8 HF k (by have:=(A8 HB).size;omega)) hg2 (.inr ⟨g,cap,by rw[List.length_append],Nat.zero_le _,ho2⟩) (.inl rfl);have t2:Touch F w (w2.setCell ⟨b,1,none⟩ (.slice (some ⟨g,0,none⟩) (A.length+B.length) cap)):=((Touch.of_below (A8 HB)).trans (Touch.RD hg2 (fun k e=>by cases e;exact hFg))).trans (Touch.set g2.fb _);have HG2:=AA g2;have HT2:=AA t2;clear g2 t2 ho2 hg2 d1 r8 HR;go_wp2_with fail;refine(bG F b z _ vs ve _ ss es 2 p _ (A8 HG2) (fun k hk=>A8 HF k (by have:=(A8 HT2).size;omega)) hp (by omega)).mono ?_;rintro e w3 ⟨rfl,ve',g3,t3⟩;have HG3:=AA g3;have HT3:=AA ((A8 HT2).trans t3);clear g3 t3 m1 l1;go_wp2_with fail;refine(A8 HCS _).mono ?_;rintro e w4 ⟨rfl,hb4⟩;have HG4:=AA ((A8 HG3).next hb4);have HT4:=AA ((A8 HT3).trans (Touch.of_below hb4));clear hb4;go_wp2_with fail;refine(A8 HP _ _ _ (A8 HG4) (A8 HT4).size (A8 HT4)).mono ?_;rintro e w5 ⟨rfl,hp5⟩;have HP5:=AA hp5;clear hp5;go_wp2_with fail;go_ret;exact⟨rfl,A8 HP5⟩
theorem rH(F:Nat->Prop)(b:Nat)(z:Int)(vn vs ve:Value)(ns A B A' B':List Nd)(n u:Nd)(ss:List Int)(es:List Ev)(p:List UInt8)(w:World)
  (h:Grow w F b z vn vs ve ns ss es) (hF:∀k,w.heap.size<=k->F k) (T:FQ ns A n B p) (T':FQ (A++B) A' u B' (BU p)) (hl:ns.length<=400) (hk:n.n=0) (hu:0<=u.k/\u.k<2147483647) (hn:0<=u.n/\u.n<=1000) (hp:p.length<=140737488355328) (hd:(BU p).length<=140737488355328) (hes:es.length<=99998):
  Calls prog 60 #[P0 b,S0 p] w fun e w'=>e=.returned (I0 0)/\∃vn' ve',Grow w' F b z vn' vs ve' (rmN z ns p) ss (es++[⟨2,p⟩,⟨4,BU p⟩])/\Touch F w w':=by
 refine eX F b z vn vs ve ns A B n ss es p w 0 _ h hF T hl hk hp hes (fun W vn' ve' hG hs ht=>?_);have hlen:(A++B).length<=400:=by have:=congrArg List.length T.eq;simp at this⊢;omega
 refine(rG F b z vn' vs ve' (A++B) A' B' u ss _ (BU p) (-1) W hG (fun k hk=>hF k (by omega)) T' hlen hu hn (by omega) hd (by simp;omega)).mono ?_;rintro e w' ⟨rfl,ve2,g,t⟩;refine⟨rfl,vn',ve2,?_,ht.trans t⟩;rw[rmN,T.drop,T'.bump];simpa using g
theorem eY(F:Nat->Prop)(b:Nat)(z:Int)(vn vs ve:Value)(ns A B A' B':List Nd)(n u:Nd)(ss:List Int)(es:List Ev)(p:List UInt8)(w:World)
  (h:Grow w F b z vn vs ve ns ss es) (hF:∀k,w.heap.size<=k->F k) (T:FQ ns A n B p) (T':FQ (A++B) A' u B' (BU p)) (hl:ns.length<=400) (hk:n.n=0) (hu:u.k=2147483647) (hp:p.length<=140737488355328) (hes:es.length<=99998):
  Calls prog 60 #[P0 b,S0 p] w fun e w'=>e=.returned (I0 6)/\Touch F w w':=by
 refine eX F b z vn vs ve ns A B n ss es p w 6 _ h hF T hl hk hp hes (fun W vn' ve' hG hs ht=>?_);have hlen:(A++B).length<=400:=by have:=congrArg List.length T.eq;simp at this⊢;omega
 refine(eU F b z vn' vs ve' (A++B) A' B' u ss _ (BU p) (-1) W hG T' hlen hu).mono ?_;rintro e w' ⟨rfl,t⟩;exact⟨rfl,ht.trans t⟩
theorem BW8(F:Nat->Prop)(b:Nat)(z:Int)(vn vs ve:Value)(ns A B:List Nd)(ss:List Int)(es:List Ev)(x:AQ)(w:World)
  (h:Grow w F b z vn vs ve ns ss es) (G:jE ns A B x.p) (hl:ns.length<=400):
  Calls prog 61 #[P0 b,DW x] w fun e w'=>e=.returned (I0 7)/\Touch F w w':=by
 obtain⟨xz,xo,xs,xp,xd,xv,xw⟩:=x;simp only at G;have CF:=fun W (hW:B0 w W)=>JB vn ns A B xp W (h.n.next hW).seq (by omega) G;have c1:=h.c1;have hbl:=h.lt;obtain⟨na,nc,rfl,_⟩:=h.n.slice;clear h G;unfold DW;go_enter func61,ntmps61;go_wp2_with fail
 go_region_law (first
  |(go_simp;refine(CF _ (by first|exact((Below.refl w.heap.size w).alloc (Nat.le_refl _) _).drew|exact(Below.refl w.heap.size w).alloc (Nat.le_refl _) _)).mono ?_;rintro e w1 ⟨rfl,hb1⟩;have HB1:Hid (B0 w w1):=(by first|exact AY (BK hb1)|exact AY hb1);clear hb1))
 all_goals go_wp2_with fail
 all_goals go_ret
 all_goals exact⟨rfl,Touch.of_below (A8 HB1)⟩
theorem CB6(F:Nat->Prop)(b:Nat)(z:Int)(vn vs ve:Value)(ns A B:List Nd)(n:Nd)(ss:List Int)(es:List Ev)(x:AQ)(w:World)
  (h:Grow w F b z vn vs ve ns ss es) (hF:∀k,w.heap.size<=k->F k) (T:FQ ns A n B x.p) (hl:ns.length<=400) (hv:0<=n.v/\n.v<=2147483647) (hp:x.p.length<=140737488355328) (hd:x.d.length<=140737488355328) (hes:es.length<=99999) (hx:x.v=n.v+1):
  Calls prog 61 #[P0 b,DW x] w fun e w'=>
   e=.returned (I0 0)/\∃ve',Grow w' F b z vn vs ve' (A++⟨n.p,x.d,n.c,x.z,n.q,x.v,n.k,n.o,n.n⟩::B) ss (es++[⟨3,x.p⟩])/\Touch F w w':=by
 obtain⟨xz,xo,xs,xp,xd,xv,xw⟩:=x;simp only at T hp hd hx⊢;have hxb:(xv !=n.v+1)=false:=by simpa using hx
 clear hx;have CF:=fun W (hW:B0 w W)=>FB vn ns A B n xp W (h.n.next hW).seq (by omega) T;have CC:=fun W=>JF xd W (by omega);obtain⟨g,cap,rfl,hr,hgb,hFg⟩:=h.bF (by rw[T.eq];simp);have hgl:=hr.lt;have c1:=h.c1;have hbl:=h.lt;have HG:=AA h;have HE:=AA T.eq;have HF:=AA hF;have hlt:A.length<ns.length:=by rw[T.eq];simp
 have hv1:=hv.1;have hv2:=hv.2;have KX:∀w1,Below (w.alloc (.cells #[I0 xz,I0 xo,I0 xs,S0 xp,S0 xd,I0 xv,I0 xw] 49)).heap.size (w.alloc (.cells #[I0 xz,I0 xo,I0 xs,S0 xp,S0 xd,I0 xv,I0 xw] 49)) w1->TAt w1 w.heap.size ⟨xz,xo,xs,xp,xd,xv,xw⟩:=fun w1 h1=>(TAt.new w ⟨xz,xo,xs,xp,xd,xv,xw⟩).next h1;have HKX:=AA KX;clear h hr T hF KX;unfold DW;go_enter func61,ntmps61;go_wp2_with fail
 go_region_law (first
  |(go_simp;refine(CF _ (by first|exact((Below.refl w.heap.size w).alloc (Nat.le_refl _) _).drew|exact(Below.refl w.heap.size w).alloc (Nat.le_refl _) _)).mono ?_;rintro e w1 ⟨rfl,hb1⟩;have HBd:=AA hb1;clear hb1))
 all_goals
  have HB0:=AA (BK (A8 HBd));clear CF;have HB1:=AA (AY (A8 HB0));have tx:=A8 HKX w1 (A8 HB0);have t0:=tx.c0;have t3:=tx.c3;have t4:=tx.c4;have t5:=tx.c5;have HTX:=AA tx;have g1:=(A8 HG).next (A8 HB1);have d1:=g1.c1;have hsz1:=(A8 HB1).size;have hszx:=tx.lt;obtain⟨g',cap',he,hr,_,_⟩:=g1.bF (by rw[A8 HE];simp);simp only[Value.slice.injEq,Option.some.injEq,Addr.mk.injEq,and_true]at he;obtain⟨rfl,_,rfl⟩:=he;have at':ns[A.length]?=some n:=by rw[A8 HE];exact QH A n B
  have r5:=hr.row.n5 at';rw[Nat.zero_add]at r5;have HG1:=AA g1;clear g1 hr at' tx;go_wp2_with fail;go_region;go_wp2_with fail;refine(CC _).mono ?_;rintro e w2 ⟨rfl,hb2⟩;have hb2':=BK hb2;have g2:=(A8 HG1).next hb2';obtain⟨g',cap',he,hr,_,_⟩:=g2.bF (by rw[A8 HE];simp);simp only[Value.slice.injEq,Option.some.injEq,Addr.mk.injEq,and_true]at he;obtain⟨rfl,_,rfl⟩:=he;have at':ns[A.length]?=some n:=by rw[A8 HE];exact QH A n B
  have r1:=hr.row.n1 at';have r3:=hr.row.n3 at';have r5':=hr.row.n5 at';have z1:=hr.frozen (A.length*9+1);have z3:=hr.frozen (A.length*9+3);have z5:=hr.frozen (A.length*9+5);rw[Nat.zero_add]at r1 r3 r5';have tx2:=(A8 HTX).next hb2';have y0:=tx2.c0;have y3:=tx2.c3;have y5:=tx2.c5;have hne:g≠w.heap.size:=by omega
  have hne':w.heap.size≠g:=by omega
  have g4:Grow (((w2.setCell ⟨g,A.length*9+1,none⟩ (S0 xd)).setCell ⟨g,A.length*9+5,none⟩ (I0 xv)).setCell ⟨g,A.length*9+3,none⟩ (I0 xz)) F b z (.slice (some ⟨g,0,none⟩) ns.length cap) vs ve (A++⟨n.p,xd,n.c,xz,n.q,xv,n.k,n.o,n.n⟩::B) ss es:=by
   have e0:=g2;rw[A8 HE]at e0;have e1:=e0.put (m:=⟨n.p,xd,n.c,n.m,n.q,n.v,n.k,n.o,n.n⟩) (c:=1) (by omega) (v:=S0 xd) rfl;have e2:=e1.put (m:=⟨n.p,xd,n.c,n.m,n.q,xv,n.k,n.o,n.n⟩) (c:=5) (by omega) (v:=I0 xv) rfl;have e3:=e2.put (m:=⟨n.p,xd,n.c,xz,n.q,xv,n.k,n.o,n.n⟩) (c:=3) (by omega) (v:=I0 xz) rfl;rw[A8 HE];exact e3
  have T4:Touch F w (((w2.setCell ⟨g,A.length*9+1,none⟩ (S0 xd)).setCell ⟨g,A.length*9+5,none⟩ (I0 xv)).setCell ⟨g,A.length*9+3,none⟩ (I0 xz)):=
   ((((Touch.of_below (A8 HB1)).trans (Touch.of_below hb2')).trans (Touch.set hFg _)).trans (Touch.set hFg _)).trans (Touch.set hFg _)
  have HG4:=AA g4;have HT4:=AA T4;have CT:=fun W (hW:Grow W F b z (.slice (some ⟨g,0,none⟩) ns.length cap) vs ve (A++⟨n.p,xd,n.c,xz,n.q,xv,n.k,n.o,n.n⟩::B) ss es) (hs:w.heap.size<=W.heap.size)=>bG F b z _ vs ve _ ss es 3 xp W hW (fun k hk=>A8 HF k (by omega)) hp (by omega);have HCT:=AA CT;clear CC g2 hr hb2 hb2' at' g4 T4 CT tx2 t0 t3 t4 t5 d1 r5;go_wp2_with fail;refine(A8 HCT _ (A8 HG4) (A8 HT4).size).mono ?_;rintro e w5 ⟨rfl,ve',g5,t5⟩;have HG5:=AA g5;have HT5:=AA ((A8 HT4).trans t5);clear g5 t5;go_wp2_with fail;go_ret;exact⟨rfl,ve',A8 HG5,A8 HT5⟩
theorem BW9(F:Nat->Prop)(b:Nat)(z:Int)(vn vs ve:Value)(ns A B:List Nd)(n:Nd)(ss:List Int)(es:List Ev)(x:AQ)(w:World)
  (h:Grow w F b z vn vs ve ns ss es) (hF:∀k,w.heap.size<=k->F k) (T:FQ ns A n B x.p) (hl:ns.length<=400) (hv:0<=n.v/\n.v<=2147483647) (hp:x.p.length<=140737488355328) (hd:x.d.length<=140737488355328) (_hes:es.length<=99999) (hx:x.v≠n.v+1):
  Calls prog 61 #[P0 b,DW x] w fun e w'=>
   e=.returned (I0 9)/\Touch F w w':=by
 obtain⟨xz,xo,xs,xp,xd,xv,xw⟩:=x;simp only at T hp hd hx⊢;have hxb:(xv !=n.v+1)=true:=by simpa using hx
 clear hx;have CF:=fun W (hW:B0 w W)=>FB vn ns A B n xp W (h.n.next hW).seq (by omega) T;have CC:=fun W=>JF xd W (by omega);obtain⟨g,cap,rfl,hr,hgb,hFg⟩:=h.bF (by rw[T.eq];simp);have hgl:=hr.lt;have c1:=h.c1;have hbl:=h.lt;have HG:=AA h;have HE:=AA T.eq;have HF:=AA hF;have hlt:A.length<ns.length:=by rw[T.eq];simp
 have hv1:=hv.1;have hv2:=hv.2;have KX:∀w1,Below (w.alloc (.cells #[I0 xz,I0 xo,I0 xs,S0 xp,S0 xd,I0 xv,I0 xw] 49)).heap.size (w.alloc (.cells #[I0 xz,I0 xo,I0 xs,S0 xp,S0 xd,I0 xv,I0 xw] 49)) w1->TAt w1 w.heap.size ⟨xz,xo,xs,xp,xd,xv,xw⟩:=fun w1 h1=>(TAt.new w ⟨xz,xo,xs,xp,xd,xv,xw⟩).next h1;have HKX:=AA KX;clear h hr T hF KX;unfold DW;go_enter func61,ntmps61;go_wp2_with fail
 go_region_law (first
  |(go_simp;refine(CF _ (by first|exact((Below.refl w.heap.size w).alloc (Nat.le_refl _) _).drew|exact(Below.refl w.heap.size w).alloc (Nat.le_refl _) _)).mono ?_;rintro e w1 ⟨rfl,hb1⟩;have HBd:=AA hb1;clear hb1))
 all_goals
  have HB0:=AA (BK (A8 HBd));clear CF;have HB1:=AA (AY (A8 HB0));have tx:=A8 HKX w1 (A8 HB0);have t0:=tx.c0;have t3:=tx.c3;have t4:=tx.c4;have t5:=tx.c5;have HTX:=AA tx;have g1:=(A8 HG).next (A8 HB1);have d1:=g1.c1;have hsz1:=(A8 HB1).size;have hszx:=tx.lt;obtain⟨g',cap',he,hr,_,_⟩:=g1.bF (by rw[A8 HE];simp);simp only[Value.slice.injEq,Option.some.injEq,Addr.mk.injEq,and_true]at he;obtain⟨rfl,_,rfl⟩:=he;have at':ns[A.length]?=some n:=by rw[A8 HE];exact QH A n B
  have r5:=hr.row.n5 at';rw[Nat.zero_add]at r5;have HG1:=AA g1;clear g1 hr at' tx;go_wp2_with fail;go_region;go_wp2_with fail;go_ret;exact⟨rfl,(Touch.of_below (A8 HB1)).drew⟩
theorem AS9(F:Nat->Prop)(b:Nat)(z:Int)(vn vs ve:Value)(ns:List Nd)(A B:List Nd)(n:Nd)(ss:List Int)(es:List Ev)(x:AQ)(w:World)
  (h:Grow w F b z vn vs ve ns ss es) (T:FQ ns A n B x.p) (hl:ns.length<=400) (ha:oQ ns):
  Calls prog 59 #[P0 b,DW x] w fun e w'=>e=.returned (I0 8)/\Touch F w w':=by
 obtain⟨xz,xo,xs,xp,xd,xv,xw⟩:=x;simp only at T;have CF:=fun W (hW:B0 w W)=>FB vn ns A B n xp W (h.n.next hW).seq (by omega) T;have HCS:=AA (fun W=>JA xp W);have HCG:=AA (fun W (hW:B0 w W)=>qW vn ns (BU xp) W (h.n.next hW).seq (by omega) ha);have KX:∀w1,Below (w.alloc (.cells #[I0 xz,I0 xo,I0 xs,S0 xp,S0 xd,I0 xv,I0 xw] 49)).heap.size (w.alloc (.cells #[I0 xz,I0 xo,I0 xs,S0 xp,S0 xd,I0 xv,I0 xw] 49)) w1->TAt w1 w.heap.size ⟨xz,xo,xs,xp,xd,xv,xw⟩:=fun w1 h1=>(TAt.new w ⟨xz,xo,xs,xp,xd,xv,xw⟩).next h1;have HKX:=AA KX;have c1:=h.c1;have hbl:=h.lt;obtain⟨na,nc,rfl,_⟩:=h.n.slice;have HG:=AA h;clear h T ha KX;unfold DW;go_enter func59,ntmps59;go_wp2_with fail
 go_region_law (first
  |(go_simp;refine(CF _ (by first|exact((Below.refl w.heap.size w).alloc (Nat.le_refl _) _).drew|exact(Below.refl w.heap.size w).alloc (Nat.le_refl _) _)).mono ?_;rintro e w1 ⟨rfl,hb1⟩;have HBd:=AA hb1;clear hb1))
 all_goals
  have HB0:=AA (BK (A8 HBd));clear CF;have HB1:=AA (AY (A8 HB0));have tx:=A8 HKX w1 (A8 HB0);have t3:=tx.c3;have HTX:=AA tx;have g1:=(A8 HG).next (A8 HB1);have HG1:=AA g1;clear g1 tx c1;go_wp2_with fail;refine(A8 HCS _).mono ?_;rintro e w2 ⟨rfl,hb2⟩;have HB2:=AA (AL (A8 HB1) hb2);have tx2:=(A8 HTX).next hb2;have g2:=(A8 HG1).next hb2;have e1:=g2.c1;have xP:=AA tx2;have HG2:=AA g2;clear tx2 g2 hb2 t3;go_wp2_with fail;obtain⟨j,_,C2⟩:=A8 HCG _ (A8 HB2);refine C2.mono ?_;rintro e w3 ⟨rfl,hb3⟩;have HB3:=AA (AL (A8 HB2) hb3);go_wp2_with fail;go_ret;exact⟨rfl,Touch.of_below (A8 HB3)⟩
theorem BD3(F:Nat->Prop)(b:Nat)(z:Int)(vn vs ve:Value)(ns:List Nd)(A B A' B':List Nd)(ss:List Int)(es:List Ev)(x:AQ)(w:World)
  (h:Grow w F b z vn vs ve ns ss es) (G:jE ns A B x.p) (U:jE ns A' B' (BU x.p)) (hl:ns.length<=400):
  Calls prog 59 #[P0 b,DW x] w fun e w'=>e=.returned (I0 7)/\Touch F w w':=by
 obtain⟨xz,xo,xs,xp,xd,xv,xw⟩:=x;simp only at G U;have CF:=fun W (hW:B0 w W)=>JB vn ns A B xp W (h.n.next hW).seq (by omega) G;have HCS:=AA (fun W=>JA xp W);have HCG:=AA (fun W (hW:B0 w W)=>JB vn ns A' B' (BU xp) W (h.n.next hW).seq (by omega) U);have KX:∀w1,Below (w.alloc (.cells #[I0 xz,I0 xo,I0 xs,S0 xp,S0 xd,I0 xv,I0 xw] 49)).heap.size (w.alloc (.cells #[I0 xz,I0 xo,I0 xs,S0 xp,S0 xd,I0 xv,I0 xw] 49)) w1->TAt w1 w.heap.size ⟨xz,xo,xs,xp,xd,xv,xw⟩:=fun w1 h1=>(TAt.new w ⟨xz,xo,xs,xp,xd,xv,xw⟩).next h1;have HKX:=AA KX;have c1:=h.c1;have hbl:=h.lt;obtain⟨na,nc,rfl,_⟩:=h.n.slice;have HG:=AA h;clear h G U KX;unfold DW;go_enter func59,ntmps59;go_wp2_with fail
 go_region_law (first
  |(go_simp;refine(CF _ (by first|exact((Below.refl w.heap.size w).alloc (Nat.le_refl _) _).drew|exact(Below.refl w.heap.size w).alloc (Nat.le_refl _) _)).mono ?_;rintro e w1 ⟨rfl,hb1⟩;have HBd:=AA hb1;clear hb1))
 all_goals
  have HB0:=AA (BK (A8 HBd));clear CF;have HB1:=AA (AY (A8 HB0));have tx:=A8 HKX w1 (A8 HB0);have t3:=tx.c3;have HTX:=AA tx;have g1:=(A8 HG).next (A8 HB1);have HG1:=AA g1;clear g1 tx c1;go_wp2_with fail;refine(A8 HCS _).mono ?_;rintro e w2 ⟨rfl,hb2⟩;have HB2:=AA (AL (A8 HB1) hb2);have tx2:=(A8 HTX).next hb2;have g2:=(A8 HG1).next hb2;have e1:=g2.c1;have xP:=AA tx2;have HG2:=AA g2;clear tx2 g2 hb2 t3;go_wp2_with fail;refine(A8 HCG _ (A8 HB2)).mono ?_;rintro e w3 ⟨rfl,hb3⟩;have HB3:=AA (AL (A8 HB2) hb3);go_wp2_with fail;go_ret;exact⟨rfl,Touch.of_below (A8 HB3)⟩
theorem AT0(F:Nat->Prop)(b:Nat)(z:Int)(vn vs ve:Value)(ns:List Nd)(A B A' B':List Nd)(u:Nd)(ss:List Int)(es:List Ev)(x:AQ)(w:World)
  (h:Grow w F b z vn vs ve ns ss es) (G:jE ns A B x.p) (U:FQ ns A' u B' (BU x.p)) (hl:ns.length<=400) (ho:u.o≠0):
  Calls prog 59 #[P0 b,DW x] w fun e w'=>e=.returned (I0 11)/\Touch F w w':=by
 obtain⟨xz,xo,xs,xp,xd,xv,xw⟩:=x;simp only at G U;have CF:=fun W (hW:B0 w W)=>JB vn ns A B xp W (h.n.next hW).seq (by omega) G;have HCS:=AA (fun W=>JA xp W);have HCG:=AA (fun W (hW:B0 w W)=>FB vn ns A' B' u (BU xp) W (h.n.next hW).seq (by omega) U);have KX:∀w1,Below (w.alloc (.cells #[I0 xz,I0 xo,I0 xs,S0 xp,S0 xd,I0 xv,I0 xw] 49)).heap.size (w.alloc (.cells #[I0 xz,I0 xo,I0 xs,S0 xp,S0 xd,I0 xv,I0 xw] 49)) w1->TAt w1 w.heap.size ⟨xz,xo,xs,xp,xd,xv,xw⟩:=fun w1 h1=>(TAt.new w ⟨xz,xo,xs,xp,xd,xv,xw⟩).next h1;have HKX:=AA KX;have c1:=h.c1;have hbl:=h.lt;obtain⟨g,cap,rfl,hr,hgb,hFg⟩:=h.bF (by rw[U.eq];simp);have HG:=AA h;have HE:=AA U.eq;have hlt:A'.length<ns.length:=by rw[U.eq];simp
 have hob:(u.o !=0)=true:=by simpa using ho
 clear h G U KX ho hr;unfold DW;go_enter func59,ntmps59;go_wp2_with fail
 go_region_law (first
  |(go_simp;refine(CF _ (by first|exact((Below.refl w.heap.size w).alloc (Nat.le_refl _) _).drew|exact(Below.refl w.heap.size w).alloc (Nat.le_refl _) _)).mono ?_;rintro e w1 ⟨rfl,hb1⟩;have HBd:=AA hb1;clear hb1))
 all_goals
  have HB0:=AA (BK (A8 HBd));clear CF;have HB1:=AA (AY (A8 HB0));have tx:=A8 HKX w1 (A8 HB0);have t3:=tx.c3;have HTX:=AA tx;have g1:=(A8 HG).next (A8 HB1);have HG1:=AA g1;clear g1 tx c1;go_wp2_with fail;refine(A8 HCS _).mono ?_;rintro e w2 ⟨rfl,hb2⟩;have HB2:=AA (AL (A8 HB1) hb2);have tx2:=(A8 HTX).next hb2;have g2:=(A8 HG1).next hb2;have e1:=g2.c1;have xP:=AA tx2;have HG2:=AA g2;clear tx2 g2 hb2 t3;go_wp2_with fail;refine(A8 HCG _ (A8 HB2)).mono ?_;rintro e w3 ⟨rfl,hb3⟩;have HB3:=AA (AL (A8 HB2) hb3);have tx3:=(A8 xP).next hb3;have g3:=(A8 HG2).next hb3;have f1:=g3.c1;have y0:=tx3.c0;have y2:=tx3.c2;have y3:=tx3.c3;have y4:=tx3.c4;have y6:=tx3.c6;obtain⟨g',cap',he,hr,_,_⟩:=g3.bF (by rw[A8 HE];simp);simp only[Value.slice.injEq,Option.some.injEq,Addr.mk.injEq,and_true]at he;obtain⟨rfl,_,rfl⟩:=he;have r7:=hr.row.n7 (i:=A'.length) (x:=u) (by rw[A8 HE];exact QH A' u B');rw[Nat.zero_add]at r7;have C75:=AA tx3;have HG3:=AA g3;clear g3 tx3 hr e1 hb3;go_wp2_with fail;go_ret;exact⟨rfl,Touch.of_below (A8 HB3)⟩
theorem BX0(F:Nat->Prop)(b:Nat)(z:Int)(vn vs ve:Value)(ns:List Nd)(A B A' B':List Nd)(u:Nd)(ss:List Int)(es:List Ev)(x:AQ)(w:World)
  (h:Grow w F b z vn vs ve ns ss es) (G:jE ns A B x.p) (U:FQ ns A' u B' (BU x.p)) (hl:ns.length<=400) (ho:u.o=0) (hw1:x.w≠0) (hw2:x.w≠x.s):
  Calls prog 59 #[P0 b,DW x] w fun e w'=>e=.returned (I0 12)/\Touch F w w':=by
 obtain⟨xz,xo,xs,xp,xd,xv,xw⟩:=x;simp only at G U hw1 hw2;have CF:=fun W (hW:B0 w W)=>JB vn ns A B xp W (h.n.next hW).seq (by omega) G;have HCS:=AA (fun W=>JA xp W);have HCG:=AA (fun W (hW:B0 w W)=>FB vn ns A' B' u (BU xp) W (h.n.next hW).seq (by omega) U);have KX:∀w1,Below (w.alloc (.cells #[I0 xz,I0 xo,I0 xs,S0 xp,S0 xd,I0 xv,I0 xw] 49)).heap.size (w.alloc (.cells #[I0 xz,I0 xo,I0 xs,S0 xp,S0 xd,I0 xv,I0 xw] 49)) w1->TAt w1 w.heap.size ⟨xz,xo,xs,xp,xd,xv,xw⟩:=fun w1 h1=>(TAt.new w ⟨xz,xo,xs,xp,xd,xv,xw⟩).next h1;have HKX:=AA KX;have c1:=h.c1;have hbl:=h.lt;obtain⟨g,cap,rfl,hr,hgb,hFg⟩:=h.bF (by rw[U.eq];simp);have HG:=AA h;have HE:=AA U.eq;have hlt:A'.length<ns.length:=by rw[U.eq];simp
 have hb1:(xw !=0)=true:=by simpa using hw1
 have hb2:(xw !=xs)=true:=by simpa using hw2
 have HO:=AA ho;clear h G U KX ho hr hw1 hw2;unfold DW;go_enter func59,ntmps59;go_wp2_with fail
 go_region_law (first
  |(go_simp;refine(CF _ (by first|exact((Below.refl w.heap.size w).alloc (Nat.le_refl _) _).drew|exact(Below.refl w.heap.size w).alloc (Nat.le_refl _) _)).mono ?_;rintro e w1 ⟨rfl,hb1⟩;have HBd:=AA hb1;clear hb1))
 all_goals
  have HB0:=AA (BK (A8 HBd));clear CF;have HB1:=AA (AY (A8 HB0));have tx:=A8 HKX w1 (A8 HB0);have t3:=tx.c3;have HTX:=AA tx;have g1:=(A8 HG).next (A8 HB1);have HG1:=AA g1;clear g1 tx c1;go_wp2_with fail;refine(A8 HCS _).mono ?_;rintro e w2 ⟨rfl,hb2⟩;have HB2:=AA (AL (A8 HB1) hb2);have tx2:=(A8 HTX).next hb2;have g2:=(A8 HG1).next hb2;have e1:=g2.c1;have xP:=AA tx2;have HG2:=AA g2;clear tx2 g2 hb2 t3;go_wp2_with fail;refine(A8 HCG _ (A8 HB2)).mono ?_;rintro e w3 ⟨rfl,hb3⟩;have HB3:=AA (AL (A8 HB2) hb3);have tx3:=(A8 xP).next hb3;have g3:=(A8 HG2).next hb3;have f1:=g3.c1;have y0:=tx3.c0;have y2:=tx3.c2;have y3:=tx3.c3;have y4:=tx3.c4;have y6:=tx3.c6;obtain⟨g',cap',he,hr,_,_⟩:=g3.bF (by rw[A8 HE];simp);simp only[Value.slice.injEq,Option.some.injEq,Addr.mk.injEq,and_true]at he;obtain⟨rfl,_,rfl⟩:=he;have r7:=hr.row.n7 (i:=A'.length) (x:=u) (by rw[A8 HE];exact QH A' u B');rw[Nat.zero_add]at r7;have C75:=AA tx3;have HG3:=AA g3;clear g3 tx3 hr e1 hb3;rw[A8 HO]at r7;go_wp2_with fail;go_ret;exact⟨rfl,Touch.of_below (A8 HB3)⟩
