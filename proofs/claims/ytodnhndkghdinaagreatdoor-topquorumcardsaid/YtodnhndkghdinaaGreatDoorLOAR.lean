/-
  Part.
-/
import Derived.Test.YtodnhndkghdinaaGreatDoorLOAL
import Derived.Test.YtodnhndkghdinaaGreatDoorLOAN
import Derived.Test.YtodnhndkghdinaaGreatDoorLOAQ
import Derived.Deep.WholeRow
set_option maxRecDepth 20000
set_option maxHeartbeats 8000000
namespace Go.Proofs.YtodnhndkghdinaaGreatDoor
open Go.RowKit Go.Proofs.Tryz
variable{W V:World}{k n i:Nat}{d:Dd}{v:Value}{p:Pw}{r:Rp}
theorem BJ4{U:World}{kd:Int}{x:Rp×Pw}(hk:k<W.heap.size)(D:DB W V d)(ho:BF U V.heap.size v x.1.ns)(ht:Touch (· =k) V U)(hx:PG kd x.1.E=true→WX U k x.2)(hp:PG kd x.1.E=true→∀i,i<3→II 300 (x.2.s i)):
  Did W k kd x (.returned (rpV x.1 v)) (ZX U (W.heap.size+1) (I0 x.1.E) (I0 x.1.z) (S0 x.1.p) (S0 x.1.d) (I0 x.1.t.c) (I0 x.1.t.m) (I0 x.1.t.q) (I0 x.1.t.v) (I0 x.1.t.k) (I0 x.1.t.o) (I0 x.1.t.n) v):=by
 have h:=(D.dt k).touch hk ht;have hlt:=D.r.lt;exact⟨v,rfl,FV (ho.lower (by omega)) (Y6 _ _ _ _ _ _ _ _ _ _ _ _ _ _) (fun q e=>by have:=MK ho e;omega),FK h.t (by omega) _ _ _ _ _ _ _ _ _ _ _ _,fun hl=>(hx hl).reply (hp hl) h.r (by omega) (Y6 _ _ _ _ _ _ _ _ _ _ _ _ _ _)⟩
theorem CD7(d:Dd)(k:Nat)(W:World)(x:Rp×Pw)(hk0:k<W.heap.size)(C1:d.k=1→∀V,B0 W V→Calls prog 63 #[wP k,ddV d] V (Did V k 1 x))(C2:d.k=2→∀V,B0 W V→Calls prog 64 #[wP k,ddV d] V (Did V k 2 x))(C3:d.k=3→∀V,B0 W V→Calls prog 65 #[wP k,ddV d] V (Did V k 3 x))(C4:d.k=4→∀V,B0 W V→Calls prog 66 #[wP k,ddV d] V (Did V k 4 x))(C5:d.k=5→∀V,B0 W V→Calls prog 67 #[wP k] V (Did V k 5 x))(hp:∀i,i<3→II 300 (x.2.s i))(hd:d.k=1∨d.k=2∨d.k=3∨d.k=4∨d.k=5):Calls prog 44 #[wP k,ddV d] W (Did W k d.k x):=by
 have D0:=AA (DB.start W d);have HP:=AA (fun(_:PG d.k x.1.E=true)=>hp);rcases hd with hd|hd|hd|hd|hd
 all_goals
  first|have HC:=AA (C1 hd)|have HC:=AA (C2 hd)|have HC:=AA (C3 hd)|have HC:=AA (C4 hd)|have HC:=AA (C5 hd)
  rw[hd]at HP⊢;clear C1 C2 C3 C4 C5 hp;obtain⟨dk,dc,ds,⟨o,s,pp,dd,v,f⟩,lo,sl,ke,wt⟩:=d;simp only at hd;subst hd;unfold wP at HC⊢;unfold ddV at*;go_enter func44,ntmps44;go_upto_region 1 with fail;generalize ((W.alloc _).alloc _)=W0 at*;obtain⟨⟨d0,d1,d2,d3,d4,d5,d6⟩,d7,d8,d9,d10,d11,d12⟩:=(A8 D0).cells;simp only at d0 d1 d2 d3 d4 d5 d6 d7 d8 d9 d10 d11 d12;go_wp2_with fail;refine(A8 HC _ (A8 D0).b).mono ?_;rintro e w1 ⟨vn,rfl,ho,ht,hw⟩;obtain⟨na,nc,rfl⟩:=BU ho;have R2:=(((A8 D0).dt k).touch hk0 ht).r;have X1:=AA (BJ4 hk0 (A8 D0) ho ht hw (A8 HP));have b0:=R2.cells;have g0:=R2.AX;clear ho ht hw R2 D0 HC HP d0 d1 d2 d3 d4 d5 d6 d7 d8 d9 d10 d11 d12;unfold rpV ZX at X1;unfold rpV;go_wp2_with fail;exact bodyPost_ret (v:=.agg #[I0 x.1.E,I0 x.1.z,S0 x.1.p,S0 x.1.d,I0 x.1.t.c,I0 x.1.t.m,I0 x.1.t.q,I0 x.1.t.v,I0 x.1.t.k,I0 x.1.t.o,I0 x.1.t.n,.slice na x.1.ns.length nc]) (by simp[results,results44,go_sem,b0]) rfl (A8 X1)
theorem B20(p:Pw)(d:Dd)(k:Nat)(W:World)(hx:WX W k p)(hc:0≤d.c∧d.c<16)(hs:0≤d.s∧d.s<3)(hok:∀j,j<3→II 299 (p.s j))(hcl:nZ 299 p.H d.c.toNat (p.c d.c.toNat))(hp:d.q.p.length≤140737488355328):Calls prog 64 #[wP k,ddV d] W (Did W k 2 (iD p d)):=by
 cases hu:(p.s d.s.toNat).up with
 |true=>exact C18 p d k W hx hc hs hok hcl hp hu
 |false=>
  rw[iD,if_pos hu];exact B15 p d k W hx hs hu
theorem AH2(p:Pw)(d:Dd)(k:Nat)(W:World)(hx:WX W k (JU p))(hT:VX W)(h:NU p)(hn:p.n<300)(ha:RQ d=0)(hp:d.q.p.length≤140737488355328)(hd:d.q.d.length≤140737488355328):Calls prog 44 #[wP k,ddV d] W (Did W k d.k (jS (JU p) d)):=by
 have hW:NU (jS (JU p) d).2:=by
  have:=Z4 d h;rw[doP,if_neg (by omega),if_neg (by omega)]at this;exact this
 have hP:∀i,i<3→II 300 ((jS (JU p) d).2.s i):=fun i hi=>(hW.s i hi).more hW.n1;have ok:∀j,j<3→II 299 (p.s j):=fun j hj=>(h.s j hj).more (by omega);have ok3:∀j,j<3→II 300 (p.s j):=fun j hj=>(h.s j hj).more (by omega);have hk:d.k=1∨d.k=2∨d.k=3∨d.k=4∨d.k=5:=by
  unfold RQ at ha;by_cases e:d.k=1∨d.k=2∨d.k=3∨d.k=4∨d.k=5
  ·exact e
  ·rw[if_neg (by omega),if_neg (by omega),if_neg (by omega),if_neg (by omega)]at ha;cases ha
 exact CD7 d k W _ hx.lt
  (fun h1 V hV=>by rw[jS,if_pos h1];exact AH1 p d k V (hx.next hV) (hT.next hV) h hn (CJ4 h1 ha) hp hd)
  (fun h2 V hV=>by
   obtain⟨hc,hs⟩:=CA4 h2 ha;rw[jS,if_neg (by omega),if_pos h2];exact B20 (JU p) d k V (hx.next hV) hc hs ok ((h.c _ (by omega)).more (by omega) (fun _ hx=>hx)) hp)
  (fun h3 V hV=>by rw[jS,if_neg (by omega),if_neg (by omega),if_pos h3];exact B19 (JU p) d k V (hx.next hV) (A48 (.inl h3) ha) ok3)
  (fun h4 V hV=>by rw[jS,if_neg (by omega),if_neg (by omega),if_neg (by omega),if_pos h4];exact CD6 (JU p) d k V (hx.next hV) (A48 (.inr h4) ha) ok3)
  (fun h5 V hV=>by rw[jS,if_neg (by omega),if_neg (by omega),if_neg (by omega),if_neg (by omega)];exact AG8 (JU p) k V (hx.next hV) (hT.next hV) (CJ8 h hn))
  hP hk
noncomputable def zW:Array Value:=(((prog.info? 78).bind (·.zero)).getD undef).cells
theorem B21:(prog.info? 78).map (fun i=>(i.zero,i.size))=some (some (.agg zW),83):=by kernel_rfl
theorem C19:zW.size=83:=by kernel_rfl
theorem CK9(h:n=83):(prog.info? 78).map (·.size)=some n:=by rw[h];exact(zero_of_info B21).2
noncomputable def zB:Array Value:=(prog.built 78 []).getD #[]
theorem C20:zB.size=83:=by kernel_rfl
section
variable {w:World} {ops:Array Oper} {rest:List Oper} {o:Oper} {a:Act} {Q:Exit→Act→World→Prop}
theorem ZR(hgd:o.guard=none)(x:Operand)(ho:o.op=.load 78 x)(k:Nat)(c:Array Value)(hx:a.eval x=P0 k)(hc:w.heap[k]?=some (.cells c 78 (0,0)))(h83:c.size=83)
  (h:wpList prog ops Q rest (a.put o.dst (.agg c)) w):wpList prog ops Q (o::rest) a w:=by
 refine wpList_plain hgd fun K hK=>?_;have hr:(Instr.loadAt 78 (P0 k)).run prog w=.ok (.agg c) w:=by
  have hl:=run_loadCells_list (P:=prog) (w:=w) ⟨k,0,none⟩ c.toList (fun j v hj=>by
   rw[Addr.add_lit];show w.cell? ⟨k,0+j,none⟩=some v;rw[Nat.zero_add,cell_of_row _ _ j c _ (0,0) hc];simpa using hj)
  rw[show c.toList.length=83 by simpa using h83]at hl;simp only[Instr.loadAt,Instr.sureAddr,Sem.run_bind,Sem.run_pure,Result.andThen];unfold loadVar;simp only[Sem.run_bind,isAgg78,sizeOf78,Result.andThen,if_true];rw[hl];simp
 unfold Oper.wp execOp;simp only[ho,Sem.run_bind,Sem.run_pure,Result.andThen_ok,hx,hr];exact hK _ _ h
theorem nK(hgd:o.guard=none)(ho:o.op=.alloc 78)(h:wpList prog ops Q rest (a.put o.dst (.pointer (some ⟨w.heap.size,0,none⟩))) (w.alloc (.cells zW 78))):wpList prog ops Q (o::rest) a w:=by
 refine wpList_plain hgd fun K hK=>?_;have hz:=(zero_of_info B21).1 w;have hr:(Instr.alloc 78 true (.tuple #[])).run prog w=.ok (.pointer (some ⟨w.heap.size,0,none⟩)) (w.alloc (.cells zW 78)):=by
  simp[Instr.alloc,newVar,newRow,hz,Value.cells,go_sem]
 unfold Oper.wp execOp;simp only[ho,Sem.run_bind,Sem.run_pure,Result.andThen_ok,hr];exact hK _ _ h
theorem yN(hgd:o.guard=none)(x:Operand)(ho:o.op=.box 78 x)(c:Array Value)(hx:a.eval x=.agg c)(h:wpList prog ops Q rest (a.put o.dst (.pointer (some ⟨w.heap.size,0,none⟩))) (w.alloc (.cells c 78))):wpList prog ops Q (o::rest) a w:=by
 refine wpList_plain hgd fun K hK=>?_;have hr:(Instr.box 78 (.agg c)).run prog w=.ok (.pointer (some ⟨w.heap.size,0,none⟩)) (w.alloc (.cells c 78)):=by
  simp[Instr.box,newVar,newRow,Value.cells,go_sem]
 unfold Oper.wp execOp;simp only[ho,Sem.run_bind,Sem.run_pure,Result.andThen_ok,hx,hr];exact hK _ _ h
theorem nM(hgd:o.guard=none)(ho:o.op=.build 78 #[])(h:wpList prog ops Q rest (a.put o.dst (.agg zB)) w):wpList prog ops Q (o::rest) a w:=by
 refine wpList_build hgd 78 #[] ho ?_ ?_
 ·simp only[Array.map_empty]
  kernel_rfl
 ·simp only[Array.map_empty];exact h
theorem Y8(hgd:o.guard=none)(x y:Operand)(ho:o.op=.store 78 x y)(k:Nat)(c old:Array Value)(hx:a.eval x=P0 k)(hy:a.eval y=.agg c)(hc:w.heap[k]?=some (.cells old 78 (0,0)))(h83:c.size=83)(ho83:old.size=83)(h1:c.all (·.oneCell')=true)
  (h:wpList prog ops Q rest (a.put o.dst undef) (w.setRow k c)):wpList prog ops Q (o::rest) a w:=
 wpList_store_row hgd _ x y ho k c hx hy _ old hc (CK9 h83) (by omega) h1 h
theorem iF(hgd:o.guard=none)(x y:Operand)(ho:o.op=.store 78 x y)(c:Array Value)(hx:a.eval x=.pointer (some ⟨w.heap.size,0,none⟩))(hy:a.eval y=.agg c)(h83:c.size=83)(h1:c.all (·.oneCell')=true)
  (h:wpList prog ops Q rest (a.put o.dst undef) (w.alloc (.cells c 78))):wpList prog ops Q (o::rest) a (w.alloc (.cells zW 78)):=by
 refine Y8 hgd x y ho w.heap.size c zW hx hy (heap_alloc_last w _) h83 C19 h1 ?_;rw[World.setRow_alloc_new];exact h
end
def C34(W:World)(k:Nat)(x:Rp×Pw)(e:Ending)(w':World):Prop:=
 ∃v,e=.returned (rpV x.1 v)∧BF w' W.heap.size v x.1.ns∧Touch (· =k) W w'∧WX w' k x.2
theorem A63{E:Int}(hk:k<W.heap.size)(h:DT k W V d)(hx:WX V k p)(hp:∀i,i<3→II 300 (p.s i)):
  C34 W k (OZ E,p) (.returned (QE E)) (ZX V (W.heap.size+1) (I0 E) (I0 0) (.string ⟨#[]⟩) (.string ⟨#[]⟩) (I0 0) (I0 0) (I0 0) (I0 0) (I0 0) (I0 0) (I0 0) (N0)):=
 ⟨N0,rfl,.inl ⟨rfl,rfl⟩,FK h.t (by omega) _ _ _ _ _ _ _ _ _ _ _ _,hx.reply hp h.r (by omega) (Y6 _ _ _ _ _ _ _ _ _ _ _ _ _ _)⟩
theorem BJ5(p:Pw)(d:Dd)(h:PG d.k (jS p d).1.E=false):(jS p d).2=p:=by
 unfold jS at h⊢;by_cases h1:d.k=1
 ·rw[if_pos h1]at h⊢;unfold OH at h⊢
  (repeat' split)<;>simp_all[PG]
 ·rw[if_neg h1]at h⊢;by_cases h2:d.k=2
  ·rw[if_pos h2]at h⊢;unfold iD at h⊢
   (repeat' split)<;>simp_all[PG,BE9]
   all_goals (split at h<;>simp_all)
  ·rw[if_neg h2]at h⊢;by_cases h3:d.k=3
   ·rw[if_pos h3]at h⊢;unfold RP at h⊢
    (repeat' split)<;>simp_all[PG,OZ]
   ·rw[if_neg h3]at h⊢;by_cases h4:d.k=4
    ·rw[if_pos h4]at h⊢;unfold upW at h⊢
     (repeat' split)<;>simp_all[PG,OZ]
    ·rw[if_neg h4]at h⊢;unfold QD at h⊢
     (repeat' split)<;>simp_all[PG]
theorem CD8(p:Pw)(d:Dd):(jS p d).2.h=p.h:=by
 unfold jS OH iD RP upW QD
 (repeat' split)<;>rfl
theorem Y9(W:World)(k:Nat)(c:Array Value):Touch (· =k) W (W.setRow k c):=by
 refine⟨rfl,rfl,rfl,by simp[World.setRow],fun b _ hb=>?_⟩;simp only[World.setRow,Array.getElem?_modify];rw[if_neg (fun e=>hb e.symm)]
theorem WX.blk(h:WX W k p):∃c,W.heap[k]?=some (.cells c 78 (0,0))∧c.size=83∧c.all (·.oneCell')=true:=by
 obtain⟨f,⟨c,h1,h2,h3⟩,hr⟩:=h;refine⟨c,h1,h2,?_⟩;rw[Array.all_eq_true];intro j hj;have e:=h3 j (by omega);rw[Array.getElem?_eq_getElem hj]at e;rw[Option.some.inj e];exact hr.cellP (P:=(·.oneCell'=true)) (fun _=>rfl) (fun _=>rfl) (fun _ _ _=>rfl) j (by omega)
theorem WX.copy{c:Array Value}(h:WX W k p)(hh:p.h=k)(hc:W.heap[k]?=some (.cells c 78 (0,0))):WX (W.alloc (.cells c 78)) W.heap.size p:=by
 have hk:=h.lt;obtain⟨f,⟨c',h1,h2,h3⟩,hr⟩:=h;rw[hc]at h1;simp only[Option.some.injEq,Obj.cells.injEq,and_true]at h1;subst h1;exact⟨f,⟨c,heap_alloc_last W _,h2,h3⟩,(hr.moved (Nat.le_refl _) (by omega)).next (AB _ _)⟩
theorem WX.back{q:Nat}{p':Pw}{c:Array Value}(h:WX W k p)(h':WX W q p')(hh:p'.h=k)(hc:W.heap[q]?=some (.cells c 78 (0,0))):WX (W.setRow k c) k p':=by
 obtain⟨f,hb,hr⟩:=h;have hd:=hr.ZW hb;obtain⟨o,ho,_⟩:=hb;obtain⟨g,⟨c',h1,h2,h3⟩,hs⟩:=h';rw[hc]at h1;simp only[Option.some.injEq,Obj.cells.injEq,and_true]at h1;subst h1;refine⟨g,⟨c,setRow_heap W k o c _ _ ho,h2,h3⟩,WdR.touch (W:=W) ?_ (Y9 W k c)⟩;refine⟨hs.n,fun i hi=>?_,hs.r,fun i hi=>⟨(hs.c i hi).s,(hs.c i hi).z,XW (hs.c i hi).e.1 hd⟩,fF (JH.1 hs.d.1) hd,hs.h,by omega⟩;have s:=hs.s i hi;exact⟨s.up,A36 (NG.1 s.d.1) hd,s.id,s.ep,fF (JH.1 s.l.1) hd,s.dn,s.z,rV s.n.1 hd,⟨s.i.1,fun h0=>hs.h i hi h0 k (Nat.le_of_eq hh.symm)⟩,QX s.w.1 hd⟩
def RpX(W:World)(g:Nat)(r:Rp)(v:Value):Prop:=W.heap[g]?=some (.cells #[I0 r.E,I0 r.z,S0 r.p,S0 r.d,I0 r.t.c,I0 r.t.m,I0 r.t.q,I0 r.t.v,I0 r.t.k,I0 r.t.o,I0 r.t.n,v] 35 (0,0))
theorem RpX.lt{g:Nat}(h:RpX W g r v):g<W.heap.size:=(Array.getElem?_eq_some_iff.1 h).1
theorem RpX.cells{g:Nat}(h:RpX W g r v):W.cell? ⟨g,0,none⟩=some (I0 r.E)∧W.cell? ⟨g,1,none⟩=some (I0 r.z)∧W.cell? ⟨g,2,none⟩=some (S0 r.p)∧W.cell? ⟨g,3,none⟩=some (S0 r.d)∧W.cell? ⟨g,4,none⟩=some (I0 r.t.c)∧W.cell? ⟨g,5,none⟩=some (I0 r.t.m)∧W.cell? ⟨g,6,none⟩=some (I0 r.t.q)∧W.cell? ⟨g,7,none⟩=some (I0 r.t.v)∧W.cell? ⟨g,8,none⟩=some (I0 r.t.k)∧W.cell? ⟨g,9,none⟩=some (I0 r.t.o)∧W.cell? ⟨g,10,none⟩=some (I0 r.t.n)∧W.cell? ⟨g,11,none⟩=some (v):=by
 unfold RpX at h;simp[World.cell?,h]
theorem DT.beyond{q:Nat}{U:World}(h:DT k W V d)(hq:W.heap.size+1<q)(ht:Touch (· =q) V U):DT k W U d:=
 ⟨⟨ht.os.trans h.t.os,ht.tape.trans h.t.tape,ht.output.trans h.t.output,Nat.le_trans h.t.size ht.size,fun b hb hn=>(ht.block b (Nat.lt_of_lt_of_le hb h.t.size) (by omega)).trans (h.t.block b hb hn)⟩,h.r.touch ht (by omega),(ht.block _ h.d.ltz (by omega)).trans h.d⟩
theorem B22{B:Nat}(hk:k<W.heap.size)(h:DT k W V d)(hx:WX V k p)(hp:∀i,i<3→II 300 (p.s i))(hn:BF V B v r.ns)(hB:W.heap.size+1<B):
  C34 W k (r,p) (.returned (rpV r v)) (ZX V (W.heap.size+1) (I0 r.E) (I0 r.z) (S0 r.p) (S0 r.d) (I0 r.t.c) (I0 r.t.m) (I0 r.t.q) (I0 r.t.v) (I0 r.t.k) (I0 r.t.o) (I0 r.t.n) v):=
 ⟨v,rfl,FV (hn.lower (by omega)) (Y6 _ _ _ _ _ _ _ _ _ _ _ _ _ _) (fun q e=>by have:=OM hn q e;omega),FK h.t (by omega) _ _ _ _ _ _ _ _ _ _ _ _,hx.reply hp h.r (by omega) (Y6 _ _ _ _ _ _ _ _ _ _ _ _ _ _)⟩
theorem C21(p:Pw)(d:Dd)(k:Nat)(W:World)(hx:WX W k p)(hp:∀i,i<3→II 300 (p.s i))(hn:300≤p.n):Calls prog 22 #[wP k,ddV d] W (C34 W k (OZ 6,p)):=by
 have D0:=AA ((DB.start W d).dt k);have X0:=AA (hx.next (DB.start W d).b);have hk0:=hx.lt;have HP:=AA hp;clear hp hx;unfold wP ddV;go_enter func22,ntmps22;go_upto_region 1 with fail;generalize ((W.alloc _).alloc _)=W0 at*;have c0:=(A8 X0).count;have CR:=AA (fun V=>FU 6 V);unfold QE at CR;go_wp2_with fail;refine(A8 CR _).mono ?_;rintro e wr ⟨rfl,hbr⟩;have DR:=(A8 D0).next hk0 hbr;have b0:=DR.r.cells;have g0:=DR.r.AX;have XR:=AA (A63 (E:=6) hk0 DR ((A8 X0).next hbr) (A8 HP));clear hbr DR D0 CR;unfold QE ZX at XR;go_wp2_with fail;exact bodyPost_ret (v:=.agg #[I0 6,I0 0,.string ⟨#[]⟩,.string ⟨#[]⟩,I0 0,I0 0,I0 0,I0 0,I0 0,I0 0,I0 0,N0]) (by simp[results,results22,go_sem,b0]) rfl (A8 XR)
theorem CD9(p:Pw)(d:Dd)(k:Nat)(W:World)(hx:WX W k p)(hp:∀i,i<3→II 300 (p.s i))(hn:p.n<300)(hn0:0≤p.n)(ha:RQ d≠0):Calls prog 22 #[wP k,ddV d] W (C34 W k (OZ (RQ d),JU p)):=by
 have D0:=AA ((DB.start W d).dt k);have X0:=AA (hx.next (DB.start W d).b);have hk0:=hx.lt;have HP:=AA hp;have CA:=AA (fun V=>jZ d V);have ha2:(RQ d==0)=false:=beq_eq_false_iff_ne.2 ha;clear hp hx ha;generalize RQ d=E at*;unfold wP;unfold ddV at CA⊢;go_enter func22,ntmps22;go_upto_region 1 with fail;generalize ((W.alloc _).alloc _)=W0 at*;have c0:=(A8 X0).count;have f0:=(A8 X0).AX 0;have X1:=AA ((A8 X0).A38 (p.n+1));have D1:=AA ((A8 D0).touch hk0 (ES W0 k 0 (I0 (p.n+1))));go_upto_region 6 with fail;generalize W0.setCell _ _=W1 at*;clear c0 f0 D0 X0;obtain⟨⟨d0,d1,d2,d3,d4,d5,d6⟩,d7,d8,d9,d10,d11,d12⟩:=(A8 D1).cells;go_wp2_with fail;refine(A8 CA _).mono ?_;rintro e w2 ⟨rfl,hb2⟩;have D2:=AA ((A8 D1).next hk0 hb2);have X2:=AA ((A8 X1).next hb2);clear d0 d1 d2 d3 d4 d5 d6 d7 d8 d9 d10 d11 d12 hb2 D1 X1;have CR:=AA (fun V=>FU E V);unfold QE at CR;go_wp2_with fail;refine(A8 CR _).mono ?_;rintro e wr ⟨rfl,hbr⟩;have DR:=(A8 D2).next hk0 hbr;have b0:=DR.r.cells;have g0:=DR.r.AX;have XR:=AA (A63 (E:=E) hk0 DR ((A8 X2).next hbr) (A8 HP));clear hbr DR D2 CR;unfold QE ZX at XR;go_wp2_with fail;exact bodyPost_ret (v:=.agg #[I0 E,I0 0,.string ⟨#[]⟩,.string ⟨#[]⟩,I0 0,I0 0,I0 0,I0 0,I0 0,I0 0,I0 0,N0]) (by simp[results,results22,go_sem,b0]) rfl (A8 XR)
theorem CE0(p:Pw)(d:Dd)(k:Nat)(W:World)(hx:WX W k p)(hh:p.h=k)(hT:VX W)(h:NU p)(hn:p.n<300)(ha:RQ d=0)(hp:d.q.p.length≤140737488355328)(hd:d.q.d.length≤140737488355328):Calls prog 22 #[wP k,ddV d] W (C34 W k (jS (JU p) d)):=by
 have D0:=AA ((DB.start W d).dt k);have X0:=AA (hx.next (DB.start W d).b);have T0:=AA (hT.next (DB.start W d).b);have hk0:=hx.lt;have CA:=AA (fun V=>jZ d V);have hn0:=h.n0;have HP:Hid (∀i,i<3→II 300 ((jS (JU p) d).2.s i)):=AA (by
  have hW:=Z4 d h;rw[doP,if_neg (by omega),if_neg (by omega)]at hW;exact fun i hi=>(hW.s i hi).more hW.n1)
 have HH:Hid ((jS (JU p) d).2.h=k):=AA ((CD8 _ _).trans hh);have HS:=AA (BJ5 (JU p) d);have CH:=AA (fun V q (hV:WX V q (JU p)) (hT:VX V)=>AH2 p d q V hV hT h hn ha hp hd);have CL:=AA (fun V=>xU d.k (jS (JU p) d).1.E V);rw[ha]at CA;clear hx hT h hp hd ha;generalize hx1:jS (JU p) d=x at*;clear hx1;obtain⟨r,p'⟩:=x;simp only at HP HH HS CL;unfold wP;unfold ddV at CA⊢;unfold wP ddV at CH;go_enter func22,ntmps22;go_upto_region 1 with fail;generalize ((W.alloc _).alloc _)=W0 at*;have c0:=(A8 X0).count;have f0:=(A8 X0).AX 0;have X1:=AA ((A8 X0).A38 (p.n+1));have D1:=AA ((A8 D0).touch hk0 (ES W0 k 0 (I0 (p.n+1))));have T1:=AA (aT (A8 T0) (A8 X0) (ES W0 k 0 (I0 (p.n+1))));go_upto_region 6 with fail;generalize W0.setCell _ _=W1 at*;clear c0 f0 D0 X0 T0;obtain⟨⟨d0,d1,d2,d3,d4,d5,d6⟩,d7,d8,d9,d10,d11,d12⟩:=(A8 D1).cells;go_wp2_with fail;refine(A8 CA _).mono ?_;rintro e w2 ⟨rfl,hb2⟩;have D2:=AA ((A8 D1).next hk0 hb2);have X2:=AA ((A8 X1).next hb2);have T2:=AA ((A8 T1).next hb2);clear d0 d1 d2 d3 d4 d5 d6 d7 d8 d9 d10 d11 d12 hb2 D1 X1 T1 CA;obtain⟨c,hc,C35,hc1⟩:=(A8 X2).blk;have HC:=AA hc;have hq2:=(A8 D2).r.lt;have X3:=AA ((A8 X2).copy hh hc);have Y3:=AA (((A8 X2).offq (Nat.le_refl _)).next (AB w2 (.cells c 78)));have D3:=AA ((A8 D2).next hk0 (AB w2 (.cells c 78)));have T3:=AA ((A8 T2).next (AB w2 (.cells c 78)));clear hc;go_upto_region 10 with(first|refine ZR rfl _ rfl k c rfl (A8 HC) C35 ?_|refine nK rfl rfl ?_|refine iF rfl _ _ rfl c rfl rfl C35 hc1 ?_);clear HC C35 hc1 X2 D2 T2;generalize w2.alloc _=W3 at*;generalize w2.heap.size=q at*;obtain⟨⟨d0,d1,d2,d3,d4,d5,d6⟩,d7,d8,d9,d10,d11,d12⟩:=(A8 D3).cells;have C3:=AA (A8 CH W3 q (A8 X3) (A8 T3));have hq3:=(A8 X3).lt;go_wp2_with fail;refine(A8 C3).mono ?_;rintro e w4 ⟨vn,rfl,ho4,ht4,hx4⟩;obtain⟨na,nc,rfl⟩:=BU ho4;have hs4:=ht4.size;have R5:Hid (RpX (w4.alloc (.cells #[I0 r.E,I0 r.z,S0 r.p,S0 r.d,I0 r.t.c,I0 r.t.m,I0 r.t.q,I0 r.t.v,I0 r.t.k,I0 r.t.o,I0 r.t.n,.slice na r.ns.length nc] 35)) w4.heap.size r (.slice na r.ns.length nc)):=AA (heap_alloc_last _ _);have B5:=AB w4 (.cells #[I0 r.E,I0 r.z,S0 r.p,S0 r.d,I0 r.t.c,I0 r.t.m,I0 r.t.q,I0 r.t.v,I0 r.t.k,I0 r.t.o,I0 r.t.n,.slice na r.ns.length nc] 35);have D5:=AA (((A8 D3).beyond (by omega) ht4).next hk0 B5);have Y5:=AA (((A8 Y3).far (g:=q) rfl (show k≠q by omega) ht4).next B5).x;have O5:=AA (ho4.next B5);have X5:=AA (fun hl=>(hx4 hl).next B5);clear d0 d1 d2 d3 d4 d5 d6 d7 d8 d9 d10 d11 d12 C3 CH X3 Y3 D3 T3 ho4 ht4 hx4 B5;unfold rpV;go_upto_region 11 with fail;generalize w4.alloc _=W5 at*;generalize w4.heap.size=g at*;obtain⟨⟨d0,d1,d2,d3,d4,d5,d6⟩,d7,d8,d9,d10,d11,d12⟩:=(A8 D5).cells;obtain⟨r0,r1,r2,r3,r4,r5,r6,r7,r8,r9,r10,r11⟩:=(A8 R5).cells;go_wp2_with fail;refine(A8 CL _).mono ?_;rintro e w6 ⟨rfl,hw6⟩;obtain rfl:=hw6.symm;clear d0 d1 d2 d3 d4 d5 d6 d7 d8 d9 d10 d11 d12 r0 r1 r2 r3 r4 r5 r6 r7 r8 r9 r10 r11 CL;refine Or.elim (show PG d.k r.E=false∨PG d.k r.E=true by cases PG d.k r.E<;>simp) ?a0 ?a1
 case' a1=>
  intro hl;rw[hl];obtain⟨c,hc,C35,hc1⟩:=(A8 X5 hl).blk;obtain⟨o,ho,ho83,_⟩:=(A8 Y5).blk;have HC:=AA hc;have HO:=AA ho;have X6:=AA ((A8 Y5).back (A8 X5 hl) (A8 HH) hc);have D6:=AA ((A8 D5).touch hk0 (Y9 W5 k c));have O6:=AA (FV (A8 O5) (Y9 W5 k c) (fun b e=>by have:=OM (A8 O5) b e;omega));have R6:Hid (RpX (W5.setRow k c) g r (.slice na r.ns.length nc)):=AA (((Y9 W5 k c).block g (A8 R5).lt (by omega)).trans (A8 R5));clear hc ho X5 Y5 D5 O5 R5;go_upto_region 13 with(first|refine ZR rfl _ rfl q c rfl (A8 HC) C35 ?_|refine Y8 rfl _ _ rfl k c o rfl rfl (A8 HO) C35 ho83 hc1 ?_);generalize W5.setRow k c=W6 at*
 case' a0=>
  intro hl;rw[hl];have X6:Hid (WX W5 k p'):=AA (by rw[A8 HS hl];exact A8 Y5);have D6:=D5;have O6:=O5;have R6:=R5;clear X5 Y5 D5 O5 R5;go_upto_region 13 with fail
 all_goals
  have DR:=A8 D6;have b0:=DR.r.cells;have g0:=DR.r.AX;obtain⟨r0,r1,r2,r3,r4,r5,r6,r7,r8,r9,r10,r11⟩:=(A8 R6).cells;have XR:=AA (B22 hk0 DR (A8 X6) (A8 HP) (A8 O6) (by omega));clear DR X6 D6 O6 R6;unfold rpV ZX at XR;go_wp2_with fail;exact bodyPost_ret (v:=.agg #[I0 r.E,I0 r.z,S0 r.p,S0 r.d,I0 r.t.c,I0 r.t.m,I0 r.t.q,I0 r.t.v,I0 r.t.k,I0 r.t.o,I0 r.t.n,.slice na r.ns.length nc]) (by simp[results,results22,go_sem,b0]) rfl (A8 XR)
theorem A64(p:Pw)(d:Dd)(k:Nat)(W:World)(hx:WX W k p)(hh:p.h=k)(hT:VX W)(h:NU p)(hp:d.q.p.length≤140737488355328)(hd:d.q.d.length≤140737488355328):Calls prog 22 #[wP k,ddV d] W (C34 W k (doP p d)):=by
 have ok:∀i,i<3→II 300 (p.s i):=fun i hi=>(h.s i hi).more h.n1;unfold doP;by_cases hn:300≤p.n
 ·rw[if_pos hn];exact C21 p d k W hx ok hn
 ·rw[if_neg hn];by_cases ha:RQ d=0
  ·rw[if_neg (fun e=>e ha)];exact CE0 p d k W hx hh hT h (by omega) ha hp hd
  ·rw[if_pos ha];exact CD9 p d k W hx ok (by omega) h.n0 ha
structure WNf(W:World)(k:Nat)(f:Nat→Value)(a b:Nat):Prop where
 t:∀j,j<83→∀x,f j≠ .string x
 n:f 0=I0 0
 r:∀i,i<3→f (31+i)=I0 0
 d:f 82=N0
 s:∀i,i<a→SvA W k (fun q=>f (1+10*i+q)) (svP i ps0)
 c:∀i,i<b→ClA W k (fun q=>f (34+3*i+q)) ⟨i+1,0,[]⟩
def WN(W V:World)(a b:Nat):Prop:=(∃f,WB V W.heap.size f∧WNf V W.heap.size f a b)∧B0 W V
section
variable {W V U:World} {a b:Nat}
theorem gB(h:B0 W V)(T:Touch (· =W.heap.size) V U):B0 W U:=⟨T.os.trans h.os,T.tape.trans h.tape,T.output.trans h.output,Nat.le_trans h.size T.size,fun b hb=>(T.block b (Nat.lt_of_lt_of_le hb h.size) (by omega)).trans (h.block b hb)⟩
theorem WN.next(h:WN W V a b)(hb:B0 V U):WN W U a b:=by
 obtain⟨⟨f,h1,h2⟩,h3⟩:=h;exact⟨⟨f,h1.next hb,h2.t,h2.n,h2.r,h2.d,fun i hi=>(h2.s i hi).next hb,fun i hi=>⟨(h2.c i hi).s,(h2.c i hi).z,(h2.c i hi).e.next hb⟩⟩,AL h3 hb⟩
theorem WN.srv(h:WN W V a b)(ha:a<3){vd vl vn vs vw:Value}{s:Sv}(hs:svP a ps0=s)(hv:SvV V (.agg #[.bool s.up,vd,I0 s.id,I0 s.ep,vl,I0 s.dn,I0 s.tr.z,vn,vs,vw]) s)(h0:s.tr.ss=[]):WN W (tV V W.heap.size (1+10*a) (.bool s.up) vd (I0 s.id) (I0 s.ep) vl (I0 s.dn) (I0 s.tr.z) vn vs vw) (a+1) b:=by
 obtain⟨⟨f,hb,hn⟩,hB⟩:=h;have T:=U1 V W.heap.size (1+10*a) (.bool s.up) vd (I0 s.id) (I0 s.ep) vl (I0 s.dn) (I0 s.tr.z) vn vs vw;have hA:SvA V W.heap.size (C32 (.bool s.up) vd (I0 s.id) (I0 s.ep) vl (I0 s.dn) (I0 s.tr.z) vn vs vw) s:=SvA.of (hb.ZW hn.t) hv (fun h=>absurd h0 h) rfl rfl rfl rfl rfl rfl rfl rfl rfl rfl;refine⟨⟨_,hb.tV (o:=1+10*a) (by omega) _ _ _ _ _ _ _ _ _ _,fun j hj x=>?_,by rw[EI (by omega)];exact hn.n,fun i hi=>by rw[EI (by omega)];exact hn.r i hi,by rw[EI (by omega)];exact hn.d,fun i hi=>?_,fun i hi=>?_⟩,gB hB T⟩
 ·by_cases e:1+10*a≤j∧j<1+10*a+10
  ·obtain⟨q,rfl⟩:∃q,j=1+10*a+q:=⟨j-(1+10*a),by omega⟩;rw[JJ (by omega)];exact hA.cellP (P:=(· ≠ .string x)) (fun _ e=>by cases e) (fun _ e=>by cases e) (fun _ _ _ e=>by cases e) q (by omega)
  ·rw[EI (by omega)];exact hn.t j hj x
 ·by_cases e:i=a
  ·subst e;rw[hs];exact(hA.congr fun q hq=>by rw[JJ hq]).touch T
  ·exact((hn.s i (by omega)).congr fun q hq=>by rw[EI (by omega)]).touch T
 ·have h:=(hn.c i hi).congr (g':=fun q=>B33 f (1+10*a) 10 (C32 (.bool s.up) vd (I0 s.id) (I0 s.ep) vl (I0 s.dn) (I0 s.tr.z) vn vs vw) (34+3*i+q)) fun q hq=>by rw[EI (by omega)]
  exact⟨h.s,h.z,h.e.touch T⟩
theorem WN.cl(h:WN W V a b)(ha:a≤3)(hb:b<16):WN W (mG V W.heap.size (34+3*b) (I0 (b+1)) (I0 0) (N0)) a (b+1):=by
 obtain⟨⟨f,hf,hn⟩,hB⟩:=h;have T:=OJ V W.heap.size (34+3*b) (I0 (b+1)) (I0 0) (N0);refine⟨⟨_,hf.mG (o:=34+3*b) (by omega) _ _ _,fun j hj x=>?_,by rw[EI (by omega)];exact hn.n,fun i hi=>by rw[EI (by omega)];exact hn.r i hi,by rw[EI (by omega)];exact hn.d,fun i hi=>((hn.s i hi).congr fun q hq=>by rw[EI (by omega)]).touch T,fun i hi=>?_⟩,gB hB T⟩
 ·by_cases e:34+3*b≤j∧j<34+3*b+3
  ·obtain⟨q,rfl⟩:∃q,j=34+3*b+q:=⟨j-(34+3*b),by omega⟩;rw[JJ (by omega)];rcases(show q=0∨q=1∨q=2 by omega)with rfl|rfl|rfl<;>(intro e;cases e)
  ·rw[EI (by omega)];exact hn.t j hj x
 ·by_cases e:i=b
  ·subst e;exact⟨by rw[JJ (by omega)];rfl,by rw[JJ (by omega)];rfl,by rw[JJ (by omega)];exact Row.nil _ _ 0 (by decide) none⟩
  ·have h:=(hn.c i (by omega)).congr (g':=fun q=>B33 f (34+3*b) 3 (AW6 (I0 (b+1)) (I0 0) (N0)) (34+3*i+q)) fun q hq=>by rw[EI (by omega)]
   exact⟨h.s,h.z,h.e.touch T⟩
theorem BO3(i:Nat):(svP i ps0).tr.ss=[]:=by rw[DJ rfl];rfl
theorem WN.done(h:WN W V 3 16):WX V W.heap.size (pw0 W.heap.size):=by
 obtain⟨⟨f,hb,hn⟩,_⟩:=h;exact⟨f,hb,hn.n,fun i hi=>hn.s i hi,hn.r,hn.c,by rw[hn.d];exact Row.nil _ _ 0 (by decide) none,fun i _ h0=>absurd (BO3 i) h0,Nat.le_refl _⟩
end
def CE1:Value→Bool
 | .string _=>false
 |_=>true
theorem C22:zB.all CE1=true:=by kernel_rfl
theorem B23:zB[0]?=some (I0 0)∧zB[31]?=some (I0 0)∧zB[32]?=some (I0 0)∧zB[33]?=some (I0 0)∧zB[82]?=some (N0):=⟨by kernel_rfl,by kernel_rfl,by kernel_rfl,by kernel_rfl,by kernel_rfl⟩
theorem BJ6(W:World)(z:Array Value)(hz:z.size=83)(ht:z.all CE1=true)(z0:z[0]?=some (I0 0))(z1:z[31]?=some (I0 0))(z2:z[32]?=some (I0 0))(z3:z[33]?=some (I0 0))(z4:z[82]?=some (N0)):WN W (W.alloc (.cells z 78)) 0 0:=by
 have e:∀j:Nat,j<83→∃v,z[j]?=some v:=fun j hj=>⟨z[j]'(by omega),Array.getElem?_eq_getElem (by omega)⟩;have g:∀ (j:Nat) v,z[j]?=some v→z[j]?.getD undef=v:=fun j v h=>by rw[h];rfl
 refine⟨⟨fun j=>z[j]?.getD undef,⟨z,heap_alloc_last W _,hz,fun j hj=>?_⟩,fun j hj x=>?_,g _ _ z0,fun i hi=>?_,g _ _ z4,fun i hi=>by omega,fun i hi=>by omega⟩,AB _ _⟩
 ·obtain⟨v,h⟩:=e j hj;rw[h,←g j v h]
 ·obtain⟨v,h⟩:=e j hj;rw[g j v h];rintro rfl;have:=Array.all_eq_true.1 ht j (by omega);rw[Array.getElem?_eq_getElem (by omega)]at h;rw[Option.some.inj h]at this
  cases this
 ·rcases(show i=0∨i=1∨i=2 by omega)with rfl|rfl|rfl
  ·exact g _ _ z1
  ·exact g _ _ z2
  ·exact g _ _ z3
theorem WN.start(W:World):WN W (W.alloc (.cells zB 78)) 0 0:=BJ6 W zB C20 C22 B23.1 B23.2.1 B23.2.2.1 B23.2.2.2.1 B23.2.2.2.2
theorem C23(i:Nat)(hi:i<3)(w:World):Calls prog 18 #[I0 i,.agg #[N0]] w (AX2 w (svP i ps0) 0):=by
 have e:svP i ps0=CI5 i:=by rw[DJ rfl,CI5,AD6 (fs:=[]) (by unfold RU;simp only[vP];split<;>simp)];simp[ps0,BL,epD,NQ,KL]
 rw[e];exact(AV0 i (by omega) (by omega) w).mono fun _ _ h=>mQ h rfl
theorem yO(W:World):Calls prog 21 #[] W fun e w'=>e=.returned (wP W.heap.size)∧WX w' W.heap.size (pw0 W.heap.size)∧B0 W w':=by
 have CB:=AA (fun i hi V=>C23 i hi V);have CN:=AA (fun s h1 h2 V=>BF3 s V h1 h2);have HE0:=AA BO3;have H0:=AA (WN.start W);unfold wP;go_enter func21,ntmps21;go_upto_region 2 with(first|refine nM rfl rfl ?_|refine yN rfl _ rfl zB rfl ?_);generalize W.alloc _=W0 at*;go_wp2_with fail
 go_loopg [6] 3 (fun kx s6 wr=>∃i:Nat,s6=I0 i∧i≤3∧3-i≤kx∧Hid (WN W wr i 0))
 case atStart=>exact⟨0,rfl,by omega,Nat.le_refl _,H0⟩
 case round=>
  obtain⟨i,rfl,hi,hg,HN⟩:=hrel;by_cases hlt:i<3
  ·have hii:(i:Int)<3:=by omega
   have C1:=AA (fun V=>A8 CB i hlt V);have HE:=AA (A8 HE0 i);generalize hs1:svP i ps0=s1 at C1 HE;have HK:=AA hs1;clear hs1;go_upto_region 5 with fail;have hS0:(fun _:World=>True) wr.drew:=trivial;refine wp_region_held (S:=fun _:World=>True) (by kernel_rfl) ?_;change wpAnyH _ _ _ _ _ _ _ _ wr.drew;refine tkH 0 hS0 ?_;refine tkH 1 hS0 ?_;refine tkH 2 hS0 ?_;refine tkH 3 hS0 ?_;refine tkH 8 hS0 ?_;refine tkH 9 hS0 ?_;refine rd1 4 (fun K hK=>?_);go_simp
   with_reducible refine(A8 C1 _).mono ?_
   rintro e w1 ⟨ad,nd,cd,al,cl,an,cn,ai,ci,aw,cw,rfl,H1,hb1⟩;have N1:=(A8 HN).next (AL (Below.refl wr.heap.size wr).drew hb1);clear hb1;refine nxH hK trivial ?_;clear hK K;refine tkH 5 trivial ?_;refine tkH 6 trivial ?_;refine tkH 7 trivial ?_;refine tkH 10 trivial ?_;refine rd1 11 (fun K hK=>?_);obtain⟨f,hf,_⟩:=N1.1;have x0:=hf.cell (j:=1+i*10) (by omega);have z0:=hf.AX (1+i*10);have x1:=hf.cell (j:=1+i*10+1) (by omega);have z1:=hf.AX (1+i*10+1);have x2:=hf.cell (j:=1+i*10+2) (by omega);have z2:=hf.AX (1+i*10+2);have x3:=hf.cell (j:=1+i*10+3) (by omega);have z3:=hf.AX (1+i*10+3);have x4:=hf.cell (j:=1+i*10+4) (by omega);have z4:=hf.AX (1+i*10+4);have x5:=hf.cell (j:=1+i*10+5) (by omega);have z5:=hf.AX (1+i*10+5);have x6:=hf.cell (j:=1+i*10+6) (by omega);have z6:=hf.AX (1+i*10+6);have x7:=hf.cell (j:=1+i*10+7) (by omega);have z7:=hf.AX (1+i*10+7);have x8:=hf.cell (j:=1+i*10+8) (by omega);have z8:=hf.AX (1+i*10+8);have x9:=hf.cell (j:=1+i*10+9) (by omega);have z9:=hf.AX (1+i*10+9);have hkl:=hf.lt;have HR:=AA (N1.srv hlt (A8 HK) (A8 H1).1 (A8 HE));unfold tV at HR;rw[Nat.mul_comm 10 i]at HR;clear N1 H1 hf;go_simp;refine nxH hK trivial ?_;clear hK K;refine wpAnyH_done (by kernel_rfl) ?_ _;go_wp2_with fail
   go_roundg (3-(i+1))
   case measure=>omega
   case rel=>exact⟨i+1,by simp,by omega,Nat.le_refl _,HR⟩
  ·obtain rfl:i=3:=by omega
   have H3:=HN;clear HN hg hi hlt;go_wp2_with fail
   go_loopg [21] 16 (fun kx s21 wr=>∃i:Nat,s21=I0 i∧i≤16∧16-i≤kx∧Hid (WN W wr 3 i))
   case atStart=>exact⟨0,rfl,by omega,Nat.le_refl _,H3⟩
   case round=>
    obtain⟨i,rfl,hi,hg,HN⟩:=hrel;by_cases hlt:i<16
    ·have hii:(i:Int)<16:=by omega
     have hwr:IntKind.i64.wrap ((i:Int)+1)=(i:Int)+1:=by rw[IntKind.wrap_i64];omega
     have C2:=AA (fun V=>A8 CN ((i:Int)+1) (by omega) (by omega) V);unfold clV at C2;go_upto_region 10 with fail;have hS0:(fun _:World=>True) wr.drew:=trivial;refine wp_region_held (S:=fun _:World=>True) (by kernel_rfl) ?_;change wpAnyH _ _ _ _ _ _ _ _ wr.drew;refine tkH 0 hS0 ?_;refine tkH 1 hS0 ?_;refine tkH 2 hS0 ?_;refine tkH 3 hS0 ?_;refine tkH 8 hS0 ?_;refine tkH 9 hS0 ?_;refine rd1 4 (fun K hK=>?_);go_simp
     with_reducible refine(A8 C2 _).mono ?_
     rintro e w1 ⟨rfl,hb1⟩;have N1:=(A8 HN).next (AL (Below.refl wr.heap.size wr).drew hb1);clear hb1;refine nxH hK trivial ?_;clear hK K;refine tkH 5 trivial ?_;refine tkH 6 trivial ?_;refine tkH 7 trivial ?_;refine tkH 10 trivial ?_;refine rd1 11 (fun K hK=>?_);obtain⟨f,hf,_⟩:=N1.1;have x0:=hf.cell (j:=34+i*3) (by omega);have z0:=hf.AX (34+i*3);have x1:=hf.cell (j:=34+i*3+1) (by omega);have z1:=hf.AX (34+i*3+1);have x2:=hf.cell (j:=34+i*3+2) (by omega);have z2:=hf.AX (34+i*3+2);have hkl:=hf.lt;have HR:=AA (N1.cl (Nat.le_refl 3) hlt);unfold mG at HR;rw[Nat.mul_comm 3 i]at HR;clear N1 hf;go_simp;refine nxH hK trivial ?_;clear hK K;refine wpAnyH_done (by kernel_rfl) ?_ _;go_wp2_with fail
     go_roundg (16-(i+1))
     case measure=>omega
     case rel=>exact⟨i+1,by simp,by omega,Nat.le_refl _,HR⟩
    ·obtain rfl:i=16:=by omega
     go_wp2_with fail;go_ret;exact⟨rfl,(A8 HN).done,(A8 HN).2⟩
theorem B25(p:Pw):∀l:List Dd,(NT p l).h=p.h
 |[]=>rfl
 |d::l=>by
  rw[NT,B25 _ l];unfold doP
  repeat' split
  all_goals first|rfl|exact CD8 _ _
theorem A65(p:Pw)(d:Dd):∀l:List Dd,NT p (l++[d])=(doP (NT p l) d).2
 |[]=>rfl
 |e::l=>by
  show NT (doP p e).2 (l++[d])=_;rw[A65 _ d l];rfl
theorem sZ(p:Pw){ds:List Dd}(h:ds[i]?=some d):NT p (ds.take (i+1))=(doP (NT p (ds.take i)) d).2:=by
 obtain⟨hk,rfl⟩:=List.getElem?_eq_some_iff.1 h;rw[List.take_succ_eq_append_getElem hk,A65]
structure yP(W:World)(k:Nat)(p:Pw)(V:World):Prop where
 x:WX V k p
 t:VX V
 b:B0 W V
 k:W.heap.size≤k
section
variable {W V U:World} {k:Nat} {p q:Pw}
theorem yP.next(h:yP W k p V)(hb:B0 V U):yP W k p U:=⟨h.x.next hb,h.t.next hb,AL h.b hb,h.k⟩
theorem yP.turn(h:yP W k p V)(ht:Touch (· =k) V U)(hx:WX U k q):yP W k q U:=
 ⟨hx,aT h.t h.x ht,⟨ht.os.trans h.b.os,ht.tape.trans h.b.tape,ht.output.trans h.b.output,Nat.le_trans h.b.size ht.size,fun b hb=>(ht.block b (Nat.lt_of_lt_of_le hb h.b.size) (by have:=h.k;omega)).trans (h.b.block b hb)⟩,h.k⟩
theorem yP.start(hT:VX W)(hb:B0 W V)(hc:B0 V U)(hx:WX U V.heap.size (pw0 V.heap.size)):yP W V.heap.size (NT (pw0 V.heap.size) []) U:=⟨hx,(hT.next hb).next hc,AL hb hc,hb.size⟩
end
theorem BO4{b off cap:Nat}{ds:List Dd}(hv:BZ W (.slice (some ⟨b,off,none⟩) n cap) ds)(hd:ds[i]?=some d):(W.cell? ⟨b,off+i*13,none⟩=some (I0 d.k)∧W.cell? ⟨b,off+i*13+1,none⟩=some (I0 d.c)∧W.cell? ⟨b,off+i*13+2,none⟩=some (I0 d.s)∧W.cell? ⟨b,off+i*13+3,none⟩=some (I0 d.q.o)∧W.cell? ⟨b,off+i*13+4,none⟩=some (I0 d.q.s)∧W.cell? ⟨b,off+i*13+5,none⟩=some (S0 d.q.p)∧W.cell? ⟨b,off+i*13+6,none⟩=some (S0 d.q.d))∧W.cell? ⟨b,off+i*13+7,none⟩=some (I0 d.q.v)∧W.cell? ⟨b,off+i*13+8,none⟩=some (I0 d.q.f)∧W.cell? ⟨b,off+i*13+9,none⟩=some (I0 d.lo)∧W.cell? ⟨b,off+i*13+10,none⟩=some (I0 d.sl)∧W.cell? ⟨b,off+i*13+11,none⟩=some (I0 d.ke)∧W.cell? ⟨b,off+i*13+12,none⟩=some (.bool d.wt):=by
 obtain⟨b',off',cap',he,_,hr,_,_,_⟩:=XV hv hd;simp only[Value.slice.injEq,Option.some.injEq,Addr.mk.injEq,and_true]at he;obtain⟨⟨rfl,rfl⟩,_,_⟩:=he;have h:∀ (j:Nat) (v:Value),j<13→(Lay.cs d)[j]?=some v→W.cell? ⟨b,off+i*13+j,none⟩=some v:=fun j v hj hv=>by
  rw[Nat.add_assoc];exact hr (i*13+j) v ((AZ ds i d hd j hj).trans hv)
 exact⟨⟨h 0 _ (by omega) rfl,h 1 _ (by omega) rfl,h 2 _ (by omega) rfl,h 3 _ (by omega) rfl,h 4 _ (by omega) rfl,h 5 _ (by omega) rfl,h 6 _ (by omega) rfl⟩,h 7 _ (by omega) rfl,h 8 _ (by omega) rfl,h 9 _ (by omega) rfl,h 10 _ (by omega) rfl,h 11 _ (by omega) rfl,h 12 _ (by omega) rfl⟩
theorem B26(p:Pw)(k:Nat)(W:World)(hx:WX W k p)(hD:p.D.length≤300):Calls prog 16 #[wP k] W fun e w'=>∃a c,e=.returned (.slice a p.D.length c)∧BF w' W.heap.size (.slice a p.D.length c) p.D∧B0 W w':=by
 obtain⟨ua,uc,d82,hdv⟩:=hx.ack;have CC:=AA (lM (.slice ua p.D.length uc) p.D W hdv (by omega));clear hx hdv;unfold wP;go_enter func16,ntmps16;go_wp2_with fail;refine(A8 CC).mono ?_;rintro e w1 ⟨v1,rfl,ho,hb⟩;obtain⟨a1,c1,rfl⟩:=BU ho;have HO:=AA (And.intro ho hb);clear ho hb CC;go_wp2_with fail;go_ret;exact⟨a1,c1,rfl,(A8 HO).1,(A8 HO).2⟩
theorem tC(W:World)(hT:VX W):Calls prog 20 #[] W (R0 W (.bool true)):=by
 have HT:=AA hT;have CN:=AA (yO W);clear hT;have hfd:∀ (x0 x1 x2 x3 x4 x5 x6 x7 x8 x9 x10 x11:Value) (w:World),(Instr.field 35 (.agg #[x0,x1,x2,x3,x4,x5,x6,x7,x8,x9,x10,x11]) 0).run prog w=.ok x0 w:=fun _ _ _ _ _ _ _ _ _ _ _ _ _=>by kernel_rfl
 go_enter func20,ntmps20;go_wp2_with fail;refine(A8 CN).mono ?_;rintro e w1 ⟨rfl,hx1,hb1⟩;have P1:=AA (yP.start (A8 HT) (Below.refl _ _) hb1 hx1);clear hx1 hb1 CN HT;obtain⟨f,c,h1,hf,hc⟩:=BJ7 W.heap.size;have i1:=Z4 dEl (O9 W.heap.size);have C1:=AA (A64 (pw0 W.heap.size) dEl W.heap.size w1 (A8 P1).x rfl (A8 P1).t (O9 W.heap.size) (by simp[dEl]) (by simp[dEl]));rw[h1]at C1 i1;obtain⟨t,ns,p2,h2,hD⟩:=BJ8 (k:=W.heap.size) hf hc;have C2:=AA (fun V hx hT=>A64 ⟨1,f,eR (pw0 W.heap.size).s,c,[],[],W.heap.size⟩ dOp W.heap.size V hx rfl hT i1 (by simp[dOp]) (by simp[dOp]));rw[h2]at C2;have CL:=AA (fun V hx=>O8 ⟨1,f,eR (pw0 W.heap.size).s,c,[],[],W.heap.size⟩ W.heap.size V hx);have CA:=AA (fun V hx=>B26 p2 W.heap.size V hx (by omega));simp only[show ldP (eR (pw0 W.heap.size).s)=2 from rfl]at CL;rw[hD]at CA;clear h1 h2 i1 hf hc hD;generalize eR (pw0 W.heap.size).s=ro at*;simp only[wP,ddV,dEl,nd0]at C1;simp only[wP,ddV,dOp]at C2;unfold wP at CL CA⊢;go_wp2_with fail;refine(A8 C1).mono ?_;rintro e w2 ⟨u2,rfl,ho2,ht2,hx2⟩;obtain⟨a2,c2,rfl⟩:=BU ho2;have P2:=AA ((A8 P1).turn ht2 hx2);clear ho2 ht2 hx2 C1 P1;unfold rpV;go_wp2_with fail;refine(A8 CL _ (A8 P2).x).mono ?_;rintro e w3 ⟨rfl,hb3⟩;have P3:=AA ((A8 P2).next hb3);clear hb3 CL P2;go_wp2_with fail;refine(A8 C2 _ (A8 P3).x (A8 P3).t).mono ?_;rintro e w4 ⟨u4,rfl,ho4,ht4,hx4⟩;obtain⟨a4,c4,rfl⟩:=BU ho4;have P4:=AA (fun O=>((A8 P3).turn ht4 hx4).next (AB w4 O));clear ho4 ht4 hx4 C2 P3;unfold rpV;go_wp2_with fail;refine(A8 CA _ (A8 P4 _).x).mono ?_;rintro e w5 ⟨a5,c5,rfl,_,hb5⟩;have P5:=AA ((A8 P4 _).next hb5);clear hb5 CA P4;go_wp2_with fail;go_ret;exact⟨rfl,(A8 P5).b⟩
structure LB(w W:World)(d:Dd)(r:Rp)(u:Value):Prop where
 b:Below w.heap.size w W
 d:F5 W w.heap.size d
 r:RpX W (w.heap.size+1) r u
theorem LB.next{w:World}{u:Value}(h:LB w W d r u)(hb:Below W.heap.size W V):LB w V d r u:=⟨AL h.b hb,h.d.TY hb h.d.ltz,(hb.block _ h.r.lt).trans h.r⟩
theorem LB.start(w:World)(d:Dd)(r:Rp)(u:Value):LB w ((w.alloc (.cells #[.int .i64 d.k,.int .i64 d.c,.int .i64 d.s,.int .i64 d.q.o,.int .i64 d.q.s,.string ⟨d.q.p.toArray⟩,.string ⟨d.q.d.toArray⟩,.int .i64 d.q.v,.int .i64 d.q.f,.int .i64 d.lo,.int .i64 d.sl,.int .i64 d.ke,.bool d.wt] 29)).alloc (.cells #[.int .i64 r.E,.int .i64 r.z,.string ⟨r.p.toArray⟩,.string ⟨r.d.toArray⟩,.int .i64 r.t.c,.int .i64 r.t.m,.int .i64 r.t.q,.int .i64 r.t.v,.int .i64 r.t.k,.int .i64 r.t.o,.int .i64 r.t.n,u] 35)) d r u:=by
 refine⟨AL (AB _ _) (AB _ _),?_,XY _ _ _⟩;exact F5.TY (heap_alloc_new w _:F5 (w.alloc _) w.heap.size d) (AB _ _) (by simp)
theorem CN1{b off cap:Nat}{ts:List AQ}{t:AQ}(hv:BZ W (.slice (some ⟨b,off,none⟩) n cap) ts)(hd:ts[i]?=some t):W.cell? ⟨b,off+i*7,none⟩=some (.int .i64 t.z)∧W.cell? ⟨b,off+i*7+1,none⟩=some (.int .i64 t.o)∧W.cell? ⟨b,off+i*7+2,none⟩=some (.int .i64 t.s)∧W.cell? ⟨b,off+i*7+3,none⟩=some (.string ⟨t.p.toArray⟩)∧W.cell? ⟨b,off+i*7+4,none⟩=some (.string ⟨t.d.toArray⟩)∧W.cell? ⟨b,off+i*7+5,none⟩=some (.int .i64 t.v)∧W.cell? ⟨b,off+i*7+6,none⟩=some (.int .i64 t.w):=by
 obtain⟨b',off',cap',he,_,hr,_,_,_⟩:=XV hv hd;simp only[Value.slice.injEq,Option.some.injEq,Addr.mk.injEq,and_true]at he;obtain⟨⟨rfl,rfl⟩,_,_⟩:=he;have h:∀ (j:Nat) (v:Value),j<7→(Lay.cs t)[j]?=some v→W.cell? ⟨b,off+i*7+j,none⟩=some v:=fun j v hj hv=>by
  rw[Nat.add_assoc];exact hr (i*7+j) v ((AZ ts i t hd j hj).trans hv)
 exact⟨h 0 _ (by omega) rfl,h 1 _ (by omega) rfl,h 2 _ (by omega) rfl,h 3 _ (by omega) rfl,h 4 _ (by omega) rfl,h 5 _ (by omega) rfl,h 6 _ (by omega) rfl⟩
structure SB2(w W:World)(up:Bool)(vd:Value)(id ep:Int)(vl:Value)(dn z:Int)(vn vs vw:Value):Prop where
 below:B0 w W
 s:BN W (w.heap.size+1) up vd id ep vl dn z vn vs vw
 r:BN W w.heap.size false (N0) 0 0 (N0) 0 0 (N0) (N0) (N0)
section
variable {w W V:World} {up:Bool} {id ep dn z:Int} {vd vl vn vs vw:Value}
theorem SB2.next(h:SB2 w W up vd id ep vl dn z vn vs vw)(hb:B0 W V):SB2 w V up vd id ep vl dn z vn vs vw:=⟨AL h.below hb,h.s.next hb,h.r.next hb⟩
theorem SB2.put(h:SB2 w W up vd id ep vl dn z vn vs vw)(j:Nat)(u:Value){vd' vl' vn' vs' vw':Value}(e:(#[.bool up,vd,I0 id,I0 ep,vl,I0 dn,I0 z,vn,vs,vw]:Array Value).setIfInBounds j u=#[.bool up,vd',I0 id,I0 ep,vl',I0 dn,I0 z,vn',vs',vw']):SB2 w (W.setCell ⟨w.heap.size+1,j,none⟩ u) up vd' id ep vl' dn z vn' vs' vw':=by
 refine⟨h.below.setCell (by simp) u,?_,h.r.other (by omega)⟩;unfold BN;rw[AV u h.s,e]
theorem SB2.start(w:World)(up:Bool)(id ep dn z:Int)(vd vl vn vs vw:Value):SB2 w ((w.alloc (.cells #[.bool false,N0,I0 0,I0 0,N0,I0 0,I0 0,N0,N0,N0] 48)).alloc (.cells #[.bool up,vd,I0 id,I0 ep,vl,I0 dn,I0 z,vn,vs,vw] 48)) up vd id ep vl dn z vn vs vw:=by
 have h:=BN.new (w.alloc (.cells #[.bool false,N0,I0 0,I0 0,N0,I0 0,I0 0,N0,N0,N0] 48)) up id ep dn z vd vl vn vs vw;rw[show (w.alloc (.cells #[.bool false,N0,I0 0,I0 0,N0,I0 0,I0 0,N0,N0,N0] 48)).heap.size=w.heap.size+1 by simp]at h;exact⟨AL (AB _ _) (AB _ _),h,(BN.new w false 0 0 0 0 _ _ _ _ _).next (AB _ _)⟩
end
structure Few5(s:Sv):Prop where
 d:s.fs.length≤400
 l:s.ts.length≤400
 n:s.tr.ns.length≤400
 i:s.tr.ss.length≤2147483647
 w:s.ws.length≤400
theorem II.few{q:Ps}(ok:II 300 q):Few5 (svP i q):=by
 have h2:=ok.small.2;have he:∀ (e:Int) (x:DF),(epD e++[x]).length≤400:=fun e x=>by simp only[epD];split<;>simp
 cases hu:q.up with
 |true=>
  have g:=ok.play.good ok.dn;have hw:=ok.wl;rw[DJ hu];exact⟨he _ _,by show q.m.length≤400;omega,by show (NQ q.m q.dn).ns.length≤400;exact g.nod.few,OV g.ses,by show q.ws.length≤400;omega⟩
 |false=>
  rw[MB hu];exact⟨he _ _,Nat.zero_le _,by show MI.ns.length≤400;decide,by show MI.ss.length≤2147483647;decide,Nat.zero_le _⟩
def C24(w:World)(s:Sv)(e:Ending)(w':World):Prop:=
 ∃ad cd al cl an cn ai ci aw cw,e=.returned (.agg #[.bool s.up,.slice ad s.fs.length cd,I0 s.id,I0 s.ep,.slice al s.ts.length cl,I0 s.dn,I0 s.tr.z,.slice an s.tr.ns.length cn,.slice ai s.tr.ss.length ci,.slice aw s.ws.length cw])∧
  BF w' w.heap.size (.slice ad s.fs.length cd) s.fs∧BF w' w.heap.size (.slice al s.ts.length cl) s.ts∧BF w' w.heap.size (.slice an s.tr.ns.length cn) s.tr.ns∧BF w' w.heap.size (.slice ai s.tr.ss.length ci) s.tr.ss∧BF w' w.heap.size (.slice aw s.ws.length cw) s.ws∧B0 w w'
theorem CG2(x0 x1 x2 x3 x4 x5 x6 x7 x8 x9:Value)(w:World):(Instr.field 48 (.agg #[x0,x1,x2,x3,x4,x5,x6,x7,x8,x9]) 2).run prog w=.ok (.agg #[x2,x3,x4,x5]) w:=by kernel_rfl
theorem CG3(x0 x1 x2 x3:Value)(w:World):(Instr.field 41 (.agg #[x0,x1,x2,x3]) 2).run prog w=.ok x2 w:=by kernel_rfl
theorem kG(p:Pw)(k i:Nat)(W:World)(hx:WX W k p)(hi:i<3)(s:Sv)(hs:svP i (p.s i)=s)(hf:Few5 s):
  Calls prog 8 #[wP k,I0 i] W (C24 W s):=by
 obtain⟨ad,nd,cd,al,cl,an,cn,ai,ci,aw,cw,S0,hv,_⟩:=hx.srv hi hs;obtain⟨vd,vl,vn,vs,vw,he,d1,l1,n1,s1,k1⟩:=hv;simp only[Value.agg.injEq,Array.mk.injEq,List.cons.injEq,true_and,and_true]at he;obtain⟨rfl,rfl,rfl,rfl,rfl⟩:=he;have hk0:=hx.lt;have HD:=AA (fun V (hV:B0 W V)=>AP5 _ s.fs V (NG.2 (d1.next hV)) (by have:=hf.d;omega));have HL:=AA (fun V (hV:B0 W V)=>lM _ s.ts V (JH.2 (l1.next hV)) (by have:=hf.l;omega));have HN:=AA (fun V (hV:B0 W V)=>AP6 _ s.tr.ns V (n1.next hV) (by have:=hf.n;omega));have HI:=AA (fun V (hV:B0 W V)=>YO _ s.tr.ss V (s1.next hV) hf.i);have HW:=AA (fun V (hV:B0 W V)=>AP7 _ s.ws V (k1.next hV) (by have:=hf.w;omega));have HS:=AA (fun V (hV:B0 W V)=>S0.next hk0 hV);have CC:=ZN i 3;rw[show iE i 3=true by simp[iE];omega]at CC;clear d1 l1 n1 s1 k1 hf hx hs S0;obtain⟨up,fs,id,ep,ts,dn,⟨tz,tns,tss⟩,ws⟩:=s;simp only[Nat.mul_comm 10 i]at*;have hi4:(i:Int)<3:=by omega
 have hi5:(0:Int)≤i:=by omega
 unfold wP;go_enter func8,ntmps8;go_wp2_with fail;refine(CC _).mono ?_;rintro e w1 ⟨rfl,rfl⟩;obtain⟨c0,c1,c2,c3,c4,c5,c6,c7,c8,c9⟩:=A8 HS _ (AB W (.cells #[.bool false,N0,I0 0,I0 0,N0,I0 0,I0 0,N0,N0,N0] 48));clear CC HS;go_upto_region 4 with fail;clear c0 c1 c2 c3 c4 c5 c6 c7 c8 c9;have X0:=SB2.start W up id ep dn tz (.slice ad nd cd) (.slice al ts.length cl) (.slice an tns.length cn) (.slice ai tss.length ci) (.slice aw ws.length cw);generalize ((W.alloc (.cells #[.bool false,N0,I0 0,I0 0,N0,I0 0,I0 0,N0,N0,N0] 48)).alloc _)=V0 at*;have HX0:=AA X0;obtain⟨x0,x1,x2,x3,x4,x5,x6,x7,x8,x9⟩:=X0.s.cells;clear X0 hi4 hi5 hi hk0;go_wp2_with fail;refine(A8 HD _ (A8 HX0).below).mono ?_;rintro e w1 ⟨v1,rfl,o1,hb1⟩;obtain⟨a1,c1,rfl,_⟩:=o1.slice;have z1:W.heap.size+2≤V0.heap.size:=(A8 HX0).s.lt;have X1:=(A8 HX0).next hb1;have Y1:=X1.put 1 (.slice a1 fs.length c1) rfl;have y:=(X1.s.cells);have g1:=X1.s.AX 1;have O1:=AA (DN (j:=1) (u:=.slice a1 fs.length c1) (o1.lower z1) (by omega:W.heap.size+1<_));clear X1 o1 hb1 z1 HX0 HD x0 x1 x2 x3 x4 x5 x6 x7 x8 x9;obtain⟨x0,x1,x2,x3,x4,x5,x6,x7,x8,x9⟩:=y;have HX1:=AA Y1;clear Y1;go_upto_region 5 with fail;generalize w1.setCell ⟨W.heap.size+1,1,none⟩ (.slice a1 fs.length c1)=V1 at*;clear x0 x1 x2 x3 x4 x5 x6 x7 x8 x9 g1;obtain⟨x0,x1,x2,x3,x4,x5,x6,x7,x8,x9⟩:=(A8 HX1).s.cells;go_wp2_with fail;refine(A8 HL _ (A8 HX1).below).mono ?_;rintro e w2 ⟨v2,rfl,o2,hb2⟩;obtain⟨a2,c2,rfl,_⟩:=o2.slice;have z2:W.heap.size+2≤V1.heap.size:=(A8 HX1).s.lt;have X2:=(A8 HX1).next hb2;have Y2:=X2.put 4 (.slice a2 ts.length c2) rfl;have y:=(X2.s.cells);have g2:=X2.s.AX 4;replace O1:=AA (DN (j:=4) (u:=.slice a2 ts.length c2) ((A8 O1).next hb2) (by omega:W.heap.size+1<_));have O2:=AA (DN (j:=4) (u:=.slice a2 ts.length c2) (o2.lower z2) (by omega:W.heap.size+1<_));clear X2 o2 hb2 z2 HX1 HL x0 x1 x2 x3 x4 x5 x6 x7 x8 x9;obtain⟨x0,x1,x2,x3,x4,x5,x6,x7,x8,x9⟩:=y;have HX2:=AA Y2;clear Y2;go_upto_region 6 with fail;generalize w2.setCell ⟨W.heap.size+1,4,none⟩ (.slice a2 ts.length c2)=V2 at*;clear x0 x1 x2 x3 x4 x5 x6 x7 x8 x9 g2;obtain⟨x0,x1,x2,x3,x4,x5,x6,x7,x8,x9⟩:=(A8 HX2).s.cells;go_wp2_with fail;refine(A8 HN _ (A8 HX2).below).mono ?_;rintro e w3 ⟨v3,rfl,o3,hb3⟩;obtain⟨a3,c3,rfl,_⟩:=o3.slice;have z3:W.heap.size+2≤V2.heap.size:=(A8 HX2).s.lt;have X3:=(A8 HX2).next hb3;have Y3:=X3.put 7 (.slice a3 tns.length c3) rfl;have y:=(X3.s.cells);have g3:=X3.s.AX 7;replace O1:=AA (DN (j:=7) (u:=.slice a3 tns.length c3) ((A8 O1).next hb3) (by omega:W.heap.size+1<_));replace O2:=AA (DN (j:=7) (u:=.slice a3 tns.length c3) ((A8 O2).next hb3) (by omega:W.heap.size+1<_));have O3:=AA (DN (j:=7) (u:=.slice a3 tns.length c3) (o3.lower z3) (by omega:W.heap.size+1<_));clear X3 o3 hb3 z3 HX2 HN x0 x1 x2 x3 x4 x5 x6 x7 x8 x9;obtain⟨x0,x1,x2,x3,x4,x5,x6,x7,x8,x9⟩:=y;have HX3:=AA Y3;clear Y3;go_upto_region 7 with fail;generalize w3.setCell ⟨W.heap.size+1,7,none⟩ (.slice a3 tns.length c3)=V3 at*;clear x0 x1 x2 x3 x4 x5 x6 x7 x8 x9 g3;obtain⟨x0,x1,x2,x3,x4,x5,x6,x7,x8,x9⟩:=(A8 HX3).s.cells;go_wp2_with fail;refine(A8 HI _ (A8 HX3).below).mono ?_;rintro e w4 ⟨v4,rfl,o4,hb4⟩;obtain⟨a4,c4,rfl,_⟩:=o4.slice;have z4:W.heap.size+2≤V3.heap.size:=(A8 HX3).s.lt;have X4:=(A8 HX3).next hb4;have Y4:=X4.put 8 (.slice a4 tss.length c4) rfl;have y:=(X4.s.cells);have g4:=X4.s.AX 8;replace O1:=AA (DN (j:=8) (u:=.slice a4 tss.length c4) ((A8 O1).next hb4) (by omega:W.heap.size+1<_));replace O2:=AA (DN (j:=8) (u:=.slice a4 tss.length c4) ((A8 O2).next hb4) (by omega:W.heap.size+1<_));replace O3:=AA (DN (j:=8) (u:=.slice a4 tss.length c4) ((A8 O3).next hb4) (by omega:W.heap.size+1<_));have O4:=AA (DN (j:=8) (u:=.slice a4 tss.length c4) (o4.lower z4) (by omega:W.heap.size+1<_));clear X4 o4 hb4 z4 HX3 HI x0 x1 x2 x3 x4 x5 x6 x7 x8 x9;obtain⟨x0,x1,x2,x3,x4,x5,x6,x7,x8,x9⟩:=y;have HX4:=AA Y4;clear Y4;go_upto_region 8 with fail;generalize w4.setCell ⟨W.heap.size+1,8,none⟩ (.slice a4 tss.length c4)=V4 at*;clear x0 x1 x2 x3 x4 x5 x6 x7 x8 x9 g4;obtain⟨x0,x1,x2,x3,x4,x5,x6,x7,x8,x9⟩:=(A8 HX4).s.cells
 go_wp2_with fail;refine(A8 HW _ (A8 HX4).below).mono ?_;rintro e w5 ⟨v5,rfl,o5,hb5⟩;obtain⟨a5,c5,rfl,_⟩:=o5.slice;have z5:W.heap.size+2≤V4.heap.size:=(A8 HX4).s.lt;have X5:=(A8 HX4).next hb5;have Y5:=X5.put 9 (.slice a5 ws.length c5) rfl;have y:=(X5.s.cells);have g5:=X5.s.AX 9;replace O1:=AA (DN (j:=9) (u:=.slice a5 ws.length c5) ((A8 O1).next hb5) (by omega:W.heap.size+1<_));replace O2:=AA (DN (j:=9) (u:=.slice a5 ws.length c5) ((A8 O2).next hb5) (by omega:W.heap.size+1<_));replace O3:=AA (DN (j:=9) (u:=.slice a5 ws.length c5) ((A8 O3).next hb5) (by omega:W.heap.size+1<_));replace O4:=AA (DN (j:=9) (u:=.slice a5 ws.length c5) ((A8 O4).next hb5) (by omega:W.heap.size+1<_));have O5:=AA (DN (j:=9) (u:=.slice a5 ws.length c5) (o5.lower z5) (by omega:W.heap.size+1<_));clear X5 o5 hb5 z5 HX4 HW x0 x1 x2 x3 x4 x5 x6 x7 x8 x9;obtain⟨x0,x1,x2,x3,x4,x5,x6,x7,x8,x9⟩:=y;have HX5:=AA Y5;clear Y5;go_upto_region 9 with fail;generalize w5.setCell ⟨W.heap.size+1,9,none⟩ (.slice a5 ws.length c5)=V5 at*;clear x0 x1 x2 x3 x4 x5 x6 x7 x8 x9 g5;obtain⟨x0,x1,x2,x3,x4,x5,x6,x7,x8,x9⟩:=(A8 HX5).s.cells;obtain⟨r0,r1,r2,r3,r4,r5,r6,r7,r8,r9⟩:=(A8 HX5).r.cells;have rf0:=(A8 HX5).r.AX 0;have rf1:=(A8 HX5).r.AX 1;have rf2:=(A8 HX5).r.AX 2;have rf3:=(A8 HX5).r.AX 3;have rf4:=(A8 HX5).r.AX 4;have rf5:=(A8 HX5).r.AX 5;have rf6:=(A8 HX5).r.AX 6;have rf7:=(A8 HX5).r.AX 7;have rf8:=(A8 HX5).r.AX 8;have rf9:=(A8 HX5).r.AX 9;have HF:=AA (EU (A8 HX5).below (Nat.le_refl _) (.bool up) (.slice a1 fs.length c1) (I0 id) (I0 ep) (.slice a2 ts.length c2) (I0 dn) (I0 tz) (.slice a3 tns.length c3) (.slice a4 tss.length c4) (.slice a5 ws.length c5));have Q1:=AA ((JL (A8 O1) (by omega:W.heap.size<_) (.bool up) (.slice a1 fs.length c1) (I0 id) (I0 ep) (.slice a2 ts.length c2) (I0 dn) (I0 tz) (.slice a3 tns.length c3) (.slice a4 tss.length c4) (.slice a5 ws.length c5)).lower (Nat.le_add_right _ 2));have Q2:=AA ((JL (A8 O2) (by omega:W.heap.size<_) (.bool up) (.slice a1 fs.length c1) (I0 id) (I0 ep) (.slice a2 ts.length c2) (I0 dn) (I0 tz) (.slice a3 tns.length c3) (.slice a4 tss.length c4) (.slice a5 ws.length c5)).lower (Nat.le_add_right _ 2));have Q3:=AA ((JL (A8 O3) (by omega:W.heap.size<_) (.bool up) (.slice a1 fs.length c1) (I0 id) (I0 ep) (.slice a2 ts.length c2) (I0 dn) (I0 tz) (.slice a3 tns.length c3) (.slice a4 tss.length c4) (.slice a5 ws.length c5)).lower (Nat.le_add_right _ 2));have Q4:=AA ((JL (A8 O4) (by omega:W.heap.size<_) (.bool up) (.slice a1 fs.length c1) (I0 id) (I0 ep) (.slice a2 ts.length c2) (I0 dn) (I0 tz) (.slice a3 tns.length c3) (.slice a4 tss.length c4) (.slice a5 ws.length c5)).lower (Nat.le_add_right _ 2));have Q5:=AA ((JL (A8 O5) (by omega:W.heap.size<_) (.bool up) (.slice a1 fs.length c1) (I0 id) (I0 ep) (.slice a2 ts.length c2) (I0 dn) (I0 tz) (.slice a3 tns.length c3) (.slice a4 tss.length c4) (.slice a5 ws.length c5)).lower (Nat.le_add_right _ 2));clear O1 O2 O3 O4 O5 HX5;go_wp2_with fail;exact bodyPost_ret (v:=.agg #[.bool up,.slice a1 fs.length c1,I0 id,I0 ep,.slice a2 ts.length c2,I0 dn,I0 tz,.slice a3 tns.length c3,.slice a4 tss.length c4,.slice a5 ws.length c5]) (by simp[results,results8,go_sem,r0,r1,r2,r3,r4,r5,r6,r7,r8,r9]) rfl ⟨a1,c1,a2,c2,a3,c3,a4,c4,a5,c5,rfl,A8 Q1,A8 Q2,A8 Q3,A8 Q4,A8 Q5,A8 HF⟩
end Go.Proofs.YtodnhndkghdinaaGreatDoor
