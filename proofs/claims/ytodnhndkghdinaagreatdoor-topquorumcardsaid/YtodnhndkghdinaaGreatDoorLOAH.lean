/-
  Part.
-/
import Derived.Test.YtodnhndkghdinaaGreatDoorLOAE
import Derived.Test.YtodnhndkghdinaaGreatDoorLOAG
set_option maxRecDepth 20000
set_option maxHeartbeats 8000000
namespace Go.Proofs.YtodnhndkghdinaaGreatDoor
open Go.RowKit Go.Proofs.Tryz
variable{w W:World}
structure BH7(w W:World)(q:Nat)(n:Nd):Prop where
 b:B0 w W
 le:w.heap.size≤q
 one:F5 W q n
theorem A58(p d:List UInt8)(c m q v k o n:Int)(hb:B0 w W):BH7 w (W.alloc (.cells #[S0 p,S0 d,I0 c,I0 m,I0 q,I0 v,I0 k,I0 o,I0 n] 58)) W.heap.size ⟨p,d,c,m,q,v,k,o,n⟩:=
 ⟨AL hb (AB _ _),hb.size,lS W ⟨p,d,c,m,q,v,k,o,n⟩⟩
theorem nD{b:Nat}(p d:List UInt8)(c m q v k o n:Int)(hb:B0 w W)(hq:w.heap.size≤b)(hz:F5 W b RV):
  BH7 w (((((((((W.setCell ⟨b,0,none⟩ (S0 p)).setCell ⟨b,1,none⟩ (S0 d)).setCell ⟨b,2,none⟩ (I0 c)).setCell ⟨b,3,none⟩ (I0 m)).setCell ⟨b,4,none⟩ (I0 q)).setCell ⟨b,5,none⟩ (I0 v)).setCell ⟨b,6,none⟩ (I0 k)).setCell ⟨b,7,none⟩ (I0 o)).setCell ⟨b,8,none⟩ (I0 n)) b ⟨p,d,c,m,q,v,k,o,n⟩:=by
 refine⟨((((((((hb.setCell hq _).setCell hq _).setCell hq _).setCell hq _).setCell hq _).setCell hq _).setCell hq _).setCell hq _).setCell hq _,hq,?_⟩;have h0:W.heap[b]?=some (.cells #[.string ⟨#[]⟩,.string ⟨#[]⟩,I0 0,I0 0,I0 0,I0 0,I0 0,I0 0,I0 0] 58 (0,0)):=hz;unfold F5;rw[AV _ (AV _ (AV _ (AV _ (AV _ (AV _ (AV _ (AV _ (AV _ h0))))))))];simp;exact⟨rfl,rfl⟩
theorem nG{q:Nat}(h:F5 W q RV):(W.cell? ⟨q,0,none⟩=some (.string ⟨#[]⟩)∧W.cell? ⟨q,1,none⟩=some (.string ⟨#[]⟩)∧W.cell? ⟨q,2,none⟩=some (I0 0)∧W.cell? ⟨q,3,none⟩=some (I0 0)∧W.cell? ⟨q,4,none⟩=some (I0 0)∧W.cell? ⟨q,5,none⟩=some (I0 0)∧W.cell? ⟨q,6,none⟩=some (I0 0)∧W.cell? ⟨q,7,none⟩=some (I0 0)∧W.cell? ⟨q,8,none⟩=some (I0 0))∧W.frozen? ⟨q,0,none⟩=false∧W.frozen? ⟨q,1,none⟩=false∧W.frozen? ⟨q,2,none⟩=false∧W.frozen? ⟨q,3,none⟩=false∧W.frozen? ⟨q,4,none⟩=false∧W.frozen? ⟨q,5,none⟩=false∧W.frozen? ⟨q,6,none⟩=false∧W.frozen? ⟨q,7,none⟩=false∧W.frozen? ⟨q,8,none⟩=false:=
 ⟨⟨h.ER 0 _ rfl,h.ER 1 _ rfl,h.ER 2 _ rfl,h.ER 3 _ rfl,h.ER 4 _ rfl,h.ER 5 _ rfl,h.ER 6 _ rfl,h.ER 7 _ rfl,h.ER 8 _ rfl⟩,h.DW 0,h.DW 1,h.DW 2,h.DW 3,h.DW 4,h.DW 5,h.DW 6,h.DW 7,h.DW 8⟩
structure BO0(w W:World)(q:Nat)(s z:Int)(v:Value)(es:List En):Prop where
 b:B0 w W
 le:w.heap.size≤q
 box:JQ W q s z v
 v:BZ W v es
theorem A59{B:Nat}{s z:Int}{v:Value}{es:List En}(h:B0 w W)(ho:BF W B v es):BO0 w (W.alloc (.cells #[I0 s,I0 z,v] 75)) W.heap.size s z v es:=
 ⟨AL h (AB _ _),h.size,JQ.new W s z v,(ho.next (AB _ _)).seq⟩
theorem A60{k B:Nat}{v0:Value}{s z:Int}{v:Value}{es:List En}(h:B0 w W)(hk:w.heap.size≤k)(hz:JQ W k 0 0 v0)(ho:BF W B v es)(hB:k<B):BO0 w (((W.setCell ⟨k,0,none⟩ (I0 s)).setCell ⟨k,1,none⟩ (I0 z)).setCell ⟨k,2,none⟩ v) k s z v es:=
 ⟨((h.setCell hk _).setCell hk _).setCell hk _,hk,(hz.set0.set1).set2,(((ho.KF hB _).KF hB _).KF hB _).seq⟩
def MV(s z:Nat→Int)(a:Nat→Option Addr)(n c:Nat→Nat):Array Value:=#[I0 (s 0),I0 (z 0),.slice (a 0) (n 0) (c 0),I0 (s 1),I0 (z 1),.slice (a 1) (n 1) (c 1),I0 (s 2),I0 (z 2),.slice (a 2) (n 2) (c 2),I0 (s 3),I0 (z 3),.slice (a 3) (n 3) (c 3),I0 (s 4),I0 (z 4),.slice (a 4) (n 4) (c 4),I0 (s 5),I0 (z 5),.slice (a 5) (n 5) (c 5),I0 (s 6),I0 (z 6),.slice (a 6) (n 6) (c 6),I0 (s 7),I0 (z 7),.slice (a 7) (n 7) (c 7),I0 (s 8),I0 (z 8),.slice (a 8) (n 8) (c 8),I0 (s 9),I0 (z 9),.slice (a 9) (n 9) (c 9),I0 (s 10),I0 (z 10),.slice (a 10) (n 10) (c 10),I0 (s 11),I0 (z 11),.slice (a 11) (n 11) (c 11),I0 (s 12),I0 (z 12),.slice (a 12) (n 12) (c 12),I0 (s 13),I0 (z 13),.slice (a 13) (n 13) (c 13),I0 (s 14),I0 (z 14),.slice (a 14) (n 14) (c 14),I0 (s 15),I0 (z 15),.slice (a 15) (n 15) (c 15)]
theorem ix_0(s z:Nat→Int)(a:Nat→Option Addr)(n c:Nat→Nat):∀u:World,(Instr.index 76 (.agg (MV s z a n c)) (I0 0)).run prog u=.ok (.agg #[I0 (s 0),I0 (z 0),.slice (a 0) (n 0) (c 0)]) u:=fun _=>by kernel_rfl
theorem ix_1(s z:Nat→Int)(a:Nat→Option Addr)(n c:Nat→Nat):∀u:World,(Instr.index 76 (.agg (MV s z a n c)) (I0 1)).run prog u=.ok (.agg #[I0 (s 1),I0 (z 1),.slice (a 1) (n 1) (c 1)]) u:=fun _=>by kernel_rfl
theorem ix_2(s z:Nat→Int)(a:Nat→Option Addr)(n c:Nat→Nat):∀u:World,(Instr.index 76 (.agg (MV s z a n c)) (I0 2)).run prog u=.ok (.agg #[I0 (s 2),I0 (z 2),.slice (a 2) (n 2) (c 2)]) u:=fun _=>by kernel_rfl
theorem ix_3(s z:Nat→Int)(a:Nat→Option Addr)(n c:Nat→Nat):∀u:World,(Instr.index 76 (.agg (MV s z a n c)) (I0 3)).run prog u=.ok (.agg #[I0 (s 3),I0 (z 3),.slice (a 3) (n 3) (c 3)]) u:=fun _=>by kernel_rfl
theorem ix_4(s z:Nat→Int)(a:Nat→Option Addr)(n c:Nat→Nat):∀u:World,(Instr.index 76 (.agg (MV s z a n c)) (I0 4)).run prog u=.ok (.agg #[I0 (s 4),I0 (z 4),.slice (a 4) (n 4) (c 4)]) u:=fun _=>by kernel_rfl
theorem ix_5(s z:Nat→Int)(a:Nat→Option Addr)(n c:Nat→Nat):∀u:World,(Instr.index 76 (.agg (MV s z a n c)) (I0 5)).run prog u=.ok (.agg #[I0 (s 5),I0 (z 5),.slice (a 5) (n 5) (c 5)]) u:=fun _=>by kernel_rfl
theorem ix_6(s z:Nat→Int)(a:Nat→Option Addr)(n c:Nat→Nat):∀u:World,(Instr.index 76 (.agg (MV s z a n c)) (I0 6)).run prog u=.ok (.agg #[I0 (s 6),I0 (z 6),.slice (a 6) (n 6) (c 6)]) u:=fun _=>by kernel_rfl
theorem ix_7(s z:Nat→Int)(a:Nat→Option Addr)(n c:Nat→Nat):∀u:World,(Instr.index 76 (.agg (MV s z a n c)) (I0 7)).run prog u=.ok (.agg #[I0 (s 7),I0 (z 7),.slice (a 7) (n 7) (c 7)]) u:=fun _=>by kernel_rfl
theorem ix_8(s z:Nat→Int)(a:Nat→Option Addr)(n c:Nat→Nat):∀u:World,(Instr.index 76 (.agg (MV s z a n c)) (I0 8)).run prog u=.ok (.agg #[I0 (s 8),I0 (z 8),.slice (a 8) (n 8) (c 8)]) u:=fun _=>by kernel_rfl
theorem ix_9(s z:Nat→Int)(a:Nat→Option Addr)(n c:Nat→Nat):∀u:World,(Instr.index 76 (.agg (MV s z a n c)) (I0 9)).run prog u=.ok (.agg #[I0 (s 9),I0 (z 9),.slice (a 9) (n 9) (c 9)]) u:=fun _=>by kernel_rfl
theorem CJ9(s z:Nat→Int)(a:Nat→Option Addr)(n c:Nat→Nat):∀u:World,(Instr.index 76 (.agg (MV s z a n c)) (I0 10)).run prog u=.ok (.agg #[I0 (s 10),I0 (z 10),.slice (a 10) (n 10) (c 10)]) u:=fun _=>by kernel_rfl
theorem CK1(s z:Nat→Int)(a:Nat→Option Addr)(n c:Nat→Nat):∀u:World,(Instr.index 76 (.agg (MV s z a n c)) (I0 11)).run prog u=.ok (.agg #[I0 (s 11),I0 (z 11),.slice (a 11) (n 11) (c 11)]) u:=fun _=>by kernel_rfl
theorem CK2(s z:Nat→Int)(a:Nat→Option Addr)(n c:Nat→Nat):∀u:World,(Instr.index 76 (.agg (MV s z a n c)) (I0 12)).run prog u=.ok (.agg #[I0 (s 12),I0 (z 12),.slice (a 12) (n 12) (c 12)]) u:=fun _=>by kernel_rfl
theorem CK3(s z:Nat→Int)(a:Nat→Option Addr)(n c:Nat→Nat):∀u:World,(Instr.index 76 (.agg (MV s z a n c)) (I0 13)).run prog u=.ok (.agg #[I0 (s 13),I0 (z 13),.slice (a 13) (n 13) (c 13)]) u:=fun _=>by kernel_rfl
theorem CK4(s z:Nat→Int)(a:Nat→Option Addr)(n c:Nat→Nat):∀u:World,(Instr.index 76 (.agg (MV s z a n c)) (I0 14)).run prog u=.ok (.agg #[I0 (s 14),I0 (z 14),.slice (a 14) (n 14) (c 14)]) u:=fun _=>by kernel_rfl
theorem CK5(s z:Nat→Int)(a:Nat→Option Addr)(n c:Nat→Nat):∀u:World,(Instr.index 76 (.agg (MV s z a n c)) (I0 15)).run prog u=.ok (.agg #[I0 (s 15),I0 (z 15),.slice (a 15) (n 15) (c 15)]) u:=fun _=>by kernel_rfl
theorem CC6(s z:Nat→Int)(a:Nat→Option Addr)(n c:Nat→Nat)(m:Nat)(hm:m<16)(u:World):(Instr.index 76 (.agg (MV s z a n c)) (I0 m)).run prog u=.ok (.agg #[I0 (s m),I0 (z m),.slice (a m) (n m) (c m)]) u:=by
 rcases(show m=0∨m=1∨m=2∨m=3∨m=4∨m=5∨m=6∨m=7∨m=8∨m=9∨m=10∨m=11∨m=12∨m=13∨m=14∨m=15 by omega)with rfl|rfl|rfl|rfl|rfl|rfl|rfl|rfl|rfl|rfl|rfl|rfl|rfl|rfl|rfl|rfl
 ·exact ix_0 s z a n c u
 ·exact ix_1 s z a n c u
 ·exact ix_2 s z a n c u
 ·exact ix_3 s z a n c u
 ·exact ix_4 s z a n c u
 ·exact ix_5 s z a n c u
 ·exact ix_6 s z a n c u
 ·exact ix_7 s z a n c u
 ·exact ix_8 s z a n c u
 ·exact ix_9 s z a n c u
 ·exact CJ9 s z a n c u
 ·exact CK1 s z a n c u
 ·exact CK2 s z a n c u
 ·exact CK3 s z a n c u
 ·exact CK4 s z a n c u
 ·exact CK5 s z a n c u
theorem WX.BI3{k:Nat}{p:Pw}(h:WX W k p){c:Nat→Cl}(he:∀i,i<16→p.c i=c i):WX W k ⟨p.n,p.s,p.r,c,p.D,p.H,p.h⟩:=by
 obtain⟨f,hb,hr⟩:=h;exact⟨f,hb,hr.n,hr.s,hr.r,fun i hi=>by have:=hr.c i hi;rw[he i hi]at this;exact this,hr.d,hr.h,hr.hk⟩
def nH(c:Nat→Cl)(l:List Nt)(m:Nat):Nat→Cl:=fun i=>if i<m then VZ c l i else c i
theorem B07(c:Nat→Cl)(l:List Nt){i:Nat}(hi:i<16):nH c l 16 i=VZ c l i:=by rw[nH,if_pos hi]
theorem kE(c:Nat→Cl)(l:List Nt)(m i:Nat):H6 (nH c l m) m ⟨(c m).s,(c m).z,QC (c m).s l (c m).es⟩ i=nH c l (m+1) i:=by
 by_cases e:i=m
 ·subst e;rw[BQ,nH,if_pos (by omega)];rfl
 ·rw[AP _ _ e,nH,nH];by_cases h:i<m
  ·rw[if_pos h,if_pos (by omega)]
  ·rw[if_neg h,if_neg (by omega)]
structure TlI(W wr wx:World)(k:Nat)(p:Pw)(R1:Nat→Ps)(NN:List Nt)(vn:Value)(m:Nat):Prop where
 x:WX wx k ⟨p.n,R1,p.r,nH p.c NN m,p.D,p.H,p.h⟩
 n:BF wx W.heap.size vn NN
 t:Touch (· =k) W wx
 r:Touch (· =k) wr wx
theorem BI4(s z:Nat→Int)(a:Nat→Option Addr)(n c:Nat→Nat)(m:Nat)(hm:m<16):(MV s z a n c)[3*m]?=some (I0 (s m))∧(MV s z a n c)[3*m+1]?=some (I0 (z m))∧(MV s z a n c)[3*m+2]?=some (.slice (a m) (n m) (c m)):=by
 rcases(show m=0∨m=1∨m=2∨m=3∨m=4∨m=5∨m=6∨m=7∨m=8∨m=9∨m=10∨m=11∨m=12∨m=13∨m=14∨m=15 by omega)with rfl|rfl|rfl|rfl|rfl|rfl|rfl|rfl|rfl|rfl|rfl|rfl|rfl|rfl|rfl|rfl<;>exact⟨rfl,rfl,rfl⟩
theorem AG5(w:World)(k:Nat)(s z:Nat→Int)(a:Nat→Option Addr)(n c:Nat→Nat)(hc:∀m,m<16→w.cell? ⟨k,34+3*m,none⟩=some (I0 (s m))∧w.cell? ⟨k,34+3*m+1,none⟩=some (I0 (z m))∧w.cell? ⟨k,34+3*m+2,none⟩=some (.slice (a m) (n m) (c m))):
  (Instr.loadAt 76 (.pointer (some ⟨k,34,none⟩))).run prog w=.ok (.agg (MV s z a n c)) w:=by
 have hl:=run_loadCells_list (P:=prog) (w:=w) ⟨k,34,none⟩ (MV s z a n c).toList (fun j v hj=>by
  have hj48:j<48:=by
   have:=(List.getElem?_eq_some_iff.1 hj).1;simpa [MV]using this
  rw[Array.getElem?_toList]at hj;have h:=BI4 s z a n c (j/3) (by omega);have hw:=hc (j/3) (by omega);rw[Addr.add_lit];show w.cell? ⟨k,34+j,none⟩=some v;rcases(show j=3*(j/3)∨j=3*(j/3)+1∨j=3*(j/3)+2 by omega)with e|e|e
  ·rw[e]at hj⊢;rw[h.1]at hj;rw[←hj];exact hw.1
  ·rw[e]at hj⊢;rw[h.2.1]at hj;rw[←hj,←Nat.add_assoc];exact hw.2.1
  ·rw[e]at hj⊢;rw[h.2.2]at hj;rw[←hj,←Nat.add_assoc];exact hw.2.2)
 have h48:(MV s z a n c).toList.length=48:=rfl;rw[h48]at hl;simp only[Instr.loadAt,Instr.sureAddr,Sem.run_bind,Sem.run_pure,Result.andThen];unfold loadVar;simp only[Sem.run_bind,isAgg76,sizeOf76,Result.andThen,if_true];rw[hl];rfl
theorem nI{w:World}{ops:Array Oper}{rest:List Oper}{o:Oper}{a:Act}{Q:Exit→Act→World→Prop}(hgd:o.guard=none)(x:Operand)(ho:o.op=.load 76 x)(k:Nat)(s z:Nat→Int)(ad:Nat→Option Addr)(n c:Nat→Nat)
  (hx:a.eval x=.pointer (some ⟨k,34,none⟩)) (hc:∀m,m<16→w.cell? ⟨k,34+3*m,none⟩=some (I0 (s m))∧w.cell? ⟨k,34+3*m+1,none⟩=some (I0 (z m))∧w.cell? ⟨k,34+3*m+2,none⟩=some (.slice (ad m) (n m) (c m)))
  (h:wpList prog ops Q rest (a.put o.dst (.agg (MV s z ad n c))) w):wpList prog ops Q (o::rest) a w:=by
 refine wpList_plain hgd fun K hK=>?_;have hr:=AG5 w k s z ad n c hc;unfold Oper.wp execOp;simp only[ho,Sem.run_bind,Sem.run_pure,Result.andThen_ok,hx,hr];exact hK _ _ h
end Go.Proofs.YtodnhndkghdinaaGreatDoor
