/-
  Part.
-/
import Derived.Test.YtmbmehcoidjiaaaGreatDoorLOAD
import Derived.Test.YtmbmehcoidjiaaaGreatDoorLOAE
set_option maxRecDepth 20000
set_option maxHeartbeats 8000000
namespace Go.Proofs.YtmbmehcoidjiaaaGreatDoor
open Go.RowKit Go.Proofs.Tryz
variable{w W:World}
theorem kD(d:Dd)(W:World):Calls prog 28 #[ddV d] W (R0 W (I0 (QK d))):=by
 have HB:=AA (fun o=>AB W o);have C:=AA (fun i m V=>ZQ i m V);obtain⟨dk,dc,ds,⟨o,s,pp,dd,v,f⟩,lo,sl,ke,wt⟩:=d;unfold ddV;by_cases h1:dk=1
 ·subst h1
  cases hc:iG dc 16 with
  |true=>
   rw[show QK ⟨1,dc,ds,⟨o,s,pp,dd,v,f⟩,lo,sl,ke,wt⟩=0 by simp[QK,hc]];go_enter func28,ntmps28;go_wp2_with fail;refine(A8 C _ _ _).mono ?_;rintro e w1 ⟨rfl,rfl⟩;simp only[hc];go_wp2_with fail;go_ret;exact⟨rfl,A8 HB _⟩
  |false=>
   rw[show QK ⟨1,dc,ds,⟨o,s,pp,dd,v,f⟩,lo,sl,ke,wt⟩=3 by simp[QK,hc]];go_enter func28,ntmps28;go_wp2_with fail;refine(A8 C _ _ _).mono ?_;rintro e w1 ⟨rfl,rfl⟩;simp only[hc];go_wp2_with fail;go_ret;exact⟨rfl,A8 HB _⟩
 ·by_cases h2:dk=2
  ·subst h2
   cases hc:iG dc 16 with
   |true=>
    cases hs:iG ds 3 with
    |true=>
     rw[show QK ⟨2,dc,ds,⟨o,s,pp,dd,v,f⟩,lo,sl,ke,wt⟩=0 by simp[QK,hc,hs]];go_enter func28,ntmps28;go_wp2_with fail;refine(A8 C _ _ _).mono ?_;rintro e w1 ⟨rfl,rfl⟩;simp only[hc];go_wp2_with fail;refine(A8 C _ _ _).mono ?_;rintro e w1 ⟨rfl,rfl⟩;simp only[hs];go_wp2_with fail;go_ret;exact⟨rfl,A8 HB _⟩
    |false=>
     rw[show QK ⟨2,dc,ds,⟨o,s,pp,dd,v,f⟩,lo,sl,ke,wt⟩=3 by simp[QK,hc,hs]];go_enter func28,ntmps28;go_wp2_with fail;refine(A8 C _ _ _).mono ?_;rintro e w1 ⟨rfl,rfl⟩;simp only[hc];go_wp2_with fail;refine(A8 C _ _ _).mono ?_;rintro e w1 ⟨rfl,rfl⟩;simp only[hs];go_wp2_with fail;go_ret;exact⟨rfl,A8 HB _⟩
   |false=>
    rw[show QK ⟨2,dc,ds,⟨o,s,pp,dd,v,f⟩,lo,sl,ke,wt⟩=3 by simp[QK,hc]];go_enter func28,ntmps28;go_wp2_with fail;refine(A8 C _ _ _).mono ?_;rintro e w1 ⟨rfl,rfl⟩;simp only[hc];go_wp2_with fail;go_ret;exact⟨rfl,A8 HB _⟩
  ·by_cases h3:dk=3∨dk=4
   ·rcases h3 with rfl|rfl
    all_goals
     cases hs:iG ds 3 with
     |true=>
      rw[show QK ⟨_,dc,ds,⟨o,s,pp,dd,v,f⟩,lo,sl,ke,wt⟩=0 by simp[QK,hs]];go_enter func28,ntmps28;go_wp2_with fail;refine(A8 C _ _ _).mono ?_;rintro e w1 ⟨rfl,rfl⟩;simp only[hs];go_wp2_with fail;go_ret;exact⟨rfl,A8 HB _⟩
     |false=>
      rw[show QK ⟨_,dc,ds,⟨o,s,pp,dd,v,f⟩,lo,sl,ke,wt⟩=3 by simp[QK,hs]];go_enter func28,ntmps28;go_wp2_with fail;refine(A8 C _ _ _).mono ?_;rintro e w1 ⟨rfl,rfl⟩;simp only[hs];go_wp2_with fail;go_ret;exact⟨rfl,A8 HB _⟩
   ·by_cases h5:dk=5
    ·subst h5;rw[show QK ⟨5,dc,ds,⟨o,s,pp,dd,v,f⟩,lo,sl,ke,wt⟩=0 by simp[QK]];go_enter func28,ntmps28;go_wp2_with fail;go_ret;exact⟨rfl,A8 HB _⟩
    ·have h33:¬dk=3:=fun e=>h3 (.inl e);have h34:¬dk=4:=fun e=>h3 (.inr e);rw[show QK ⟨dk,dc,ds,⟨o,s,pp,dd,v,f⟩,lo,sl,ke,wt⟩=4 by simp[QK,h1,h2,h33,h34,h5]];clear h3;go_enter func28,ntmps28;go_wp2_with fail;go_ret;exact⟨rfl,A8 HB _⟩
theorem BI0(n:Int):bits .and .i64 n 1=n%2:=by
 show IntKind.i64.wrap ((BitVec.ofInt 64 n&&&BitVec.ofInt 64 1).toNat:Int)=_;rw[BitVec.toNat_and,show (BitVec.ofInt 64 1).toNat=1 by decide,Nat.and_one_is_mod,BitVec.toNat_ofInt,IntKind.wrap_i64];omega
theorem C16(n:Int)(i:Nat)(hi:i<3)(w:World):Calls prog 79 #[I0 n,I0 i] w fun e w'=>e=.returned (.bool (A39 n i))∧w'=w:=by
 have e:∀m:Int,(bits .and .i64 m 1==1)=decide (m%2=1):=fun m=>by rw[BI0];rfl
 have E:=AA e;clear e;unfold A39;rcases(show i=0∨i=1∨i=2 by omega)with rfl|rfl|rfl
 ·go_enter func79,ntmps79;go_wp2_with fail;go_ret;exact⟨by show Ending.returned (.bool (bits .and .i64 n 1==1))=_;rw[A8 E,show n/2^0=n by simp],rfl⟩
 ·go_enter func79,ntmps79;go_wp2_with fail;go_ret;exact⟨by show Ending.returned (.bool (bits .and .i64 (n/2) 1==1))=_;rw[A8 E];rfl,rfl⟩
 ·go_enter func79,ntmps79;go_wp2_with fail;go_ret;exact⟨by show Ending.returned (.bool (bits .and .i64 (n/4) 1==1))=_;rw[A8 E];rfl,rfl⟩
structure BI1(w W:World)(q:Nat)(n:Nd):Prop where
 b:B0 w W
 le:w.heap.size≤q
 one:EZ W q n
theorem A61(p d:List UInt8)(c m q v k o n:Int)(hb:B0 w W):BI1 w (W.alloc (.cells #[S0 p,S0 d,I0 c,I0 m,I0 q,I0 v,I0 k,I0 o,I0 n] 76)) W.heap.size ⟨p,d,c,m,q,v,k,o,n⟩:=
 ⟨AL hb (AB _ _),hb.size,lU W ⟨p,d,c,m,q,v,k,o,n⟩⟩
theorem nI{b:Nat}(p d:List UInt8)(c m q v k o n:Int)(hb:B0 w W)(hq:w.heap.size≤b)(hz:EZ W b RX):
  BI1 w (((((((((W.setCell ⟨b,0,none⟩ (S0 p)).setCell ⟨b,1,none⟩ (S0 d)).setCell ⟨b,2,none⟩ (I0 c)).setCell ⟨b,3,none⟩ (I0 m)).setCell ⟨b,4,none⟩ (I0 q)).setCell ⟨b,5,none⟩ (I0 v)).setCell ⟨b,6,none⟩ (I0 k)).setCell ⟨b,7,none⟩ (I0 o)).setCell ⟨b,8,none⟩ (I0 n)) b ⟨p,d,c,m,q,v,k,o,n⟩:=by
 refine⟨((((((((hb.setCell hq _).setCell hq _).setCell hq _).setCell hq _).setCell hq _).setCell hq _).setCell hq _).setCell hq _).setCell hq _,hq,?_⟩;have h0:W.heap[b]?=some (.cells #[.string ⟨#[]⟩,.string ⟨#[]⟩,I0 0,I0 0,I0 0,I0 0,I0 0,I0 0,I0 0] 76 (0,0)):=hz;unfold EZ;rw[AV _ (AV _ (AV _ (AV _ (AV _ (AV _ (AV _ (AV _ (AV _ h0))))))))];simp;exact⟨rfl,rfl⟩
theorem nJ{q:Nat}(h:EZ W q RX):(W.cell? ⟨q,0,none⟩=some (.string ⟨#[]⟩)∧W.cell? ⟨q,1,none⟩=some (.string ⟨#[]⟩)∧W.cell? ⟨q,2,none⟩=some (I0 0)∧W.cell? ⟨q,3,none⟩=some (I0 0)∧W.cell? ⟨q,4,none⟩=some (I0 0)∧W.cell? ⟨q,5,none⟩=some (I0 0)∧W.cell? ⟨q,6,none⟩=some (I0 0)∧W.cell? ⟨q,7,none⟩=some (I0 0)∧W.cell? ⟨q,8,none⟩=some (I0 0))∧W.frozen? ⟨q,0,none⟩=false∧W.frozen? ⟨q,1,none⟩=false∧W.frozen? ⟨q,2,none⟩=false∧W.frozen? ⟨q,3,none⟩=false∧W.frozen? ⟨q,4,none⟩=false∧W.frozen? ⟨q,5,none⟩=false∧W.frozen? ⟨q,6,none⟩=false∧W.frozen? ⟨q,7,none⟩=false∧W.frozen? ⟨q,8,none⟩=false:=
 ⟨⟨h.ER 0 _ rfl,h.ER 1 _ rfl,h.ER 2 _ rfl,h.ER 3 _ rfl,h.ER 4 _ rfl,h.ER 5 _ rfl,h.ER 6 _ rfl,h.ER 7 _ rfl,h.ER 8 _ rfl⟩,h.DX 0,h.DX 1,h.DX 2,h.DX 3,h.DX 4,h.DX 5,h.DX 6,h.DX 7,h.DX 8⟩
structure BO6(w W:World)(q:Nat)(s z:Int)(v:Value)(es:List En):Prop where
 b:B0 w W
 le:w.heap.size≤q
 box:JR W q s z v
 v:BZ W v es
theorem A62{B:Nat}{s z:Int}{v:Value}{es:List En}(h:B0 w W)(ho:BF W B v es):BO6 w (W.alloc (.cells #[I0 s,I0 z,v] 66)) W.heap.size s z v es:=
 ⟨AL h (AB _ _),h.size,JR.new W s z v,(ho.next (AB _ _)).seq⟩
theorem A63{k B:Nat}{v0:Value}{s z:Int}{v:Value}{es:List En}(h:B0 w W)(hk:w.heap.size≤k)(hz:JR W k 0 0 v0)(ho:BF W B v es)(hB:k<B):BO6 w (((W.setCell ⟨k,0,none⟩ (I0 s)).setCell ⟨k,1,none⟩ (I0 z)).setCell ⟨k,2,none⟩ v) k s z v es:=
 ⟨((h.setCell hk _).setCell hk _).setCell hk _,hk,(hz.set0.set1).set2,(((ho.KF hB _).KF hB _).KF hB _).seq⟩
def MZ(s z:Nat→Int)(a:Nat→Option Addr)(n c:Nat→Nat):Array Value:=#[I0 (s 0),I0 (z 0),.slice (a 0) (n 0) (c 0),I0 (s 1),I0 (z 1),.slice (a 1) (n 1) (c 1),I0 (s 2),I0 (z 2),.slice (a 2) (n 2) (c 2),I0 (s 3),I0 (z 3),.slice (a 3) (n 3) (c 3),I0 (s 4),I0 (z 4),.slice (a 4) (n 4) (c 4),I0 (s 5),I0 (z 5),.slice (a 5) (n 5) (c 5),I0 (s 6),I0 (z 6),.slice (a 6) (n 6) (c 6),I0 (s 7),I0 (z 7),.slice (a 7) (n 7) (c 7),I0 (s 8),I0 (z 8),.slice (a 8) (n 8) (c 8),I0 (s 9),I0 (z 9),.slice (a 9) (n 9) (c 9),I0 (s 10),I0 (z 10),.slice (a 10) (n 10) (c 10),I0 (s 11),I0 (z 11),.slice (a 11) (n 11) (c 11),I0 (s 12),I0 (z 12),.slice (a 12) (n 12) (c 12),I0 (s 13),I0 (z 13),.slice (a 13) (n 13) (c 13),I0 (s 14),I0 (z 14),.slice (a 14) (n 14) (c 14),I0 (s 15),I0 (z 15),.slice (a 15) (n 15) (c 15)]
theorem ix_0(s z:Nat→Int)(a:Nat→Option Addr)(n c:Nat→Nat):∀u:World,(Instr.index 67 (.agg (MZ s z a n c)) (I0 0)).run prog u=.ok (.agg #[I0 (s 0),I0 (z 0),.slice (a 0) (n 0) (c 0)]) u:=fun _=>by kernel_rfl
theorem ix_1(s z:Nat→Int)(a:Nat→Option Addr)(n c:Nat→Nat):∀u:World,(Instr.index 67 (.agg (MZ s z a n c)) (I0 1)).run prog u=.ok (.agg #[I0 (s 1),I0 (z 1),.slice (a 1) (n 1) (c 1)]) u:=fun _=>by kernel_rfl
theorem ix_2(s z:Nat→Int)(a:Nat→Option Addr)(n c:Nat→Nat):∀u:World,(Instr.index 67 (.agg (MZ s z a n c)) (I0 2)).run prog u=.ok (.agg #[I0 (s 2),I0 (z 2),.slice (a 2) (n 2) (c 2)]) u:=fun _=>by kernel_rfl
theorem ix_3(s z:Nat→Int)(a:Nat→Option Addr)(n c:Nat→Nat):∀u:World,(Instr.index 67 (.agg (MZ s z a n c)) (I0 3)).run prog u=.ok (.agg #[I0 (s 3),I0 (z 3),.slice (a 3) (n 3) (c 3)]) u:=fun _=>by kernel_rfl
theorem ix_4(s z:Nat→Int)(a:Nat→Option Addr)(n c:Nat→Nat):∀u:World,(Instr.index 67 (.agg (MZ s z a n c)) (I0 4)).run prog u=.ok (.agg #[I0 (s 4),I0 (z 4),.slice (a 4) (n 4) (c 4)]) u:=fun _=>by kernel_rfl
theorem ix_5(s z:Nat→Int)(a:Nat→Option Addr)(n c:Nat→Nat):∀u:World,(Instr.index 67 (.agg (MZ s z a n c)) (I0 5)).run prog u=.ok (.agg #[I0 (s 5),I0 (z 5),.slice (a 5) (n 5) (c 5)]) u:=fun _=>by kernel_rfl
theorem ix_6(s z:Nat→Int)(a:Nat→Option Addr)(n c:Nat→Nat):∀u:World,(Instr.index 67 (.agg (MZ s z a n c)) (I0 6)).run prog u=.ok (.agg #[I0 (s 6),I0 (z 6),.slice (a 6) (n 6) (c 6)]) u:=fun _=>by kernel_rfl
theorem ix_7(s z:Nat→Int)(a:Nat→Option Addr)(n c:Nat→Nat):∀u:World,(Instr.index 67 (.agg (MZ s z a n c)) (I0 7)).run prog u=.ok (.agg #[I0 (s 7),I0 (z 7),.slice (a 7) (n 7) (c 7)]) u:=fun _=>by kernel_rfl
theorem ix_8(s z:Nat→Int)(a:Nat→Option Addr)(n c:Nat→Nat):∀u:World,(Instr.index 67 (.agg (MZ s z a n c)) (I0 8)).run prog u=.ok (.agg #[I0 (s 8),I0 (z 8),.slice (a 8) (n 8) (c 8)]) u:=fun _=>by kernel_rfl
theorem ix_9(s z:Nat→Int)(a:Nat→Option Addr)(n c:Nat→Nat):∀u:World,(Instr.index 67 (.agg (MZ s z a n c)) (I0 9)).run prog u=.ok (.agg #[I0 (s 9),I0 (z 9),.slice (a 9) (n 9) (c 9)]) u:=fun _=>by kernel_rfl
theorem CK4(s z:Nat→Int)(a:Nat→Option Addr)(n c:Nat→Nat):∀u:World,(Instr.index 67 (.agg (MZ s z a n c)) (I0 10)).run prog u=.ok (.agg #[I0 (s 10),I0 (z 10),.slice (a 10) (n 10) (c 10)]) u:=fun _=>by kernel_rfl
theorem CK5(s z:Nat→Int)(a:Nat→Option Addr)(n c:Nat→Nat):∀u:World,(Instr.index 67 (.agg (MZ s z a n c)) (I0 11)).run prog u=.ok (.agg #[I0 (s 11),I0 (z 11),.slice (a 11) (n 11) (c 11)]) u:=fun _=>by kernel_rfl
theorem CK6(s z:Nat→Int)(a:Nat→Option Addr)(n c:Nat→Nat):∀u:World,(Instr.index 67 (.agg (MZ s z a n c)) (I0 12)).run prog u=.ok (.agg #[I0 (s 12),I0 (z 12),.slice (a 12) (n 12) (c 12)]) u:=fun _=>by kernel_rfl
theorem CK7(s z:Nat→Int)(a:Nat→Option Addr)(n c:Nat→Nat):∀u:World,(Instr.index 67 (.agg (MZ s z a n c)) (I0 13)).run prog u=.ok (.agg #[I0 (s 13),I0 (z 13),.slice (a 13) (n 13) (c 13)]) u:=fun _=>by kernel_rfl
theorem CK8(s z:Nat→Int)(a:Nat→Option Addr)(n c:Nat→Nat):∀u:World,(Instr.index 67 (.agg (MZ s z a n c)) (I0 14)).run prog u=.ok (.agg #[I0 (s 14),I0 (z 14),.slice (a 14) (n 14) (c 14)]) u:=fun _=>by kernel_rfl
theorem CK9(s z:Nat→Int)(a:Nat→Option Addr)(n c:Nat→Nat):∀u:World,(Instr.index 67 (.agg (MZ s z a n c)) (I0 15)).run prog u=.ok (.agg #[I0 (s 15),I0 (z 15),.slice (a 15) (n 15) (c 15)]) u:=fun _=>by kernel_rfl
theorem CD4(s z:Nat→Int)(a:Nat→Option Addr)(n c:Nat→Nat)(m:Nat)(hm:m<16)(u:World):(Instr.index 67 (.agg (MZ s z a n c)) (I0 m)).run prog u=.ok (.agg #[I0 (s m),I0 (z m),.slice (a m) (n m) (c m)]) u:=by
 rcases(show m=0∨m=1∨m=2∨m=3∨m=4∨m=5∨m=6∨m=7∨m=8∨m=9∨m=10∨m=11∨m=12∨m=13∨m=14∨m=15 by omega)with rfl|rfl|rfl|rfl|rfl|rfl|rfl|rfl|rfl|rfl|rfl|rfl|rfl|rfl|rfl|rfl
 ·exact ix_0 s z a n c u
 ·exact ix_1 s z a n c u
 ·exact ix_2 s z a n c u
 ·exact ix_3 s z a n c u
 ·exact ix_4 s z a n c u
 ·exact ix_5 s z a n c u
 ·exact ix_6 s z a n c u
 ·exact ix_7 s z a n c u
 ·exact ix_8 s z a n c u
 ·exact ix_9 s z a n c u
 ·exact CK4 s z a n c u
 ·exact CK5 s z a n c u
 ·exact CK6 s z a n c u
 ·exact CK7 s z a n c u
 ·exact CK8 s z a n c u
 ·exact CK9 s z a n c u
theorem WX.BI7{k:Nat}{p:Pw}(h:WX W k p){c:Nat→Cl}(he:∀i,i<16→p.c i=c i):WX W k ⟨p.n,p.s,p.r,c,p.D,p.H,p.h⟩:=by
 obtain⟨f,hb,hr⟩:=h;exact⟨f,hb,hr.n,hr.s,hr.r,fun i hi=>by have:=hr.c i hi;rw[he i hi]at this;exact this,hr.d,hr.h,hr.hk⟩
def nK(c:Nat→Cl)(l:List Nt)(m:Nat):Nat→Cl:=fun i=>if i<m then WC c l i else c i
theorem B14(c:Nat→Cl)(l:List Nt){i:Nat}(hi:i<16):nK c l 16 i=WC c l i:=by rw[nK,if_pos hi]
theorem kG(c:Nat→Cl)(l:List Nt)(m i:Nat):GY (nK c l m) m ⟨(c m).s,(c m).z,QD (c m).s l (c m).es⟩ i=nK c l (m+1) i:=by
 by_cases e:i=m
 ·subst e;rw[BO,nK,if_pos (by omega)];rfl
 ·rw[AP _ _ e,nK,nK];by_cases h:i<m
  ·rw[if_pos h,if_pos (by omega)]
  ·rw[if_neg h,if_neg (by omega)]
structure TlI(W wr wx:World)(k:Nat)(p:Pw)(R1:Nat→Ps)(NN:List Nt)(vn:Value)(m:Nat):Prop where
 x:WX wx k ⟨p.n,R1,p.r,nK p.c NN m,p.D,p.H,p.h⟩
 n:BF wx W.heap.size vn NN
 t:Touch (· =k) W wx
 r:Touch (· =k) wr wx
theorem BI8(s z:Nat→Int)(a:Nat→Option Addr)(n c:Nat→Nat)(m:Nat)(hm:m<16):(MZ s z a n c)[3*m]?=some (I0 (s m))∧(MZ s z a n c)[3*m+1]?=some (I0 (z m))∧(MZ s z a n c)[3*m+2]?=some (.slice (a m) (n m) (c m)):=by
 rcases(show m=0∨m=1∨m=2∨m=3∨m=4∨m=5∨m=6∨m=7∨m=8∨m=9∨m=10∨m=11∨m=12∨m=13∨m=14∨m=15 by omega)with rfl|rfl|rfl|rfl|rfl|rfl|rfl|rfl|rfl|rfl|rfl|rfl|rfl|rfl|rfl|rfl<;>exact⟨rfl,rfl,rfl⟩
theorem AH1(w:World)(k:Nat)(s z:Nat→Int)(a:Nat→Option Addr)(n c:Nat→Nat)(hc:∀m,m<16→w.cell? ⟨k,34+3*m,none⟩=some (I0 (s m))∧w.cell? ⟨k,34+3*m+1,none⟩=some (I0 (z m))∧w.cell? ⟨k,34+3*m+2,none⟩=some (.slice (a m) (n m) (c m))):
  (Instr.loadAt 67 (.pointer (some ⟨k,34,none⟩))).run prog w=.ok (.agg (MZ s z a n c)) w:=by
 have hl:=run_loadCells_list (P:=prog) (w:=w) ⟨k,34,none⟩ (MZ s z a n c).toList (fun j v hj=>by
  have hj48:j<48:=by
   have:=(List.getElem?_eq_some_iff.1 hj).1;simpa [MZ]using this
  rw[Array.getElem?_toList]at hj;have h:=BI8 s z a n c (j/3) (by omega);have hw:=hc (j/3) (by omega);rw[Addr.add_lit];show w.cell? ⟨k,34+j,none⟩=some v;rcases(show j=3*(j/3)∨j=3*(j/3)+1∨j=3*(j/3)+2 by omega)with e|e|e
  ·rw[e]at hj⊢;rw[h.1]at hj;rw[←hj];exact hw.1
  ·rw[e]at hj⊢;rw[h.2.1]at hj;rw[←hj,←Nat.add_assoc];exact hw.2.1
  ·rw[e]at hj⊢;rw[h.2.2]at hj;rw[←hj,←Nat.add_assoc];exact hw.2.2)
 have h48:(MZ s z a n c).toList.length=48:=rfl;rw[h48]at hl;simp only[Instr.loadAt,Instr.sureAddr,Sem.run_bind,Sem.run_pure,Result.andThen];unfold loadVar;simp only[Sem.run_bind,isAgg67,sizeOf67,Result.andThen,if_true];rw[hl];rfl
theorem nM{w:World}{ops:Array Oper}{rest:List Oper}{o:Oper}{a:Act}{Q:Exit→Act→World→Prop}(hgd:o.guard=none)(x:Operand)(ho:o.op=.load 67 x)(k:Nat)(s z:Nat→Int)(ad:Nat→Option Addr)(n c:Nat→Nat)
  (hx:a.eval x=.pointer (some ⟨k,34,none⟩)) (hc:∀m,m<16→w.cell? ⟨k,34+3*m,none⟩=some (I0 (s m))∧w.cell? ⟨k,34+3*m+1,none⟩=some (I0 (z m))∧w.cell? ⟨k,34+3*m+2,none⟩=some (.slice (ad m) (n m) (c m)))
  (h:wpList prog ops Q rest (a.put o.dst (.agg (MZ s z ad n c))) w):wpList prog ops Q (o::rest) a w:=by
 refine wpList_plain hgd fun K hK=>?_;have hr:=AH1 w k s z ad n c hc;unfold Oper.wp execOp;simp only[ho,Sem.run_bind,Sem.run_pure,Result.andThen_ok,hx,hr];exact hK _ _ h
end Go.Proofs.YtmbmehcoidjiaaaGreatDoor
