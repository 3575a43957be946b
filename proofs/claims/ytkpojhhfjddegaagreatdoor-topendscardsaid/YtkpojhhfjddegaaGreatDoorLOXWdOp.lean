/-
  Part.
-/
import Derived.Test.YtkpojhhfjddegaaGreatDoorLOX
set_option maxRecDepth 20000
set_option maxHeartbeats 8000000
namespace Go.Proofs.YtkpojhhfjddegaaGreatDoor
open Go.RowKit
theorem CH7(p:Pw)(d:Dd)(hk:d.k=1)(hE:(doP p d).1.E=0):∃l x,(doP p d).2.D=l++[x]/\x.z=(doP p d).1.z:=by
 unfold doP at hE⊢;by_cases hn:300<=p.n
 .rw[if_pos hn]at hE;cases hE
 rw[if_neg hn]at hE⊢;by_cases ha:TI d≠0
 .rw[if_pos ha]at hE;exact absurd hE ha
 rw[if_neg ha]at hE⊢;unfold dX at hE⊢;rw[if_pos hk]at hE⊢;unfold P9 at hE⊢;by_cases hl:ldP (LQ p).r=-1
 .rw[if_pos hl]at hE;cases hE
 rw[if_neg hl]at hE⊢;by_cases he:wE (LQ p) d≠0
 .rw[if_pos he]at hE;exact absurd hE he
 rw[if_neg he]at hE⊢;by_cases hq:(wL (LQ p) d).length<2
 .rw[if_pos hq]at hE;cases hE
 .rw[if_neg hq];exact⟨_,_,rfl,rfl⟩
theorem CX1{q:Pw}(h:QE q){b:Nat}(hb:b<3)(hr:q.r b=2):q.D.Sublist (svP b (q.s b)).ts/\(svP b (q.s b)).ts.length<=300:=by
 have hu:=h.rup b hb (by omega);have ha:=BI7 h.a (dL h hb hr).1;have hl:=(h.s b hb).len;have hn:=h.n1;have e:((awP q).s b).m=(q.s b).m:=by simp only[awP,if_pos hb]
 rw[e]at ha;rw[J5 hu];exact⟨ha,by show (q.s b).m.length<=300;omega⟩
