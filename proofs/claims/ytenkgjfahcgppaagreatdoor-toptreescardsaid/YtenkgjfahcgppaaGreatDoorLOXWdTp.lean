/-
  Part.
-/
import Derived.Test.YtenkgjfahcgppaaGreatDoorLOZ
set_option maxRecDepth 20000
set_option maxHeartbeats 8000000
namespace Go.Proofs.YtenkgjfahcgppaaGreatDoor
open Go.RowKit
structure TrI(s:Sv)(m:List AQ)(n:Nat):Prop where
 ts:s.ts=m
 dn:s.dn=(n:Nat)
 le:n<=m.length
 few:m.length<=300
 tr:s.tr=JX m n
 good:∀j,j<=n->NI (JX m j)
 play:∀j x,j<n->m[j]?=some x->UL (JX m j) x=0/\aX (JX m j) x=JX m (j+1)/\x.d.length<=256
theorem B65{q:Pw}(h:ND q){i:Nat}(hi:i<3):∃m n,TrI (svP i (q.s i)) m n:=by
 have ok:=h.s i hi;have hn:=h.n1;have hl:=ok.len;by_cases hu:(q.s i).up=true
 .rw[D8 hu];refine⟨(q.s i).m,(q.s i).dn,rfl,rfl,ok.dn,by omega,rfl,fun j hj=>ok.play.good (Nat.le_trans hj ok.dn),fun j x _ hx=>⟨ok.play j x hx,(fV hx).symm,(QN (ok.log.good x (List.mem_of_getElem? hx))).2⟩⟩
 .rw[MO (by simpa using hu)];exact⟨[],0,rfl,rfl,Nat.le_refl _,Nat.zero_le _,(MX _).symm,fun j hj=>by rw[Nat.le_zero.1 hj,MX];exact UZ,fun j x hj=>by omega⟩
