/-
  Part.
-/
import Derived.Test.YtkpojhhfjddegaaGreatDoorLOXWdSs
import Derived.Test.YtkpojhhfjddegaaGreatDoorLOAL
set_option maxRecDepth 20000
set_option maxHeartbeats 8000000
namespace Go.Proofs.YtkpojhhfjddegaaGreatDoor
open Go.RowKit Go.Proofs.Tryz
open Go.Value renaming slice->FV
open Go.Obj renaming cells->FW
theorem AU4(r:Rp)(v1 v2:Value)(w:World)(hl:r.ns.length<=140737488355328)(h1:IK w v1 r.ns)(h2:IK w v2 r.ns):
  Calls prog 17 #[rpV r v1,rpV r v2] w (R0 w (.bool true)):=by
 have K1:=G9 (RQ h1);have K2:=G9 (RQ h2);obtain⟨a1,c1,rfl⟩:=GL h1;obtain⟨a2,c2,rfl⟩:=GL h2;have BL:=G9 (GI (GH w (FW #[I0 r.E,I0 r.z,S0 r.p,S0 r.d,I0 r.t.c,I0 r.t.m,I0 r.t.q,I0 r.t.v,I0 r.t.k,I0 r.t.o,I0 r.t.n,FV a1 r.ns.length c1] 36)) (GH _ (FW #[I0 r.E,I0 r.z,S0 r.p,S0 r.d,I0 r.t.c,I0 r.t.m,I0 r.t.q,I0 r.t.v,I0 r.t.k,I0 r.t.o,I0 r.t.n,FV a2 r.ns.length c2] 36)));have R1:Hid (RpX ((w.alloc (FW #[I0 r.E,I0 r.z,S0 r.p,S0 r.d,I0 r.t.c,I0 r.t.m,I0 r.t.q,I0 r.t.v,I0 r.t.k,I0 r.t.o,I0 r.t.n,FV a1 r.ns.length c1] 36)).alloc (FW #[I0 r.E,I0 r.z,S0 r.p,S0 r.d,I0 r.t.c,I0 r.t.m,I0 r.t.q,I0 r.t.v,I0 r.t.k,I0 r.t.o,I0 r.t.n,FV a2 r.ns.length c2] 36)) w.heap.size r (FV a1 r.ns.length c1)):=G9 (((GH _ _).block _ (by simp)).trans (heap_alloc_last _ _));have R2:Hid (RpX ((w.alloc (FW #[I0 r.E,I0 r.z,S0 r.p,S0 r.d,I0 r.t.c,I0 r.t.m,I0 r.t.q,I0 r.t.v,I0 r.t.k,I0 r.t.o,I0 r.t.n,FV a1 r.ns.length c1] 36)).alloc (FW #[I0 r.E,I0 r.z,S0 r.p,S0 r.d,I0 r.t.c,I0 r.t.m,I0 r.t.q,I0 r.t.v,I0 r.t.k,I0 r.t.o,I0 r.t.n,FV a2 r.ns.length c2] 36)) (w.heap.size+1) r (FV a2 r.ns.length c2)):=G9 (by
  have h:=heap_alloc_last (w.alloc (FW #[I0 r.E,I0 r.z,S0 r.p,S0 r.d,I0 r.t.c,I0 r.t.m,I0 r.t.q,I0 r.t.v,I0 r.t.k,I0 r.t.o,I0 r.t.n,FV a1 r.ns.length c1] 36)) (FW #[I0 r.E,I0 r.z,S0 r.p,S0 r.d,I0 r.t.c,I0 r.t.m,I0 r.t.q,I0 r.t.v,I0 r.t.k,I0 r.t.o,I0 r.t.n,FV a2 r.ns.length c2] 36);rwa[show (w.alloc (FW #[I0 r.E,I0 r.z,S0 r.p,S0 r.d,I0 r.t.c,I0 r.t.m,I0 r.t.q,I0 r.t.v,I0 r.t.k,I0 r.t.o,I0 r.t.n,FV a1 r.ns.length c1] 36)).heap.size=w.heap.size+1 by simp]at h)
 clear h1 h2;unfold rpV;go_enter func17,ntmps17;go_upto_region 1 with fail;generalize ((w.alloc _).alloc _)=W0 at*;obtain⟨x0,x1,x2,x3,x4,x5,x6,x7,x8,x9,x10,x11⟩:=(G8 R1).cells;obtain⟨y0,y1,y2,y3,y4,y5,y6,y7,y8,y9,y10,y11⟩:=(G8 R2).cells;go_wp2_with fail;clear x0 x1 x2 x3 x4 x5 x6 x7 x8 x9 x10 x11 y0 y1 y2 y3 y4 y5 y6 y7 y8 y9 y10 y11
 go_loopg [5] r.ns.length (fun kx s5 wr=>∃i:Nat,s5=I0 i/\i<=r.ns.length/\r.ns.length-i<=kx/\Hid (RpX wr w.heap.size r (FV a1 r.ns.length c1)/\RpX wr (w.heap.size+1) r (FV a2 r.ns.length c2)/\B0 w wr))
 case atStart=>exact⟨0,rfl,Nat.zero_le _,Nat.le_refl _,G9 ⟨G8 R1,G8 R2,G8 BL⟩⟩
 case round=>
  obtain⟨i,rfl,hi,hg,HS⟩:=hrel;clear R1 R2 BL;obtain⟨_,_,_,_,_,_,_,_,_,_,_,x11⟩:=(G8 HS).1.cells;obtain⟨_,_,_,_,_,_,_,_,_,_,_,y11⟩:=(G8 HS).2.1.cells;have hsz:=(G8 HS).2.2.size;by_cases hlt:i<r.ns.length
  .obtain⟨x,hx⟩:∃x,r.ns[i]?=some x:=⟨_,List.getElem?_eq_getElem hlt⟩;have AV0:(i:Int)<(r.ns.length:Int):=by omega
   obtain⟨b1,o1,cc1,he,hb1,q1⟩:=G8 K1 wr (G8 HS).2.2 i x hx;simp only[Value.slice.injEq]at he;obtain⟨rfl,_,rfl⟩:=he;obtain⟨b2,o2,cc2,he,hb2,q2⟩:=G8 K2 wr (G8 HS).2.2 i x hx;simp only[Value.slice.injEq]at he;obtain⟨rfl,_,rfl⟩:=he;have d0:=q1 0 _ (by decide) rfl;have d1:=q1 1 _ (by decide) rfl;have d2:=q1 2 _ (by decide) rfl;have e0:=q2 0 _ (by decide) rfl;have e1:=q2 1 _ (by decide) rfl;have e2:=q2 2 _ (by decide) rfl;have HB:=G9 (And.intro hb1 hb2);clear q1 q2 hx hb1 hb2;simp only[Lay.k,Nat.add_zero]at d0 d1 d2 e0 e1 e2;go_wp2_with fail;go_region;go_wp2_with fail
   go_roundg (r.ns.length-(i+1))
   case measure=>omega
   case rel=>exact⟨i+1,by simp,by omega,Nat.le_refl _,G9 ⟨(G8 HS).1,(G8 HS).2.1,GI (G8 HS).2.2 (Below.refl _ _).drew⟩⟩
  .obtain rfl:i=r.ns.length:=by omega
   go_wp2_with fail;go_ret;exact⟨rfl,(G8 HS).2.2⟩
