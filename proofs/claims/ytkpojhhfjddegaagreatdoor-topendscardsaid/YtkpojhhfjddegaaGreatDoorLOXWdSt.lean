/-
  Part.
-/
import Derived.Test.YtkpojhhfjddegaaGreatDoorLOP
set_option maxRecDepth 20000
set_option maxHeartbeats 8000000
namespace Go.Proofs.YtkpojhhfjddegaaGreatDoor
open Go.RowKit Go.Proofs.Tryz
open _root_.Nat renaming le_refl->A8,zero_le->AZ
open Go.Value.slice renaming injEq->AQ
theorem AR9(t:Tr)(vn vs un us:Value)(w:World)(hn:IK w vn t.ns)(hs:IK w vs t.ss)(gn:IK w un t.ns)(gs:IK w us t.ss)(hl:t.ns.length<=140737488355328)(hls:t.ss.length<=140737488355328):
  Calls prog 29 #[.agg #[I0 t.z,vn,vs],.agg #[I0 t.z,un,us]] w (R0 w (.bool true)):=by
 have K:∀ {α:Type} [Lay α] (v:Value) (xs:List α),IK w v xs->∀W,B0 w W->∀ (i:Nat) (x:α),xs[i]?=some x->∃b off c,v=.slice (some ⟨b,off,none⟩) xs.length c/\b<w.heap.size/\IE W b off (GK xs):=by
  intro α _ v xs hv W hW i x hx;obtain⟨b,off,c,e,hb,hr,_,_⟩:=MZ hv (by intro h0;rw[h0]at hx;simp at hx);exact⟨b,off,c,e,hb,hr.kept hW hb⟩
 have K1:=G9 (K vn t.ns hn);have K2:=G9 (K un t.ns gn);have K3:=G9 (K vs t.ss hs);have K4:=G9 (K us t.ss gs);have T0:=G9 (TT.new w t.z vn vs un us);obtain⟨na,nc,rfl⟩:=GL hn;obtain⟨sa,sc,rfl⟩:=GL hs;obtain⟨ma,mc,rfl⟩:=GL gn;obtain⟨ra,rc,rfl⟩:=GL gs;clear hn hs gn gs K;go_enter func29,ntmps29;go_wp2_with fail
 go_loopg [5] t.ns.length (fun kx s5 wr=>∃k:Nat,s5=I0 k/\k<=t.ns.length/\t.ns.length-k<=kx/\Hid (TT w wr t.z (.slice na t.ns.length nc) (.slice sa t.ss.length sc) (.slice ma t.ns.length mc) (.slice ra t.ss.length rc)))
 case atStart=>exact⟨0,rfl,AZ _,A8 _,T0⟩
 case round=>
  obtain⟨k,rfl,hk,hg,hT⟩:=hrel;obtain⟨c0,c1,c2,c3,c4,c5⟩:=(G8 hT).six;have hsz:=(G8 hT).bl.size;by_cases hlt:k<t.ns.length
  .obtain⟨x,hx⟩:∃x,t.ns[k]?=some x:=⟨_,List.getElem?_eq_getElem hlt⟩;obtain⟨b1,o1,cc1,he,hb1,q1⟩:=G8 K1 wr (G8 hT).bl k x hx;simp only[AQ]at he;obtain⟨rfl,_,rfl⟩:=he;obtain⟨b2,o2,cc2,he,hb2,q2⟩:=G8 K2 wr (G8 hT).bl k x hx;simp only[AQ]at he;obtain⟨rfl,_,rfl⟩:=he;have d0:=q1.n0 hx;have d1:=q1.n1 hx;have d2:=q1.n2 hx;have d3:=q1.n3 hx;have d4:=q1.n4 hx;have d5:=q1.n5 hx;have d6:=q1.n6 hx;have d7:=q1.n7 hx;have d8:=q1.n8 hx;have r0:=q2.n0 hx;have r1:=q2.n1 hx;have r2:=q2.n2 hx;have r3:=q2.n3 hx;have r4:=q2.n4 hx;have r5:=q2.n5 hx;have r6:=q2.n6 hx;have r7:=q2.n7 hx;have r8:=q2.n8 hx;clear q1 q2 hx;go_wp2_with fail;go_region;go_wp2_with fail
   go_roundg (t.ns.length-(k+1))
   case measure=>omega
   case rel=>exact⟨k+1,rfl,by omega,A8 _,G9 ((G8 hT).next (Below.refl _ _).drew)⟩
  .obtain rfl:k=t.ns.length:=by omega
   go_wp2_with fail
   go_loopg [6] t.ss.length (fun kx s6 wr=>∃k:Nat,s6=I0 k/\k<=t.ss.length/\t.ss.length-k<=kx/\Hid (TT w wr t.z (.slice na t.ns.length nc) (.slice sa t.ss.length sc) (.slice ma t.ns.length mc) (.slice ra t.ss.length rc)))
   case atStart=>exact⟨0,rfl,AZ _,A8 _,hT⟩
   case round=>
    obtain⟨k,rfl,hk,hg,hT⟩:=hrel;obtain⟨c0,c1,c2,c3,c4,c5⟩:=(G8 hT).six;by_cases hlt:k<t.ss.length
    .obtain⟨x,hx⟩:∃x,t.ss[k]?=some x:=⟨_,List.getElem?_eq_getElem hlt⟩;obtain⟨b1,o1,cc1,he,hb1,q1⟩:=G8 K3 wr (G8 hT).bl k x hx;simp only[AQ]at he;obtain⟨rfl,_,rfl⟩:=he;obtain⟨b2,o2,cc2,he,hb2,q2⟩:=G8 K4 wr (G8 hT).bl k x hx;simp only[AQ]at he;obtain⟨rfl,_,rfl⟩:=he;have d0:=q1.i0 hx;have r0:=q2.i0 hx;clear q1 q2 hx;go_wp2_with fail;go_region;go_wp2_with fail
     go_roundg (t.ss.length-(k+1))
     case measure=>omega
     case rel=>exact⟨k+1,rfl,by omega,A8 _,G9 ((G8 hT).next (Below.refl _ _).drew)⟩
    .obtain rfl:k=t.ss.length:=by omega
     go_wp2_with fail;go_ret;exact⟨rfl,(G8 hT).bl⟩
