/-
  Part.
-/
import Derived.Test.YthcncjimjclfpaaGreatDoorLSA
set_option maxRecDepth 20000
set_option maxHeartbeats 8000000
namespace Go.Proofs.YthcncjimjclfpaaGreatDoor
open Go.RowKit Go.Proofs.Tryz
open _root_.Nat renaming le_refl->A8
open _root_.List renaming getElem?_eq_getElem->AL
open Go.Value.slice renaming injEq->AP
def KY:List GI->List GI->Nat
 |x::a,y::b=>if x.z=y.z then KY a b+1 else 0
 |_,_=>0
theorem XP:∀a b:List GI,KY a b<=a.length/\KY a b<=b.length
 |[],b=>by simp[KY]
 |x::a,[]=>by simp[KY]
 |x::a,y::b=>by
  have:=XP a b;unfold KY
  split
  .simp only[List.length_cons];omega
  .simp
theorem kU:∀ (a b:List GI) (k:Nat),k<KY a b->∃x y,a[k]?=some x/\b[k]?=some y/\x.z=y.z
 |[],b,k,h=>by simp[KY]at h
 |x::a,[],k,h=>by simp[KY]at h
 |x::a,y::b,k,h=>by
  unfold KY at h
  split at h
  .rename_i e
   cases k with
   |zero=>exact⟨x,y,rfl,rfl,e⟩
   |succ k=>exact kU a b k (by omega)
  .omega
theorem B40:∀ (a b:List GI) (x y:GI),a[KY a b]?=some x->b[KY a b]?=some y->x.z≠y.z
 |[],b,x,y,h,_=>by simp[KY]at h
 |u::a,[],x,y,_,h=>by simp[KY]at h
 |u::a,v::b,x,y,h,h'=>by
  unfold KY at h h'
  split at h
  .rename_i e
   simp only[e,if_true]at h';exact B40 a b x y (by simpa using h) (by simpa using h')
  .rename_i e
   simp only[e,if_false]at h';simp at h h';subst h h';exact e
theorem oV(va vb:Value)(a b:List GI)(w:World)(ha:NV w va a)(hb:NV w vb b)(hla:a.length<=140737488355328)(hlb:b.length<=140737488355328):
  Calls prog 107 #[va,vb] w (R0 w (I0 (KY a b))):=by
 have KA:=G6 (fun(k:Nat) (x:GI) (hx:a[k]?=some x) W (hW:B0 w W)=>ZO (ha.next hW) hx);have KB:=G6 (fun(k:Nat) (x:GI) (hx:b[k]?=some x) W (hW:B0 w W)=>ZO (hb.next hW) hx);have HL:=XP a b;have HT:=G6 (kU a b);have HA:=G6 (B40 a b);generalize KY a b=n at*;obtain⟨aa,ca,rfl⟩:=MF ha;obtain⟨ab,cb,rfl⟩:=MF hb;clear ha hb;go_enter func107,ntmps107;go_wp2_with fail
 go_loopg [5] n (fun kx s5 wr=>∃k:Nat,s5=I0 k/\k<=n/\n-k<=kx/\Hid (B0 w wr))
 case atStart=>exact⟨0,rfl,Nat.zero_le _,by omega,G6 (Below.refl _ _)⟩
 case round=>
  obtain⟨k,rfl,hk,hg,hB⟩:=hrel;by_cases hba:b.length<a.length
  .skip
   by_cases hlt:k<n
   .obtain⟨x,y,hx,hy,hz⟩:=G5 HT k hlt;obtain⟨b1,o1,c1,he,hb1,q1,_⟩:=G5 KA k x hx wr (G5 hB);simp only[AP]at he;obtain⟨rfl,_,rfl⟩:=he;obtain⟨b2,o2,c2,he,hb2,q2,_⟩:=G5 KB k y hy wr (G5 hB);simp only[AP]at he;obtain⟨rfl,_,rfl⟩:=he;have d0:=q1.z hx;have r0:=q2.z hy;rw[<-hz]at r0;generalize x.z=zz at*;have i1:(k:Int)<(a.length:Int):=by omega
    have i2:(k:Int)<(b.length:Int):=by omega
    have hm1:decide (k<b.length)=true:=by simp;omega
    clear q1 q2 hx hy hz;go_wp2_with fail
    go_quiet (fail)
    go_wp2_with fail
    go_roundg (n-(k+1))
    case measure=>omega
    case rel=>exact⟨k+1,rfl,by omega,A8 _,G6 (G8 (G5 hB) ⟨rfl,rfl,rfl,A8 _,fun _ _=>rfl⟩)⟩
   .obtain rfl:k=n:=by omega
    by_cases hin:k<a.length/\k<b.length
    .obtain⟨x,hx⟩:∃x,a[k]?=some x:=⟨_,AL hin.1⟩;obtain⟨y,hy⟩:∃y,b[k]?=some y:=⟨_,AL hin.2⟩;have hz:=G5 HA x y hx hy;obtain⟨b1,o1,c1,he,hb1,q1,_⟩:=G5 KA k x hx wr (G5 hB);simp only[AP]at he;obtain⟨rfl,_,rfl⟩:=he;obtain⟨b2,o2,c2,he,hb2,q2,_⟩:=G5 KB k y hy wr (G5 hB);simp only[AP]at he;obtain⟨rfl,_,rfl⟩:=he;have d0:=q1.z hx;have r0:=q2.z hy;generalize x.z=zx at*;generalize y.z=zy at*;have hne:(zx==zy)=false:=by simpa using hz
     have i1:(k:Int)<(a.length:Int):=by omega
     have i2:(k:Int)<(b.length:Int):=by omega
     have hm1:decide (k<b.length)=true:=by simp;omega
     clear q1 q2 hx hy;go_wp2_with fail
     go_quiet (fail)
     go_wp2_with fail;go_ret;exact⟨rfl,G8 (G5 hB) ⟨rfl,rfl,rfl,A8 _,fun _ _=>rfl⟩⟩
    .have hkb:k=b.length:=by omega
     clear hin;subst hkb;go_wp2_with fail;go_region
     all_goals go_wp2_with fail
     all_goals go_ret
     all_goals exact⟨rfl,(G5 hB).drew⟩
  .skip
   by_cases hlt:k<n
   .obtain⟨x,y,hx,hy,hz⟩:=G5 HT k hlt;obtain⟨b1,o1,c1,he,hb1,q1,_⟩:=G5 KA k x hx wr (G5 hB);simp only[AP]at he;obtain⟨rfl,_,rfl⟩:=he;obtain⟨b2,o2,c2,he,hb2,q2,_⟩:=G5 KB k y hy wr (G5 hB);simp only[AP]at he;obtain⟨rfl,_,rfl⟩:=he;have d0:=q1.z hx;have r0:=q2.z hy;rw[<-hz]at r0;generalize x.z=zz at*;have i1:(k:Int)<(a.length:Int):=by omega
    have i2:(k:Int)<(b.length:Int):=by omega
    have hm1:decide (k<a.length)=true:=by simp;omega
    clear q1 q2 hx hy hz;go_wp2_with fail
    go_quiet (fail)
    go_wp2_with fail
    go_roundg (n-(k+1))
    case measure=>omega
    case rel=>exact⟨k+1,rfl,by omega,A8 _,G6 (G8 (G5 hB) ⟨rfl,rfl,rfl,A8 _,fun _ _=>rfl⟩)⟩
   .obtain rfl:k=n:=by omega
    by_cases hin:k<a.length/\k<b.length
    .obtain⟨x,hx⟩:∃x,a[k]?=some x:=⟨_,AL hin.1⟩;obtain⟨y,hy⟩:∃y,b[k]?=some y:=⟨_,AL hin.2⟩;have hz:=G5 HA x y hx hy;obtain⟨b1,o1,c1,he,hb1,q1,_⟩:=G5 KA k x hx wr (G5 hB);simp only[AP]at he;obtain⟨rfl,_,rfl⟩:=he;obtain⟨b2,o2,c2,he,hb2,q2,_⟩:=G5 KB k y hy wr (G5 hB);simp only[AP]at he;obtain⟨rfl,_,rfl⟩:=he;have d0:=q1.z hx;have r0:=q2.z hy;generalize x.z=zx at*;generalize y.z=zy at*;have hne:(zx==zy)=false:=by simpa using hz
     have i1:(k:Int)<(a.length:Int):=by omega
     have i2:(k:Int)<(b.length:Int):=by omega
     have hm1:decide (k<a.length)=true:=by simp;omega
     clear q1 q2 hx hy;go_wp2_with fail
     go_quiet (fail)
     go_wp2_with fail;go_ret;exact⟨rfl,G8 (G5 hB) ⟨rfl,rfl,rfl,A8 _,fun _ _=>rfl⟩⟩
    .have hkb:k=a.length:=by omega
     clear hin;subst hkb;go_wp2_with fail;go_region
     all_goals go_wp2_with fail
     all_goals go_ret
     all_goals exact⟨rfl,(G5 hB).drew⟩
