/-
  Part.
-/
import Derived.Test.YtenkgjfahcgppaaGreatDoorLOA
set_option maxRecDepth 20000
set_option maxHeartbeats 8000000
namespace Go.Proofs.YtenkgjfahcgppaaGreatDoor
open Go.RowKit Go.Proofs.Tryz
def G5:List AQ->List AQ->Nat
 |x::a,y::b=>if x.z=y.z then G5 a b+1 else 0
 |_,_=>0
theorem TV:∀a b:List AQ,G5 a b<=a.length/\G5 a b<=b.length
 |[],b=>by simp[G5]
 |x::a,[]=>by simp[G5]
 |x::a,y::b=>by
  have:=TV a b;unfold G5
  split
  .simp only[List.length_cons];omega
  .simp
theorem fE:∀ (a b:List AQ) (k:Nat),k<G5 a b->∃x y,a[k]?=some x/\b[k]?=some y/\x.z=y.z
 |[],b,k,h=>by simp[G5]at h
 |x::a,[],k,h=>by simp[G5]at h
 |x::a,y::b,k,h=>by
  unfold G5 at h
  split at h
  .rename_i e
   cases k with
   |zero=>exact⟨x,y,rfl,rfl,e⟩
   |succ k=>exact fE a b k (by omega)
  .omega
theorem AV5:∀ (a b:List AQ) (x y:AQ),a[G5 a b]?=some x->b[G5 a b]?=some y->x.z≠y.z
 |[],b,x,y,h,_=>by simp[G5]at h
 |u::a,[],x,y,_,h=>by simp[G5]at h
 |u::a,v::b,x,y,h,h'=>by
  unfold G5 at h h'
  split at h
  .rename_i e
   simp only[e,if_true]at h';exact AV5 a b x y (by simpa using h) (by simpa using h')
  .rename_i e
   simp only[e,if_false]at h';simp at h h';subst h h';exact e
theorem jY(va vb:Value)(a b:List AQ)(w:World)(ha:J8 w va a)(hb:J8 w vb b)(hla:a.length<=140737488355328)(hlb:b.length<=140737488355328):
  Calls prog 160 #[va,vb] w (R0 w (I0 (G5 a b))):=by
 have KA:=AA (fun(k:Nat) (x:AQ) (hx:a[k]?=some x) W (hW:B0 w W)=>RH (ha.next hW) hx);have KB:=AA (fun(k:Nat) (x:AQ) (hx:b[k]?=some x) W (hW:B0 w W)=>RH (hb.next hW) hx);have HL:=TV a b;have HT:=AA (fE a b);have HA:=AA (AV5 a b);generalize G5 a b=n at*;obtain⟨aa,ca,rfl⟩:=IC ha;obtain⟨ab,cb,rfl⟩:=IC hb;clear ha hb;go_enter func160,ntmps160;go_wp2_with fail
 go_loopg [5] n (fun kx s5 wr=>∃k:Nat,s5=I0 k/\k<=n/\n-k<=kx/\Hid (B0 w wr))
 case atStart=>exact⟨0,rfl,Nat.zero_le _,by omega,AA (Below.refl _ _)⟩
 case round=>
  obtain⟨k,rfl,hk,hg,hB⟩:=hrel;by_cases hba:b.length<a.length
  .skip
   by_cases hlt:k<n
   .obtain⟨x,y,hx,hy,hz⟩:=A8 HT k hlt;obtain⟨b1,o1,c1,he,hb1,q1,_⟩:=A8 KA k x hx wr (A8 hB);simp only[Value.slice.injEq]at he;obtain⟨rfl,_,rfl⟩:=he;obtain⟨b2,o2,c2,he,hb2,q2,_⟩:=A8 KB k y hy wr (A8 hB);simp only[Value.slice.injEq]at he;obtain⟨rfl,_,rfl⟩:=he;have d0:=q1.z hx;have r0:=q2.z hy;rw[<-hz]at r0;generalize x.z=zz at*;have i1:(k:Int)<(a.length:Int):=by omega
    have i2:(k:Int)<(b.length:Int):=by omega
    have hm1:decide (k<b.length)=true:=by simp;omega
    clear q1 q2 hx hy hz;go_wp2_with fail
    go_quiet (fail)
    go_wp2_with fail
    go_roundg (n-(k+1))
    case measure=>omega
    case rel=>exact⟨k+1,rfl,by omega,Nat.le_refl _,AA (AL (A8 hB) ⟨rfl,rfl,rfl,Nat.le_refl _,fun _ _=>rfl⟩)⟩
   .obtain rfl:k=n:=by omega
    by_cases hin:k<a.length/\k<b.length
    .obtain⟨x,hx⟩:∃x,a[k]?=some x:=⟨_,List.getElem?_eq_getElem hin.1⟩;obtain⟨y,hy⟩:∃y,b[k]?=some y:=⟨_,List.getElem?_eq_getElem hin.2⟩;have hz:=A8 HA x y hx hy;obtain⟨b1,o1,c1,he,hb1,q1,_⟩:=A8 KA k x hx wr (A8 hB);simp only[Value.slice.injEq]at he;obtain⟨rfl,_,rfl⟩:=he;obtain⟨b2,o2,c2,he,hb2,q2,_⟩:=A8 KB k y hy wr (A8 hB);simp only[Value.slice.injEq]at he;obtain⟨rfl,_,rfl⟩:=he;have d0:=q1.z hx;have r0:=q2.z hy;generalize x.z=zx at*;generalize y.z=zy at*;have hne:(zx==zy)=false:=by simpa using hz
     have i1:(k:Int)<(a.length:Int):=by omega
     have i2:(k:Int)<(b.length:Int):=by omega
     have hm1:decide (k<b.length)=true:=by simp;omega
     clear q1 q2 hx hy;go_wp2_with fail
     go_quiet (fail)
     go_wp2_with fail;go_ret;exact⟨rfl,AL (A8 hB) ⟨rfl,rfl,rfl,Nat.le_refl _,fun _ _=>rfl⟩⟩
    .have hkb:k=b.length:=by omega
     clear hin;subst hkb;go_wp2_with fail;go_region
     all_goals go_wp2_with fail
     all_goals go_ret
     all_goals exact⟨rfl,(A8 hB).drew⟩
  .skip
   by_cases hlt:k<n
   .obtain⟨x,y,hx,hy,hz⟩:=A8 HT k hlt;obtain⟨b1,o1,c1,he,hb1,q1,_⟩:=A8 KA k x hx wr (A8 hB);simp only[Value.slice.injEq]at he;obtain⟨rfl,_,rfl⟩:=he;obtain⟨b2,o2,c2,he,hb2,q2,_⟩:=A8 KB k y hy wr (A8 hB);simp only[Value.slice.injEq]at he;obtain⟨rfl,_,rfl⟩:=he;have d0:=q1.z hx;have r0:=q2.z hy;rw[<-hz]at r0;generalize x.z=zz at*;have i1:(k:Int)<(a.length:Int):=by omega
    have i2:(k:Int)<(b.length:Int):=by omega
    have hm1:decide (k<a.length)=true:=by simp;omega
    clear q1 q2 hx hy hz;go_wp2_with fail
    go_quiet (fail)
    go_wp2_with fail
    go_roundg (n-(k+1))
    case measure=>omega
    case rel=>exact⟨k+1,rfl,by omega,Nat.le_refl _,AA (AL (A8 hB) ⟨rfl,rfl,rfl,Nat.le_refl _,fun _ _=>rfl⟩)⟩
   .obtain rfl:k=n:=by omega
    by_cases hin:k<a.length/\k<b.length
    .obtain⟨x,hx⟩:∃x,a[k]?=some x:=⟨_,List.getElem?_eq_getElem hin.1⟩;obtain⟨y,hy⟩:∃y,b[k]?=some y:=⟨_,List.getElem?_eq_getElem hin.2⟩;have hz:=A8 HA x y hx hy;obtain⟨b1,o1,c1,he,hb1,q1,_⟩:=A8 KA k x hx wr (A8 hB);simp only[Value.slice.injEq]at he;obtain⟨rfl,_,rfl⟩:=he;obtain⟨b2,o2,c2,he,hb2,q2,_⟩:=A8 KB k y hy wr (A8 hB);simp only[Value.slice.injEq]at he;obtain⟨rfl,_,rfl⟩:=he;have d0:=q1.z hx;have r0:=q2.z hy;generalize x.z=zx at*;generalize y.z=zy at*;have hne:(zx==zy)=false:=by simpa using hz
     have i1:(k:Int)<(a.length:Int):=by omega
     have i2:(k:Int)<(b.length:Int):=by omega
     have hm1:decide (k<a.length)=true:=by simp;omega
     clear q1 q2 hx hy;go_wp2_with fail
     go_quiet (fail)
     go_wp2_with fail;go_ret;exact⟨rfl,AL (A8 hB) ⟨rfl,rfl,rfl,Nat.le_refl _,fun _ _=>rfl⟩⟩
    .have hkb:k=a.length:=by omega
     clear hin;subst hkb;go_wp2_with fail;go_region
     all_goals go_wp2_with fail
     all_goals go_ret
     all_goals exact⟨rfl,(A8 hB).drew⟩
