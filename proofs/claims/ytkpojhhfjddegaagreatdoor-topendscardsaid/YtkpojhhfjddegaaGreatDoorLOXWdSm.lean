/-
  Part.
-/
import Derived.Test.YtkpojhhfjddegaaGreatDoorLOR
set_option maxRecDepth 20000
set_option maxHeartbeats 8000000
namespace Go.Proofs.YtkpojhhfjddegaaGreatDoor
open Go.RowKit Go.Proofs.Tryz
theorem tZ{w:World}{v:Value}{ts:List GU}(hv:NI w v ts):(∃a c,v=.slice a 0 c/\ts=[])\/∃b off c,v=.slice (some ⟨b,off,none⟩) ts.length c/\b<w.heap.size/\IE w b off (KC ts)/\ts≠[]:=by
 rcases hv with⟨a,cap,rfl,rfl,_⟩|⟨b,off,cap,rfl,_,_,hb,h0,hr⟩
 .exact .inl ⟨a,cap,rfl,rfl⟩
 .exact .inr ⟨b,off,cap,rfl,hb,hr,h0⟩
theorem BT8(a a':Option Addr)(c c':Nat)(w:World):
  Calls prog 16 #[.slice a 0 c,.slice a' 0 c'] w (R0 w (.bool true)):=by
 go_enter func16,ntmps16;go_wp2_with fail
 go_loopg [5] 1 (fun _ s wr=>s=I0 0/\wr=w)
 case atStart=>exact⟨rfl,rfl⟩
 case round=>
  obtain⟨rfl,rfl⟩:=hrel;go_wp2_with fail;go_ret;exact⟨rfl,Below.refl _ _⟩
theorem BT9(b off c b' off' c':Nat)(ts:List GU)(w:World)(hl:ts.length<=1000000)(hr:IE w b off (KC ts))(hr':IE w b' off' (KC ts)):
  Calls prog 16 #[.slice (some ⟨b,off,none⟩) ts.length c,.slice (some ⟨b',off',none⟩) ts.length c'] w (R0 w (.bool true)):=by
 have HR:=G9 hr;have HR':=G9 hr';clear hr hr';go_enter func16,ntmps16;go_wp2_with fail
 go_loopg [5] ts.length (fun kx s wr=>∃ (k:Nat) (q:Nat),s=I0 k/\k<=ts.length/\ts.length-k<=kx/\wr=w.drewN q)
 case atStart=>exact⟨0,0,rfl,Nat.zero_le _,by omega,rfl⟩
 case round=>
  obtain⟨k,q,rfl,hk,hkx,rfl⟩:=hrel;by_cases hlt:k<ts.length
  .obtain⟨t,ht⟩:∃t,ts[k]?=some t:=⟨_,List.getElem?_eq_getElem hlt⟩;have r:=G8 HR;have e0:=r.z ht;have e1:=r.o ht;have e2:=r.s ht;have e3:=r.p ht;have e4:=r.d ht;have e5:=r.v ht;have e6:=r.w ht;have r':=G8 HR';have e0':=r'.z ht;have e1':=r'.o ht;have e2':=r'.s ht;have e3':=r'.p ht;have e4':=r'.d ht;have e5':=r'.v ht;have e6':=r'.w ht;have AV0:(k:Int)<(ts.length:Int):=by omega
   clear r r' ht;go_wp2_with fail;go_region;go_wp2_with fail
   go_roundg (ts.length-(k+1))
   case measure=>omega
   case rel=>exact⟨k+1,q+1,rfl,by omega,Nat.le_refl _,rfl⟩
  .have hki:¬ ((k:Int)<(ts.length:Int)):=by omega
   go_wp2_with fail;go_ret;exact⟨rfl,⟨rfl,rfl,rfl,Nat.le_refl _,fun _ _=>rfl⟩⟩
theorem BA9(v v':Value)(ts:List GU)(w:World)(hl:ts.length<=1000000)(hv:NI w v ts)(hv':NI w v' ts):
  Calls prog 16 #[v,v'] w (R0 w (.bool true)):=by
 rcases tZ hv with⟨a,c,rfl,h0⟩|⟨b,off,c,rfl,hb,hr,h0⟩
 .rcases tZ hv' with⟨a',c',rfl,_⟩|⟨b',off',c',rfl,hb',hr',h0'⟩
  .exact BT8 a a' c c' w
  .exact absurd h0 h0'
 .rcases tZ hv' with⟨a',c',rfl,h0'⟩|⟨b',off',c',rfl,hb',hr',h0'⟩
  .exact absurd h0' h0
  .exact BT9 b off c b' off' c' ts w hl hr hr'
