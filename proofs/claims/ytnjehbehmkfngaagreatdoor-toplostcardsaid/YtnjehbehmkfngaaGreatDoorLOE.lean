/-
  Part.
-/
import Derived.Test.YtnjehbehmkfngaaGreatDoorLOA
import Derived.Test.YtnjehbehmkfngaaGreatDoorRows
import Derived.WalkSpells
import Derived.WalkLawsBesides
import Derived.Test.YtnjehbehmkfngaaGreatDoorShelf
set_option maxRecDepth 20000
set_option maxHeartbeats 8000000
namespace Go.Proofs.YtnjehbehmkfngaaGreatDoor
open Go.RowKit Go.Proofs.Tryz
variable{l:List UInt8}{u:Nat}{a:ByteArray}{z:Int}{w:World}
def isD(c:UInt8):Bool:=decide (48≤c.toNat)&&decide (c.toNat≤57)
theorem SK{c:UInt8}:isD c=true↔48≤c.toNat∧c.toNat≤57:=by simp[isD]
def num(l:List UInt8):Nat:=l.foldl (fun n c=>10*n+(c.toNat-48)) 0
theorem kP(l:List UInt8)(c:UInt8):num (l++[c])=10*num l+(c.toNat-48):=by simp[num]
theorem A80(l:List UInt8):l=[]∨∃a c,l=a++[c]:=by
 cases h:l.reverse with
 |nil=>exact .inl (by simpa using h)
 |cons c r=>exact .inr ⟨r.reverse,c,by have:=congrArg List.reverse h;simpa using this⟩
theorem C31(l:List UInt8)(h:l.all isD=true):num l<10^l.length:=by
 obtain⟨n,hn⟩:∃n,l.length=n:=⟨_,rfl⟩
 induction n generalizing l with
 |zero=>rw[List.length_eq_zero_iff.1 hn];decide
 |succ n ih=>
  rcases A80 l with rfl|⟨a,c,rfl⟩
  ·simp at hn
  ·simp only[List.all_append,Bool.and_eq_true,List.all_cons,List.all_nil,Bool.and_true]at h;have h1:=ih a h.1 (by simpa using hn);have h2:=SK.1 h.2;rw[kP,List.length_append,List.length_singleton,Nat.pow_succ];omega
def KG(l:List UInt8):Bool:=decide (1≤l.length)&&decide (l.length≤10)&& !(decide (1<l.length)&&l.head?==some 48)&&l.all isD
def bM(l:List UInt8):Int:=if KG l then(num l:Int)else 0
theorem SN(h:KG l=true):bM l=num l:=by rw[bM,if_pos h]
theorem NC(h:KG l=false):bM l=0:=by rw[bM,h];rfl
theorem bP:KG l=true↔1≤l.length∧l.length≤10∧(1<l.length→l.head? ≠some 48)∧l.all isD=true:=by
 simp only[KG,Bool.and_eq_true,decide_eq_true_eq,Bool.not_eq_true',Bool.and_eq_false_imp,beq_eq_false_iff_ne,ne_eq];constructor
 ·rintro⟨⟨⟨a,b⟩,c⟩,d⟩;exact⟨a,b,c,d⟩
 ·rintro⟨a,b,c,d⟩;exact⟨⟨⟨a,b⟩,c⟩,d⟩
theorem ZX(h:¬ (1≤l.length∧l.length≤10∧(1<l.length→l.head? ≠some 48)∧l.all isD=true)):KG l=false:=by
 cases hp:KG l with
 |false=>rfl
 |true=>exact absurd (bP.1 hp) h
theorem CD4(h:u<10):Lib.decDigits u=[UInt8.ofNat (48+u)]:=by rw[Lib.decDigits,dif_pos h]
theorem decb(h:¬u<10):Lib.decDigits u=Lib.decDigits (u/10)++[UInt8.ofNat (48+u%10)]:=by rw[Lib.decDigits,dif_neg h]
theorem WS{d:Nat}(h:d<10):(UInt8.ofNat (48+d)).toNat=48+d:=by rw[UInt8.toNat_ofNat'];omega
theorem AM1{d:Nat}(h:d<10):isD (UInt8.ofNat (48+d))=true:=SK.2 (by rw[WS h];omega)
theorem bQ(u:Nat):(Lib.decDigits u).all isD=true∧num (Lib.decDigits u)=u∧1≤(Lib.decDigits u).length∧(u≠0→(Lib.decDigits u).head? ≠some 48):=by
 induction u using Nat.strongRecOn with
 |_ u ih=>
  by_cases h:u<10
  ·rw[CD4 h];refine⟨by rw[List.all_cons,List.all_nil,AM1 h];rfl,?_,by simp,?_⟩
   ·show 10*0+((UInt8.ofNat (48+u)).toNat-48)=u;rw[WS h];omega
   ·intro h0 e;have h1:=congrArg UInt8.toNat (Option.some.inj e);rw[WS h]at h1;have h2:(48:UInt8).toNat=48:=rfl;omega
  ·rw[decb h];obtain⟨i1,i2,i3,i4⟩:=ih (u/10) (by omega);refine⟨by rw[List.all_append,i1,List.all_cons,AM1 (Nat.mod_lt u (by decide:0<10)),List.all_nil];rfl,?_,by simp,?_⟩
   ·rw[kP,i2,WS (Nat.mod_lt u (by decide))];omega
   ·intro _;have i5:=i4 (by omega)
    cases hd:Lib.decDigits (u/10)with
    |nil=>rw[hd]at i3;simp at i3
    |cons c r=>rw[hd]at i5;simpa using i5
theorem bT(k:Nat):∀u,u<10^(k+1)→(Lib.decDigits u).length≤k+1:=by
 induction k with
 |zero=>intro u hu;rw[CD4 (by simpa using hu)];simp
 |succ k ih=>
  intro u hu;by_cases h:u<10
  ·rw[CD4 h];simp
  ·rw[decb h];have:=ih (u/10) (by rw[Nat.pow_succ]at hu;omega);simp;omega
theorem BO8(h:1<(Lib.decDigits u).length):u≠0:=by
 rintro rfl;rw[CD4 (by decide)]at h;simp at h
theorem zJ(h:u<10000000000):KG (Lib.decDigits u)=true:=by
 obtain⟨i1,i2,i3,i4⟩:=bQ u;exact bP.2 ⟨i3,bT 9 u h,fun hl=>i4 (BO8 hl),i1⟩
def RG(l:List UInt8):List UInt8:=l.takeWhile (fun c=>c !=46)
def RH(l:List UInt8):List UInt8:=(l.dropWhile (fun c=>c !=46)).drop 1
theorem AM2{a b:List UInt8}(h:∀c∈a,c≠46):RG (a++46::b)=a∧RH (a++46::b)=b:=by
 have hp:∀c∈a,(c !=46)=true:=fun c hc=>by simpa using h c hc
 constructor
 ·rw[RG,List.takeWhile_append_of_pos hp];simp
 ·rw[RH,List.dropWhile_append_of_pos hp];simp
theorem B59(h:∀c∈l,c≠46):RG l=l∧RH l=[]:=by
 have hp:∀c∈l,(c !=46)=true:=fun c hc=>by simpa using h c hc
 constructor
 ·have:=List.takeWhile_append_of_pos (l₂:=[]) hp;rw[RG];simpa using this
 ·have:=List.dropWhile_append_of_pos (l₂:=[]) hp;rw[RH];simp at this;rw[this];rfl
theorem AM3(l:List UInt8):(∀c∈l,c≠46)∨∃a b,l=a++46::b∧∀c∈a,c≠46:=by
 induction l with
 |nil=>exact .inl (by simp)
 |cons x l ih=>
  by_cases hx:x=46
  ·subst hx;exact .inr ⟨[],l,rfl,by simp⟩
  ·rcases ih with h|⟨a,b,rfl,h⟩
   ·exact .inl (by simpa [hx]using h)
   ·exact .inr ⟨x::a,b,rfl,by simpa [hx]using h⟩
theorem BO9(h:l.all isD=true):∀c∈l,c≠46:=by
 intro c hc e;subst e;exact absurd (List.all_eq_true.1 h 46 hc) (by decide)
def ZN(l:List UInt8):Int:=if KG (RG l)&&KG (RH l)then G5 (num (RG l)) (num (RH l))else 0
def bU(l:List UInt8):Int:=if KG (RG l)&&KG (RH l)then JB (num (RG l)) (num (RH l))else 2
theorem kQ(h:KG (RG l)=false∨KG (RH l)=false):ZN l=0∧bU l=2:=by
 rcases h with h|h<;>simp[ZN,bU,h]
theorem oN(h:KG (RG l)=true)(h':KG (RH l)=true):ZN l=G5 (num (RG l)) (num (RH l))∧bU l=JB (num (RG l)) (num (RH l)):=by
 simp[ZN,bU,h,h']
def MH(z:Int):List UInt8:=if FQ z then Lib.decDigits (z/2147483648).toNat++46::Lib.decDigits (z%2147483648).toNat else []
def Z4(z:Int):Int:=if FQ z then 0 else 3
theorem zK(h:FQ z=false):MH z=[]∧Z4 z=3:=by simp[MH,Z4,h]
theorem bW(h:FQ z=true):MH z=Lib.decDigits (z/2147483648).toNat++46::Lib.decDigits (z%2147483648).toNat∧Z4 z=0:=by simp[MH,Z4,h]
theorem AM4(h:FQ z=true):ZN (MH z)=z∧bU (MH z)=0:=by
 have hz:=H6.1 h;obtain⟨i1,i2,_,_⟩:=bQ (z/2147483648).toNat;obtain⟨_,j2,_,_⟩:=bQ (z%2147483648).toNat;obtain⟨c1,c2⟩:=AM2 (b:=Lib.decDigits (z%2147483648).toNat) (BO9 i1);rw[(bW h).1];obtain⟨r1,r2⟩:=oN (l:=Lib.decDigits (z/2147483648).toNat++46::Lib.decDigits (z%2147483648).toNat) (by rw[c1];exact zJ (by omega)) (by rw[c2];exact zJ (by omega));rw[r1,r2,c1,c2,i2,j2];obtain⟨m1,m2⟩:=OZ (e:=((z/2147483648).toNat:Int)) (c:=((z%2147483648).toNat:Int)) (LC.2 (by omega)) (LC.2 (by omega));rw[m1,m2,Int.toNat_of_nonneg (by omega),Int.toNat_of_nonneg (by omega)];exact⟨by omega,rfl⟩
theorem O7{a b:Bool}(h:a=b):Ending.returned (.bool a)=.returned (.bool b):=by rw[h]
theorem EM(z:Int)(w:World):
  Calls prog 65 #[I0 z] w fun e w'=>e=.returned (.bool (FQ z))∧w'=w:=by
 go_enter func65,ntmps65
 go_wp2
 go_ret;exact⟨O7 (by rw[Bool.eq_iff_iff,H6,beq_iff_eq];omega),rfl⟩
theorem PV(e c:Int)(w:World):
  Calls prog 64 #[I0 e,I0 c] w fun x w'=>x=.returned (.tuple #[I0 (G5 e c),I0 (JB e c)])∧w'=w:=by
 by_cases h1:e<0
 ·have H:=AA (ZQ (e:=e) (c:=c) (.inl (yF (by omega))));go_enter func64,ntmps64
  go_wp2
  go_ret2
  exact⟨KJ (A8 H).1.symm (A8 H).2.symm,rfl⟩
 by_cases h2:2147483647<e
 ·have H:=AA (ZQ (e:=e) (c:=c) (.inl (yF (by omega))));go_enter func64,ntmps64
  go_wp2
  go_ret2
  exact⟨KJ (A8 H).1.symm (A8 H).2.symm,rfl⟩
 by_cases h3:c<0
 ·have H:=AA (ZQ (e:=e) (c:=c) (.inr (yF (by omega))));go_enter func64,ntmps64
  go_wp2
  go_ret2
  exact⟨KJ (A8 H).1.symm (A8 H).2.symm,rfl⟩
 by_cases h4:2147483647<c
 ·have H:=AA (ZQ (e:=e) (c:=c) (.inr (yF (by omega))));go_enter func64,ntmps64
  go_wp2
  go_ret2
  exact⟨KJ (A8 H).1.symm (A8 H).2.symm,rfl⟩
 have H:=AA (OZ (e:=e) (c:=c) (LC.2 (by omega)) (LC.2 (by omega)));go_enter func64,ntmps64
 go_wp2
 go_ret2
 exact⟨KJ ((BM5 (by omega) (by omega) (by omega) (by omega)).trans (A8 H).1.symm) (A8 H).2.symm,rfl⟩
theorem LM(z:Int)(w:World):
  Calls prog 33 #[I0 z] w fun e w'=>e=.returned (I0 (DJ z))∧w'=w:=by
 cases hg:FQ z
 ·have H:=AA (nM hg);have Hg:=AA hg;clear hg;go_enter func33,ntmps33;go_wp2_with fail;refine(EM z _).mono ?_;rintro e w1 ⟨rfl,rfl⟩;rw[A8 Hg];go_wp2_with fail;go_ret;exact⟨jZ (A8 H).symm,rfl⟩
 ·have H:=AA (H7 hg);have Hg:=AA hg;clear hg;go_enter func33,ntmps33;go_wp2_with fail;refine(EM z _).mono ?_;rintro e w1 ⟨rfl,rfl⟩;rw[A8 Hg];go_wp2_with fail;go_ret;exact⟨jZ (A8 H).symm,rfl⟩
theorem YK(z:Int)(w:World):
  Calls prog 148 #[I0 z] w fun e w'=>e=.returned (I0 (gZ z))∧w'=w:=by
 cases hg:FQ z
 ·have H:=AA (AG9 hg);have Hg:=AA hg;clear hg;go_enter func148,ntmps148;go_wp2_with fail;refine(EM z _).mono ?_;rintro e w1 ⟨rfl,rfl⟩;rw[A8 Hg];go_wp2_with fail;go_ret;exact⟨jZ (A8 H).symm,rfl⟩
 ·have H:=AA (U5 hg);have Hg:=AA hg;clear hg;go_enter func148,ntmps148;go_wp2_with fail;refine(EM z _).mono ?_;rintro e w1 ⟨rfl,rfl⟩;rw[A8 Hg];go_wp2_with fail;go_ret;have h:=H6.1 (A8 Hg);exact⟨jZ ((B21 h.1 h.2).trans (A8 H).symm),rfl⟩
theorem AC2(s:ByteArray):s.data.toList.length=s.size:=by simp
theorem NH{i j:Int}{a b:Bool}(h:i=j)(h':a=b):Ending.returned (.tuple #[.int .i64 i,.bool a])=.returned (.tuple #[.int .i64 j,.bool b]):=by rw[h,h']
theorem CG1(s:ByteArray)(h:0<s.size):s.data.toList.head?=some s[0]:=by
 rw[List.head?_eq_getElem?,List.getElem?_eq_getElem (by simpa using h)];rfl
theorem A12(s:ByteArray)(k:Nat)(h:k<s.size):num (s.data.toList.take (k+1))=10*num (s.data.toList.take k)+(s[k].toNat-48):=by
 rw[aS s k h,kP]
theorem qI(s:ByteArray)(k:Nat)(h:k<10)(ha:(s.data.toList.take k).all isD=true):num (s.data.toList.take k)<1000000000:=by
 have h1:=C31 _ ha;have h2:(s.data.toList.take k).length≤9:=by rw[List.length_take];omega
 have h3:10^(s.data.toList.take k).length≤10^9:=Nat.pow_le_pow_right (by decide) h2;have h4:(10:Nat)^9=1000000000:=by decide
 omega
theorem UH(s:ByteArray)(w:World)(hs:s.size≤140737488355328):
  Calls prog 63 #[.string s] w fun e w'=>e=.returned (.tuple #[.int .i64 (bM s.data.toList),.bool (KG s.data.toList)])∧w'=w:=by
 have hz:=AC2 s;by_cases h1:s.size<1
 ·have hp:KG s.data.toList=false:=ZX (by omega);have H:=AA hp;clear hp;go_enter func63,ntmps63
  go_wp2
  go_ret2
  exact⟨NH (NC (A8 H)).symm (A8 H).symm,rfl⟩
 by_cases h2:10<s.size
 ·have hp:KG s.data.toList=false:=ZX (by omega);have H:=AA hp;clear hp;go_enter func63,ntmps63
  go_wp2
  go_ret2
  exact⟨NH (NC (A8 H)).symm (A8 H).symm,rfl⟩
 have hhd:=CG1 s (by omega);have h0:0<s.size:=by omega
 by_cases h3:1<s.size∧s[0]=48
 ·have hp:KG s.data.toList=false:=ZX (by
   rintro⟨_,_,h,_⟩;exact h (by omega) (by rw[hhd,h3.2]))
  have H:=AA hp;have h4:((s[0].toNat:Int)==48)=true:=by rw[h3.2];rfl
  have h5:=h3.1;clear hp h3 hhd;go_enter func63,ntmps63
  go_wp2
  go_ret2
  exact⟨NH (NC (A8 H)).symm (A8 H).symm,rfl⟩
 have Hok:Hid (s.data.toList.all isD=true→KG s.data.toList=true):=AA (fun h=>bP.2 ⟨by omega,by omega,fun hl e=>h3 ⟨by omega,by rw[hhd]at e;exact Option.some.inj e⟩,h⟩);have Hno:Hid (s.data.toList.all isD=false→KG s.data.toList=false):=AA (fun h=>ZX (fun hh=>by rw[h]at hh;exact absurd hh.2.2.2 (by decide)));have h4:1<s.size→((s[0].toNat:Int)==48)=false:=fun hl=>by
  rw[beq_eq_false_iff_ne];intro e;exact h3 ⟨hl,UInt8.toNat_inj.1 (by show s[0].toNat=48;omega)⟩
 clear h3 hhd;by_cases h5:1<s.size
 ·have h6:=h4 h5;clear h4;go_enter func63,ntmps63
  go_wp2
  clear h6
  go_loop [4,26] (fun n i=>∃k:Nat,k≤s.size∧i=.int .i64 k∧n=.int .i64 (num (s.data.toList.take k):Int)∧(s.data.toList.take k).all isD=true) (fun _ i=>s.size-(intOf i).toNat)
  case atStart=>exact⟨0,Nat.zero_le _,rfl,rfl,by simp⟩
  case round=>
   obtain⟨k,hk,rfl,rfl,hall⟩:=hrel;have tN:=AA hall;by_cases hlt:k<s.size
   ·have hsm:=qI s k (by omega) hall;have Hnt:=AA (A12 s k hlt);clear hall;obtain⟨n,hn⟩:∃n,num (s.data.toList.take k)=n:=⟨_,rfl⟩;rw[hn]at hsm Hnt⊢;clear hn;by_cases hd:isD s[k]=true
    ·have hd1:=(SK.1 hd).1;have hd2:=(SK.1 hd).2;have Hd:=AA hd;clear hd
     go_wp2
     go_round
     case rel=>exact⟨k+1,by omega,by go_num,by rw[A8 Hnt];go_num,QE s k hlt isD (A8 tN) (A8 Hd)⟩
     case measure=>simp[intOf];omega
    ·have hd':isD s[k]=false:=by simpa using hd
     have hp:=A8 Hno (Y8 s k hlt isD hd');have hq:s[k].toNat<48∨57<s[k].toNat:=by
      by_cases hc:48≤s[k].toNat∧s[k].toNat≤57
      ·exact absurd (SK.2 hc) hd
      ·omega
     have H:=AA hp;clear hp hd hd';rcases hq with hq|hq
     ·go_wp2
      go_ret2
      exact⟨NH (NC (A8 H)).symm (A8 H).symm,rfl⟩
     ·go_wp2
      go_ret2
      exact⟨NH (NC (A8 H)).symm (A8 H).symm,rfl⟩
   ·have hp:=A8 Hok (VB s k (by omega) isD hall);have H:=AA hp;have hkk:s.data.toList.take k=s.data.toList:=List.take_of_length_le (by omega);rw[hkk];clear hp hall tN hkk
    go_wp2
    go_ret2
    exact⟨NH (SN (A8 H)).symm (A8 H).symm,rfl⟩
 ·clear h4;go_enter func63,ntmps63
  go_wp2
  go_loop [4,26] (fun n i=>∃k:Nat,k≤s.size∧i=.int .i64 k∧n=.int .i64 (num (s.data.toList.take k):Int)∧(s.data.toList.take k).all isD=true) (fun _ i=>s.size-(intOf i).toNat)
  case atStart=>exact⟨0,Nat.zero_le _,rfl,rfl,by simp⟩
  case round=>
   obtain⟨k,hk,rfl,rfl,hall⟩:=hrel;have tN:=AA hall;by_cases hlt:k<s.size
   ·have hsm:=qI s k (by omega) hall;have Hnt:=AA (A12 s k hlt);clear hall;obtain⟨n,hn⟩:∃n,num (s.data.toList.take k)=n:=⟨_,rfl⟩;rw[hn]at hsm Hnt⊢;clear hn;by_cases hd:isD s[k]=true
    ·have hd1:=(SK.1 hd).1;have hd2:=(SK.1 hd).2;have Hd:=AA hd;clear hd
     go_wp2
     go_round
     case rel=>exact⟨k+1,by omega,by go_num,by rw[A8 Hnt];go_num,QE s k hlt isD (A8 tN) (A8 Hd)⟩
     case measure=>simp[intOf];omega
    ·have hd':isD s[k]=false:=by simpa using hd
     have hp:=A8 Hno (Y8 s k hlt isD hd');have hq:s[k].toNat<48∨57<s[k].toNat:=by
      by_cases hc:48≤s[k].toNat∧s[k].toNat≤57
      ·exact absurd (SK.2 hc) hd
      ·omega
     have H:=AA hp;clear hp hd hd';rcases hq with hq|hq
     ·go_wp2
      go_ret2
      exact⟨NH (NC (A8 H)).symm (A8 H).symm,rfl⟩
     ·go_wp2
      go_ret2
      exact⟨NH (NC (A8 H)).symm (A8 H).symm,rfl⟩
   ·have hp:=A8 Hok (VB s k (by omega) isD hall);have H:=AA hp;have hkk:s.data.toList.take k=s.data.toList:=List.take_of_length_le (by omega);rw[hkk];clear hp hall tN hkk
    go_wp2
    go_ret2
    exact⟨NH (SN (A8 H)).symm (A8 H).symm,rfl⟩
theorem AR3{a b:List UInt8}(h:∀c∈a,c≠46):Lib.indexByte (a++46::b) 46=(a.length:Int):=by
 induction a with
 |nil=>rfl
 |cons x a ih=>
  have hx:(x==46)=false:=by simpa using h x (by simp)
  have ih':=ih (fun c hc=>h c (by simp[hc]));show Lib.indexByte (x::(a++46::b)) 46=_;rw[Lib.indexByte,if_neg (by simp[hx]),ih',if_neg (by simp)];simp
theorem AC3(h:∀c∈l,c≠46):Lib.indexByte l 46=-1:=by
 induction l with
 |nil=>rfl
 |cons x a ih=>
  have hx:(x==46)=false:=by simpa using h x (by simp)
  have ih':=ih (fun c hc=>h c (by simp[hc]));rw[Lib.indexByte,if_neg (by simp[hx]),ih'];rfl
theorem BK4(h:a.data.toList=l):a=⟨l.toArray⟩:=by rw[←h]
theorem AR4(a b:List UInt8):(ByteArray.mk (a++46::b).toArray).extract 0 a.length=⟨a.toArray⟩:=by
 apply BK4
 rw[←Lib.toList_data,Lib.extract_toList];show ((a++46::b).drop 0).take (a.length-0)=a;simp
theorem BA7(a b:List UInt8)(n:Nat)(hn:n=(a++46::b).length):(ByteArray.mk (a++46::b).toArray).extract (a.length+1) n=⟨b.toArray⟩:=by
 subst hn
 apply BK4
 rw[←Lib.toList_data,Lib.extract_toList];show ((a++46::b).drop (a.length+1)).take ((a++46::b).length-(a.length+1))=b;rw[show (a++46::b).drop (a.length+1)=b from by simp];exact List.take_of_length_le (by simp;omega)
theorem AR5{b c d:ByteArray}{x:Bool}(h:a=b)(h':c=d):Ending.returned (.tuple #[.string a,.string c,.bool x])=.returned (.tuple #[.string b,.string d,.bool x]):=by rw[h,h']
theorem wF(l:List UInt8)(w:World)(hl:l.length≤140737488355328):
  Calls prog 106 #[.string ⟨l.toArray⟩,.string ⟨#[46]⟩] w fun e w'=>∃b,e=.returned (.tuple #[.string ⟨(RG l).toArray⟩,.string ⟨(RH l).toArray⟩,.bool b])∧Below w.heap.size w w':=by
 have hz:(ByteArray.mk l.toArray).size=l.length:=Lib.size_eq ⟨l.toArray⟩;rcases AM3 l with hd|⟨a,b,rfl,hd⟩
 ·have H:=AA (B59 hd);have HI:=AA (AC3 hd);clear hd;go_enter func106,ntmps106;go_wp2_with fail;refine(stringslite_Index_one ⟨l.toArray⟩ 46 _).mono ?_;rintro e w1 ⟨rfl,rfl⟩;rw[show Lib.indexByte (ByteArray.mk l.toArray).data.toList 46=-1 from A8 HI];go_wp2_with fail
  go_ret3
  exact⟨_,AR5 (by rw[(A8 H).1]) (by rw[(A8 H).2]),Below.refl _ _⟩
 ·have H:=AA (AM2 (b:=b) hd);have HI:=AA (AR3 (b:=b) hd);have hlen:(a++46::b).length=a.length+1+b.length:=by simp;omega
  rw[hlen]at hz hl;have HL:=AA hlen;have H1:=AA (AR4 a b);have H2:=AA (BA7 a b _ rfl);clear hd hlen;obtain⟨S,hS⟩:∃S,(ByteArray.mk (a++46::b).toArray)=S:=⟨_,rfl⟩;rw[hS]at hz H1 H2⊢;have HI':Hid (Lib.indexByte S.data.toList 46=(a.length:Int)):=AA (by rw[←hS];exact A8 HI);have HE:Hid (S.extract (a.length+1) (a.length+1+b.length)=⟨b.toArray⟩):=AA (by rw[←A8 HL];exact A8 H2);clear hS HI H2;have c1:(0:Int)≤(a.length:Int):=by omega
  have c2:(a.length:Int)≤(S.size:Int):=by omega
  have c3:(0:Int)≤(a.length:Int)+1:=by omega
  have c4:(a.length:Int)+1≤(S.size:Int):=by omega
  go_enter func106,ntmps106;go_wp2_with fail;refine(stringslite_Index_one S 46 _).mono ?_;rintro e w1 ⟨rfl,rfl⟩;rw[A8 HI'];go_wp2_with fail;go_region
  go_wp2
  go_ret3
  exact⟨_,AR5 (by rw[(A8 H).1];exact A8 H1) (by rw[(A8 H).2];exact A8 HE),(Below.refl _ _).drew⟩
theorem wG(l:List UInt8)(w:World)(hl:l.length≤140737488355328):
  Calls prog 62 #[.string ⟨l.toArray⟩,.string ⟨#[46]⟩] w fun e w'=>∃b,e=.returned (.tuple #[.string ⟨(RG l).toArray⟩,.string ⟨(RH l).toArray⟩,.bool b])∧Below w.heap.size w w':=by
 go_enter func62,ntmps62;go_wp2_with fail;refine(wF l _ hl).mono ?_;rintro e w1 ⟨b,rfl,hb1⟩;go_wp2_with fail
 go_ret3
 exact⟨_,rfl,hb1⟩
theorem BS0(l:List UInt8):(RG l).length≤l.length∧(RH l).length≤l.length:=by
 constructor
 ·exact(List.takeWhile_prefix _).length_le
 ·rw[RH,List.length_drop];have:=(List.dropWhile_suffix (l:=l) (fun c=>c !=46)).length_le;omega
theorem AR6(l:List UInt8)(w:World)(hl:l.length≤140737488355328):
  Calls prog 32 #[.string ⟨l.toArray⟩] w fun e w'=>e=.returned (.tuple #[.int .i64 (ZN l),.int .i64 (bU l)])∧Below w.heap.size w w':=by
 have hc:=BS0 l;have c1:=hc.1;have c2:=hc.2;clear hc
 cases h1:KG (RG l)
 ·have H:=AA (kQ (.inl h1));have HA:Hid (bM (RG l)=0∧KG (RG l)=false):=AA ⟨NC h1,h1⟩;clear h1;go_enter func32,ntmps32;go_wp2_with fail;refine(wG l _ hl).mono ?_;rintro e w1 ⟨b,rfl,hb1⟩;go_wp2_with fail;refine(UH ⟨(RG l).toArray⟩ _ (by rw[Lib.size_eq];show (RG l).length≤_;omega)).mono ?_;rintro e w2 ⟨rfl,rfl⟩;rw[show (ByteArray.mk (RG l).toArray).data.toList=RG l from rfl,(A8 HA).1,(A8 HA).2];go_wp2_with fail;refine(UH ⟨(RH l).toArray⟩ _ (by rw[Lib.size_eq];show (RH l).length≤_;omega)).mono ?_;rintro e w2 ⟨rfl,rfl⟩;rw[show (ByteArray.mk (RH l).toArray).data.toList=RH l from rfl];obtain⟨B,hB⟩:∃B,KG (RH l)=B:=⟨_,rfl⟩;obtain⟨M,hM⟩:∃M,bM (RH l)=M:=⟨_,rfl⟩;rw[hB,hM];clear hB hM HA;go_wp2_with fail
  go_ret2
  exact⟨KJ (A8 H).1.symm (A8 H).2.symm,hb1⟩
 cases h2:KG (RH l)
 ·have H:=AA (kQ (.inr h2));have HA:Hid (bM (RG l)=num (RG l)∧KG (RG l)=true):=AA ⟨SN h1,h1⟩;have HZ:Hid (bM (RH l)=0∧KG (RH l)=false):=AA ⟨NC h2,h2⟩;clear h1 h2;go_enter func32,ntmps32;go_wp2_with fail;refine(wG l _ hl).mono ?_;rintro e w1 ⟨b,rfl,hb1⟩;go_wp2_with fail;refine(UH ⟨(RG l).toArray⟩ _ (by rw[Lib.size_eq];show (RG l).length≤_;omega)).mono ?_;rintro e w2 ⟨rfl,rfl⟩;rw[show (ByteArray.mk (RG l).toArray).data.toList=RG l from rfl,(A8 HA).1,(A8 HA).2];go_wp2_with fail;refine(UH ⟨(RH l).toArray⟩ _ (by rw[Lib.size_eq];show (RH l).length≤_;omega)).mono ?_;rintro e w2 ⟨rfl,rfl⟩;rw[show (ByteArray.mk (RH l).toArray).data.toList=RH l from rfl,(A8 HZ).1,(A8 HZ).2];go_wp2_with fail
  go_ret2
  exact⟨KJ (A8 H).1.symm (A8 H).2.symm,hb1⟩
 have H:=AA (oN h1 h2);have HA:Hid (bM (RG l)=num (RG l)∧KG (RG l)=true):=AA ⟨SN h1,h1⟩;have HZ:Hid (bM (RH l)=num (RH l)∧KG (RH l)=true):=AA ⟨SN h2,h2⟩;clear h1 h2;go_enter func32,ntmps32;go_wp2_with fail;refine(wG l _ hl).mono ?_;rintro e w1 ⟨b,rfl,hb1⟩;go_wp2_with fail;refine(UH ⟨(RG l).toArray⟩ _ (by rw[Lib.size_eq];show (RG l).length≤_;omega)).mono ?_;rintro e w2 ⟨rfl,rfl⟩;rw[show (ByteArray.mk (RG l).toArray).data.toList=RG l from rfl,(A8 HA).1,(A8 HA).2];go_wp2_with fail;refine(UH ⟨(RH l).toArray⟩ _ (by rw[Lib.size_eq];show (RH l).length≤_;omega)).mono ?_;rintro e w2 ⟨rfl,rfl⟩;rw[show (ByteArray.mk (RH l).toArray).data.toList=RH l from rfl,(A8 HZ).1,(A8 HZ).2];go_wp2_with fail;refine(PV _ _ _).mono ?_;rintro e w3 ⟨rfl,rfl⟩;obtain⟨X,hX⟩:∃X,G5 (num (RG l)) (num (RH l))=X:=⟨_,rfl⟩;obtain⟨E,hE⟩:∃E,JB (num (RG l)) (num (RH l))=E:=⟨_,rfl⟩;rw[hX,hE];rw[hX,hE]at H;clear hX hE HA HZ;go_wp2_with fail
 go_ret2
 exact⟨KJ (A8 H).1.symm (A8 H).2.symm,hb1⟩
theorem dV(w:World)(k:Nat)(os:Array Obj):B0 w (Sort.grow (w.drewN k) os):=
 ⟨rfl,rfl,rfl,by simp[Sort.grow,World.drewN],fun i hi=>by simp[Sort.grow,World.drewN,Array.getElem?_append_left hi]⟩
theorem qL{b:ByteArray}{i j:Int}(h:a=b)(h':i=j):Ending.returned (.tuple #[.string a,I0 i])=.returned (.tuple #[.string b,I0 j]):=by rw[h,h']
theorem wM{w1 w2:World}(h:B0 w w1)(h':B0 w1 w2):B0 w w2:=h.trans (h'.mono h.size)
theorem BB4(d m:List UInt8):(ByteArray.mk d.toArray)++(ByteArray.mk #[46])++(ByteArray.mk m.toArray)=⟨(d++46::m).toArray⟩:=by
 apply ByteArray.ext
 simp[ByteArray.data_append]
theorem AT0:prog.globalNamed "internal/strconv.uint64pow10" =some 1:=by kernel_rfl
theorem AT1(htab:Lib.TabIs prog w "internal/strconv.uint64pow10" .u64 Lib.pow10Tab):1<w.heap.size:=by
 have hc:=htab.cell AT0 0 (by decide);unfold World.cell? at hc
 cases ho:w.heap[1]? with
 |none=>simp[ho]at hc
 |some o=>exact(Array.getElem?_eq_some_iff.1 ho).1
theorem qM{w':World}(htab:Lib.TabIs prog w "internal/strconv.uint64pow10" .u64 Lib.pow10Tab)(hb:B0 w w'):Lib.TabIs prog w' "internal/strconv.uint64pow10" .u64 Lib.pow10Tab:=
 var?_below hb AT0 (AT1 htab) htab
theorem dW(z:Int)(w:World)(htab:Lib.TabIs prog w "internal/strconv.uint64pow10" .u64 Lib.pow10Tab):
  Calls prog 131 #[I0 z] w (R0 w (.tuple #[S0 (MH z),I0 (Z4 z)])):=by
 cases hg:FQ z
 ·have H:=AA (zK hg);have Hg:=AA hg;clear hg htab;go_enter func131,ntmps131;go_wp2_with fail;refine(EM z _).mono ?_;rintro e w1 ⟨rfl,rfl⟩;rw[A8 Hg];go_wp2_with fail
  go_ret2
  exact⟨qL (by rw[(A8 H).1]) (A8 H).2.symm,Below.refl _ _⟩
 have hz:=H6.1 hg;have H:=AA (bW hg);have Hg:=AA hg;have q0:(z/2147483648)=((z/2147483648).toNat:Int):=by omega
 have r0:(z%2147483648)=((z%2147483648).toNat:Int):=by omega
 obtain⟨q,hq⟩:∃q,(z/2147483648).toNat=q:=⟨_,rfl⟩;obtain⟨r,hr⟩:∃r,(z%2147483648).toNat=r:=⟨_,rfl⟩;have q1:q<2147483648:=by omega
 have r1:r<2147483648:=by omega
 rw[hq]at q0;rw[hr]at r0;rw[hq,hr]at H;have Ez:Hid (DJ z=(q:Int)):=AA (by rw[H7 hg];exact q0);have Cz:Hid (gZ z=(r:Int)):=AA (by rw[U5 hg];exact r0);have Htab:=AA htab;have Hiq:=AA (Lib.itoa_nonneg q);have Hir:=AA (Lib.itoa_nonneg r);have lq:=bT 9 q (by omega);have lr:=bT 9 r (by omega);clear hg hz q0 r0 hq hr htab;go_enter func131,ntmps131;go_wp2_with fail;refine(EM z _).mono ?_;rintro e w1 ⟨rfl,rfl⟩;rw[A8 Hg];go_wp2_with fail;refine(LM z _).mono ?_;rintro e w2 ⟨rfl,rfl⟩;rw[A8 Ez];go_wp2_with fail;refine(strconv_Itoa _ (by omega) (by omega) _ (A8 Htab)).mono ?_;rintro e w3 ⟨rfl,k,os,hw3⟩;have hb3:B0 w2 w3:=by rw[hw3];exact dV w2 k os
 clear hw3;rw[A8 Hiq];obtain⟨D,hD⟩:∃D,Lib.decDigits q=D:=⟨_,rfl⟩;rw[hD]at lq H⊢;clear hD;go_wp2_with fail;refine(YK z _).mono ?_;rintro e w4 ⟨rfl,rfl⟩;rw[A8 Cz];go_wp2_with fail;refine(strconv_Itoa _ (by omega) (by omega) _ (qM (A8 Htab) hb3)).mono ?_;rintro e w5 ⟨rfl,k,os,hw5⟩;have hb5:B0 w2 w5:=wM hb3 (by rw[hw5];exact dV w4 k os);clear hw5;rw[A8 Hir];obtain⟨R,hR⟩:∃R,Lib.decDigits r=R:=⟨_,rfl⟩;rw[hR]at lr H⊢;clear hR Hiq Hir Ez Cz Hg hb3;have zD:(ByteArray.mk D.toArray).size=D.length:=Lib.size_eq ⟨D.toArray⟩;have zR:(ByteArray.mk R.toArray).size=R.length:=Lib.size_eq ⟨R.toArray⟩;go_wp2_with fail
 go_ret2
 exact⟨qL (by rw[(A8 H).1];exact BB4 D R) (A8 H).2.symm,hb5⟩
theorem qZ(z:Int)(w:World):
  Calls prog 107 #[I0 z] w fun e w'=>e=.returned (.tuple #[I0 (aT z),I0 (RV z)])∧w'=w:=by
 cases hg:FQ z
 ·have H:=AA (AH0 hg);have Hg:=AA hg;clear hg;go_enter func107,ntmps107;go_wp2_with fail;refine(EM z _).mono ?_;rintro e w1 ⟨rfl,rfl⟩;rw[A8 Hg];go_wp2_with fail
  go_ret2
  exact⟨KJ (A8 H).1.symm (A8 H).2.symm,rfl⟩
 have hz:=H6.1 hg;have h0:=hz.1;have h1:=hz.2;clear hz
 cases hi:zIn (z%2147483648+1)
 ·have H:=AA (A56 hg hi);have Hg:=AA hg;have hf:(z%2147483648==2147483647)=true:=by
   rw[beq_iff_eq];have:=Int.emod_nonneg z (show (2147483648:Int)≠0 by decide);have:=Int.emod_lt_of_pos z (show (0:Int)<2147483648 by decide);by_cases h:z%2147483648=2147483647
   ·exact h
   ·rw[LC.2 (by omega)]at hi;exact absurd hi (by decide)
  clear hg hi;go_enter func107,ntmps107;go_wp2_with fail;refine(EM z _).mono ?_;rintro e w1 ⟨rfl,rfl⟩;rw[A8 Hg];go_wp2_with fail;refine(YK z _).mono ?_;rintro e w2 ⟨rfl,rfl⟩;rw[U5 (A8 Hg)];go_wp2_with fail
  go_ret2
  exact⟨KJ (A8 H).1.symm (A8 H).2.symm,rfl⟩
 ·have H:=AA (jY hg hi);have Hg:=AA hg;have hf:(z%2147483648==2147483647)=false:=by
   rw[beq_eq_false_iff_ne];have:=(LC.1 hi).2;omega
  clear hg hi;go_enter func107,ntmps107;go_wp2_with fail;refine(EM z _).mono ?_;rintro e w1 ⟨rfl,rfl⟩;rw[A8 Hg];go_wp2_with fail;refine(YK z _).mono ?_;rintro e w2 ⟨rfl,rfl⟩;rw[U5 (A8 Hg)];go_wp2_with fail
  go_ret2
  exact⟨KJ (A8 H).1.symm (A8 H).2.symm,rfl⟩
end Go.Proofs.YtnjehbehmkfngaaGreatDoor
