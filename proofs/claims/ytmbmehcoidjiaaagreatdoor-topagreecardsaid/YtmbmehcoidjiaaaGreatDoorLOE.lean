/-
  Part.
-/
import Derived.Test.YtmbmehcoidjiaaaGreatDoorLOA
import Derived.Test.YtmbmehcoidjiaaaGreatDoorRows
import Derived.WalkSpells
import Derived.WalkLawsBesides
import Derived.Test.YtmbmehcoidjiaaaGreatDoorShelf
set_option maxRecDepth 20000
set_option maxHeartbeats 8000000
namespace Go.Proofs.YtmbmehcoidjiaaaGreatDoor
open Go.RowKit Go.Proofs.Tryz
variable{l:List UInt8}{u:Nat}{a:ByteArray}{z:Int}{w:World}
def isD(c:UInt8):Bool:=decide (48≤c.toNat)&&decide (c.toNat≤57)
theorem SY{c:UInt8}:isD c=true↔48≤c.toNat∧c.toNat≤57:=by simp[isD]
def num(l:List UInt8):Nat:=l.foldl (fun n c=>10*n+(c.toNat-48)) 0
theorem kZ(l:List UInt8)(c:UInt8):num (l++[c])=10*num l+(c.toNat-48):=by simp[num]
theorem A96(l:List UInt8):l=[]∨∃a c,l=a++[c]:=by
 cases h:l.reverse with
 |nil=>exact .inl (by simpa using h)
 |cons c r=>exact .inr ⟨r.reverse,c,by have:=congrArg List.reverse h;simpa using this⟩
theorem C60(l:List UInt8)(h:l.all isD=true):num l<10^l.length:=by
 obtain⟨n,hn⟩:∃n,l.length=n:=⟨_,rfl⟩
 induction n generalizing l with
 |zero=>rw[List.length_eq_zero_iff.1 hn];decide
 |succ n ih=>
  rcases A96 l with rfl|⟨a,c,rfl⟩
  ·simp at hn
  ·simp only[List.all_append,Bool.and_eq_true,List.all_cons,List.all_nil,Bool.and_true]at h;have h1:=ih a h.1 (by simpa using hn);have h2:=SY.1 h.2;rw[kZ,List.length_append,List.length_singleton,Nat.pow_succ];omega
def KN(l:List UInt8):Bool:=decide (1≤l.length)&&decide (l.length≤10)&& !(decide (1<l.length)&&l.head?==some 48)&&l.all isD
def cO(l:List UInt8):Int:=if KN l then(num l:Int)else 0
theorem TA(h:KN l=true):cO l=num l:=by rw[cO,if_pos h]
theorem NI(h:KN l=false):cO l=0:=by rw[cO,h];rfl
theorem cZ:KN l=true↔1≤l.length∧l.length≤10∧(1<l.length→l.head? ≠some 48)∧l.all isD=true:=by
 simp only[KN,Bool.and_eq_true,decide_eq_true_eq,Bool.not_eq_true',Bool.and_eq_false_imp,beq_eq_false_iff_ne,ne_eq];constructor
 ·rintro⟨⟨⟨a,b⟩,c⟩,d⟩;exact⟨a,b,c,d⟩
 ·rintro⟨a,b,c,d⟩;exact⟨⟨⟨a,b⟩,c⟩,d⟩
theorem aK(h:¬ (1≤l.length∧l.length≤10∧(1<l.length→l.head? ≠some 48)∧l.all isD=true)):KN l=false:=by
 cases hp:KN l with
 |false=>rfl
 |true=>exact absurd (cZ.1 hp) h
theorem CF8(h:u<10):Lib.decDigits u=[UInt8.ofNat (48+u)]:=by rw[Lib.decDigits,dif_pos h]
theorem decb(h:¬u<10):Lib.decDigits u=Lib.decDigits (u/10)++[UInt8.ofNat (48+u%10)]:=by rw[Lib.decDigits,dif_neg h]
theorem XG{d:Nat}(h:d<10):(UInt8.ofNat (48+d)).toNat=48+d:=by rw[UInt8.toNat_ofNat'];omega
theorem AO1{d:Nat}(h:d<10):isD (UInt8.ofNat (48+d))=true:=SY.2 (by rw[XG h];omega)
theorem dA(u:Nat):(Lib.decDigits u).all isD=true∧num (Lib.decDigits u)=u∧1≤(Lib.decDigits u).length∧(u≠0→(Lib.decDigits u).head? ≠some 48):=by
 induction u using Nat.strongRecOn with
 |_ u ih=>
  by_cases h:u<10
  ·rw[CF8 h];refine⟨by rw[List.all_cons,List.all_nil,AO1 h];rfl,?_,by simp,?_⟩
   ·show 10*0+((UInt8.ofNat (48+u)).toNat-48)=u;rw[XG h];omega
   ·intro h0 e;have h1:=congrArg UInt8.toNat (Option.some.inj e);rw[XG h]at h1;have h2:(48:UInt8).toNat=48:=rfl;omega
  ·rw[decb h];obtain⟨i1,i2,i3,i4⟩:=ih (u/10) (by omega);refine⟨by rw[List.all_append,i1,List.all_cons,AO1 (Nat.mod_lt u (by decide:0<10)),List.all_nil];rfl,?_,by simp,?_⟩
   ·rw[kZ,i2,XG (Nat.mod_lt u (by decide))];omega
   ·intro _;have i5:=i4 (by omega)
    cases hd:Lib.decDigits (u/10)with
    |nil=>rw[hd]at i3;simp at i3
    |cons c r=>rw[hd]at i5;simpa using i5
theorem dB(k:Nat):∀u,u<10^(k+1)→(Lib.decDigits u).length≤k+1:=by
 induction k with
 |zero=>intro u hu;rw[CF8 (by simpa using hu)];simp
 |succ k ih=>
  intro u hu;by_cases h:u<10
  ·rw[CF8 h];simp
  ·rw[decb h];have:=ih (u/10) (by rw[Nat.pow_succ]at hu;omega);simp;omega
theorem BR8(h:1<(Lib.decDigits u).length):u≠0:=by
 rintro rfl;rw[CF8 (by decide)]at h;simp at h
theorem A00(h:u<10000000000):KN (Lib.decDigits u)=true:=by
 obtain⟨i1,i2,i3,i4⟩:=dA u;exact cZ.2 ⟨i3,dB 9 u h,fun hl=>i4 (BR8 hl),i1⟩
def RP(l:List UInt8):List UInt8:=l.takeWhile (fun c=>c !=46)
def RQ(l:List UInt8):List UInt8:=(l.dropWhile (fun c=>c !=46)).drop 1
theorem AO2{a b:List UInt8}(h:∀c∈a,c≠46):RP (a++46::b)=a∧RQ (a++46::b)=b:=by
 have hp:∀c∈a,(c !=46)=true:=fun c hc=>by simpa using h c hc
 constructor
 ·rw[RP,List.takeWhile_append_of_pos hp];simp
 ·rw[RQ,List.dropWhile_append_of_pos hp];simp
theorem B77(h:∀c∈l,c≠46):RP l=l∧RQ l=[]:=by
 have hp:∀c∈l,(c !=46)=true:=fun c hc=>by simpa using h c hc
 constructor
 ·have:=List.takeWhile_append_of_pos (l₂:=[]) hp;rw[RP];simpa using this
 ·have:=List.dropWhile_append_of_pos (l₂:=[]) hp;rw[RQ];simp at this;rw[this];rfl
theorem AO3(l:List UInt8):(∀c∈l,c≠46)∨∃a b,l=a++46::b∧∀c∈a,c≠46:=by
 induction l with
 |nil=>exact .inl (by simp)
 |cons x l ih=>
  by_cases hx:x=46
  ·subst hx;exact .inr ⟨[],l,rfl,by simp⟩
  ·rcases ih with h|⟨a,b,rfl,h⟩
   ·exact .inl (by simpa [hx]using h)
   ·exact .inr ⟨x::a,b,rfl,by simpa [hx]using h⟩
theorem BR9(h:l.all isD=true):∀c∈l,c≠46:=by
 intro c hc e;subst e;exact absurd (List.all_eq_true.1 h 46 hc) (by decide)
def ZX(l:List UInt8):Int:=if KN (RP l)&&KN (RQ l)then G5 (num (RP l)) (num (RQ l))else 0
def dD(l:List UInt8):Int:=if KN (RP l)&&KN (RQ l)then JD (num (RP l)) (num (RQ l))else 2
theorem l7(h:KN (RP l)=false∨KN (RQ l)=false):ZX l=0∧dD l=2:=by
 rcases h with h|h<;>simp[ZX,dD,h]
theorem pK(h:KN (RP l)=true)(h':KN (RQ l)=true):ZX l=G5 (num (RP l)) (num (RQ l))∧dD l=JD (num (RP l)) (num (RQ l)):=by
 simp[ZX,dD,h,h']
def ML(z:Int):List UInt8:=if FU z then Lib.decDigits (z/2147483648).toNat++46::Lib.decDigits (z%2147483648).toNat else []
def ZH(z:Int):Int:=if FU z then 0 else 3
theorem A01(h:FU z=false):ML z=[]∧ZH z=3:=by simp[ML,ZH,h]
theorem dF(h:FU z=true):ML z=Lib.decDigits (z/2147483648).toNat++46::Lib.decDigits (z%2147483648).toNat∧ZH z=0:=by simp[ML,ZH,h]
theorem AO4(h:FU z=true):ZX (ML z)=z∧dD (ML z)=0:=by
 have hz:=H8.1 h;obtain⟨i1,i2,_,_⟩:=dA (z/2147483648).toNat;obtain⟨_,j2,_,_⟩:=dA (z%2147483648).toNat;obtain⟨c1,c2⟩:=AO2 (b:=Lib.decDigits (z%2147483648).toNat) (BR9 i1);rw[(dF h).1];obtain⟨r1,r2⟩:=pK (l:=Lib.decDigits (z/2147483648).toNat++46::Lib.decDigits (z%2147483648).toNat) (by rw[c1];exact A00 (by omega)) (by rw[c2];exact A00 (by omega));rw[r1,r2,c1,c2,i2,j2];obtain⟨m1,m2⟩:=PK (e:=((z/2147483648).toNat:Int)) (c:=((z%2147483648).toNat:Int)) (LH.2 (by omega)) (LH.2 (by omega));rw[m1,m2,Int.toNat_of_nonneg (by omega),Int.toNat_of_nonneg (by omega)];exact⟨by omega,rfl⟩
theorem OC{a b:Bool}(h:a=b):Ending.returned (.bool a)=.returned (.bool b):=by rw[h]
theorem EO(z:Int)(w:World):
  Calls prog 76 #[I0 z] w fun e w'=>e=.returned (.bool (FU z))∧w'=w:=by
 go_enter func76,ntmps76
 go_wp2
 go_ret;exact⟨OC (by rw[Bool.eq_iff_iff,H8,beq_iff_eq];omega),rfl⟩
theorem QB(e c:Int)(w:World):
  Calls prog 75 #[I0 e,I0 c] w fun x w'=>x=.returned (.tuple #[I0 (G5 e c),I0 (JD e c)])∧w'=w:=by
 by_cases h1:e<0
 ·have H:=AA (aC (e:=e) (c:=c) (.inl (yU (by omega))));go_enter func75,ntmps75
  go_wp2
  go_ret2
  exact⟨KQ (A8 H).1.symm (A8 H).2.symm,rfl⟩
 by_cases h2:2147483647<e
 ·have H:=AA (aC (e:=e) (c:=c) (.inl (yU (by omega))));go_enter func75,ntmps75
  go_wp2
  go_ret2
  exact⟨KQ (A8 H).1.symm (A8 H).2.symm,rfl⟩
 by_cases h3:c<0
 ·have H:=AA (aC (e:=e) (c:=c) (.inr (yU (by omega))));go_enter func75,ntmps75
  go_wp2
  go_ret2
  exact⟨KQ (A8 H).1.symm (A8 H).2.symm,rfl⟩
 by_cases h4:2147483647<c
 ·have H:=AA (aC (e:=e) (c:=c) (.inr (yU (by omega))));go_enter func75,ntmps75
  go_wp2
  go_ret2
  exact⟨KQ (A8 H).1.symm (A8 H).2.symm,rfl⟩
 have H:=AA (PK (e:=e) (c:=c) (LH.2 (by omega)) (LH.2 (by omega)));go_enter func75,ntmps75
 go_wp2
 go_ret2
 exact⟨KQ ((BP2 (by omega) (by omega) (by omega) (by omega)).trans (A8 H).1.symm) (A8 H).2.symm,rfl⟩
theorem LU(z:Int)(w:World):
  Calls prog 44 #[I0 z] w fun e w'=>e=.returned (I0 (DK z))∧w'=w:=by
 cases hg:FU z
 ·have H:=AA (o9 hg);have Hg:=AA hg;clear hg;go_enter func44,ntmps44;go_wp2_with fail;refine(EO z _).mono ?_;rintro e w1 ⟨rfl,rfl⟩;rw[A8 Hg];go_wp2_with fail;go_ret;exact⟨kM (A8 H).symm,rfl⟩
 ·have H:=AA (I5 hg);have Hg:=AA hg;clear hg;go_enter func44,ntmps44;go_wp2_with fail;refine(EO z _).mono ?_;rintro e w1 ⟨rfl,rfl⟩;rw[A8 Hg];go_wp2_with fail;go_ret;exact⟨kM (A8 H).symm,rfl⟩
theorem YV(z:Int)(w:World):
  Calls prog 157 #[I0 z] w fun e w'=>e=.returned (I0 (iK z))∧w'=w:=by
 cases hg:FU z
 ·have H:=AA (AI9 hg);have Hg:=AA hg;clear hg;go_enter func157,ntmps157;go_wp2_with fail;refine(EO z _).mono ?_;rintro e w1 ⟨rfl,rfl⟩;rw[A8 Hg];go_wp2_with fail;go_ret;exact⟨kM (A8 H).symm,rfl⟩
 ·have H:=AA (UD hg);have Hg:=AA hg;clear hg;go_enter func157,ntmps157;go_wp2_with fail;refine(EO z _).mono ?_;rintro e w1 ⟨rfl,rfl⟩;rw[A8 Hg];go_wp2_with fail;go_ret;have h:=H8.1 (A8 Hg);exact⟨kM ((B38 h.1 h.2).trans (A8 H).symm),rfl⟩
theorem AD8(s:ByteArray):s.data.toList.length=s.size:=by simp
theorem NT{i j:Int}{a b:Bool}(h:i=j)(h':a=b):Ending.returned (.tuple #[.int .i64 i,.bool a])=.returned (.tuple #[.int .i64 j,.bool b]):=by rw[h,h']
theorem CI5(s:ByteArray)(h:0<s.size):s.data.toList.head?=some s[0]:=by
 rw[List.head?_eq_getElem?,List.getElem?_eq_getElem (by simpa using h)];rfl
theorem A26(s:ByteArray)(k:Nat)(h:k<s.size):num (s.data.toList.take (k+1))=10*num (s.data.toList.take k)+(s[k].toNat-48):=by
 rw[bD s k h,kZ]
theorem qW(s:ByteArray)(k:Nat)(h:k<10)(ha:(s.data.toList.take k).all isD=true):num (s.data.toList.take k)<1000000000:=by
 have h1:=C60 _ ha;have h2:(s.data.toList.take k).length≤9:=by rw[List.length_take];omega
 have h3:10^(s.data.toList.take k).length≤10^9:=Nat.pow_le_pow_right (by decide) h2;have h4:(10:Nat)^9=1000000000:=by decide
 omega
theorem UQ(s:ByteArray)(w:World)(hs:s.size≤140737488355328):
  Calls prog 74 #[.string s] w fun e w'=>e=.returned (.tuple #[.int .i64 (cO s.data.toList),.bool (KN s.data.toList)])∧w'=w:=by
 have hz:=AD8 s;by_cases h1:s.size<1
 ·have hp:KN s.data.toList=false:=aK (by omega);have H:=AA hp;clear hp;go_enter func74,ntmps74
  go_wp2
  go_ret2
  exact⟨NT (NI (A8 H)).symm (A8 H).symm,rfl⟩
 by_cases h2:10<s.size
 ·have hp:KN s.data.toList=false:=aK (by omega);have H:=AA hp;clear hp;go_enter func74,ntmps74
  go_wp2
  go_ret2
  exact⟨NT (NI (A8 H)).symm (A8 H).symm,rfl⟩
 have hhd:=CI5 s (by omega);have h0:0<s.size:=by omega
 by_cases h3:1<s.size∧s[0]=48
 ·have hp:KN s.data.toList=false:=aK (by
   rintro⟨_,_,h,_⟩;exact h (by omega) (by rw[hhd,h3.2]))
  have H:=AA hp;have h4:((s[0].toNat:Int)==48)=true:=by rw[h3.2];rfl
  have h5:=h3.1;clear hp h3 hhd;go_enter func74,ntmps74
  go_wp2
  go_ret2
  exact⟨NT (NI (A8 H)).symm (A8 H).symm,rfl⟩
 have Hok:Hid (s.data.toList.all isD=true→KN s.data.toList=true):=AA (fun h=>cZ.2 ⟨by omega,by omega,fun hl e=>h3 ⟨by omega,by rw[hhd]at e;exact Option.some.inj e⟩,h⟩);have Hno:Hid (s.data.toList.all isD=false→KN s.data.toList=false):=AA (fun h=>aK (fun hh=>by rw[h]at hh;exact absurd hh.2.2.2 (by decide)));have h4:1<s.size→((s[0].toNat:Int)==48)=false:=fun hl=>by
  rw[beq_eq_false_iff_ne];intro e;exact h3 ⟨hl,UInt8.toNat_inj.1 (by show s[0].toNat=48;omega)⟩
 clear h3 hhd;by_cases h5:1<s.size
 ·have h6:=h4 h5;clear h4;go_enter func74,ntmps74
  go_wp2
  clear h6
  go_loop [4,26] (fun n i=>∃k:Nat,k≤s.size∧i=.int .i64 k∧n=.int .i64 (num (s.data.toList.take k):Int)∧(s.data.toList.take k).all isD=true) (fun _ i=>s.size-(intOf i).toNat)
  case atStart=>exact⟨0,Nat.zero_le _,rfl,rfl,by simp⟩
  case round=>
   obtain⟨k,hk,rfl,rfl,hall⟩:=hrel;have uK:=AA hall;by_cases hlt:k<s.size
   ·have hsm:=qW s k (by omega) hall;have Hnt:=AA (A26 s k hlt);clear hall;obtain⟨n,hn⟩:∃n,num (s.data.toList.take k)=n:=⟨_,rfl⟩;rw[hn]at hsm Hnt⊢;clear hn;by_cases hd:isD s[k]=true
    ·have hd1:=(SY.1 hd).1;have hd2:=(SY.1 hd).2;have Hd:=AA hd;clear hd
     go_wp2
     go_round
     case rel=>exact⟨k+1,by omega,by go_num,by rw[A8 Hnt];go_num,QL s k hlt isD (A8 uK) (A8 Hd)⟩
     case measure=>simp[intOf];omega
    ·have hd':isD s[k]=false:=by simpa using hd
     have hp:=A8 Hno (YI s k hlt isD hd');have hq:s[k].toNat<48∨57<s[k].toNat:=by
      by_cases hc:48≤s[k].toNat∧s[k].toNat≤57
      ·exact absurd (SY.2 hc) hd
      ·omega
     have H:=AA hp;clear hp hd hd';rcases hq with hq|hq
     ·go_wp2
      go_ret2
      exact⟨NT (NI (A8 H)).symm (A8 H).symm,rfl⟩
     ·go_wp2
      go_ret2
      exact⟨NT (NI (A8 H)).symm (A8 H).symm,rfl⟩
   ·have hp:=A8 Hok (VN s k (by omega) isD hall);have H:=AA hp;have hkk:s.data.toList.take k=s.data.toList:=List.take_of_length_le (by omega);rw[hkk];clear hp hall uK hkk
    go_wp2
    go_ret2
    exact⟨NT (TA (A8 H)).symm (A8 H).symm,rfl⟩
 ·clear h4;go_enter func74,ntmps74
  go_wp2
  go_loop [4,26] (fun n i=>∃k:Nat,k≤s.size∧i=.int .i64 k∧n=.int .i64 (num (s.data.toList.take k):Int)∧(s.data.toList.take k).all isD=true) (fun _ i=>s.size-(intOf i).toNat)
  case atStart=>exact⟨0,Nat.zero_le _,rfl,rfl,by simp⟩
  case round=>
   obtain⟨k,hk,rfl,rfl,hall⟩:=hrel;have uK:=AA hall;by_cases hlt:k<s.size
   ·have hsm:=qW s k (by omega) hall;have Hnt:=AA (A26 s k hlt);clear hall;obtain⟨n,hn⟩:∃n,num (s.data.toList.take k)=n:=⟨_,rfl⟩;rw[hn]at hsm Hnt⊢;clear hn;by_cases hd:isD s[k]=true
    ·have hd1:=(SY.1 hd).1;have hd2:=(SY.1 hd).2;have Hd:=AA hd;clear hd
     go_wp2
     go_round
     case rel=>exact⟨k+1,by omega,by go_num,by rw[A8 Hnt];go_num,QL s k hlt isD (A8 uK) (A8 Hd)⟩
     case measure=>simp[intOf];omega
    ·have hd':isD s[k]=false:=by simpa using hd
     have hp:=A8 Hno (YI s k hlt isD hd');have hq:s[k].toNat<48∨57<s[k].toNat:=by
      by_cases hc:48≤s[k].toNat∧s[k].toNat≤57
      ·exact absurd (SY.2 hc) hd
      ·omega
     have H:=AA hp;clear hp hd hd';rcases hq with hq|hq
     ·go_wp2
      go_ret2
      exact⟨NT (NI (A8 H)).symm (A8 H).symm,rfl⟩
     ·go_wp2
      go_ret2
      exact⟨NT (NI (A8 H)).symm (A8 H).symm,rfl⟩
   ·have hp:=A8 Hok (VN s k (by omega) isD hall);have H:=AA hp;have hkk:s.data.toList.take k=s.data.toList:=List.take_of_length_le (by omega);rw[hkk];clear hp hall uK hkk
    go_wp2
    go_ret2
    exact⟨NT (TA (A8 H)).symm (A8 H).symm,rfl⟩
theorem AT6{a b:List UInt8}(h:∀c∈a,c≠46):Lib.indexByte (a++46::b) 46=(a.length:Int):=by
 induction a with
 |nil=>rfl
 |cons x a ih=>
  have hx:(x==46)=false:=by simpa using h x (by simp)
  have ih':=ih (fun c hc=>h c (by simp[hc]));show Lib.indexByte (x::(a++46::b)) 46=_;rw[Lib.indexByte,if_neg (by simp[hx]),ih',if_neg (by simp)];simp
theorem AD9(h:∀c∈l,c≠46):Lib.indexByte l 46=-1:=by
 induction l with
 |nil=>rfl
 |cons x a ih=>
  have hx:(x==46)=false:=by simpa using h x (by simp)
  have ih':=ih (fun c hc=>h c (by simp[hc]));rw[Lib.indexByte,if_neg (by simp[hx]),ih'];rfl
theorem BN0(h:a.data.toList=l):a=⟨l.toArray⟩:=by rw[←h]
theorem AT7(a b:List UInt8):(ByteArray.mk (a++46::b).toArray).extract 0 a.length=⟨a.toArray⟩:=by
 apply BN0
 rw[←Lib.toList_data,Lib.extract_toList];show ((a++46::b).drop 0).take (a.length-0)=a;simp
theorem BC5(a b:List UInt8)(n:Nat)(hn:n=(a++46::b).length):(ByteArray.mk (a++46::b).toArray).extract (a.length+1) n=⟨b.toArray⟩:=by
 subst hn
 apply BN0
 rw[←Lib.toList_data,Lib.extract_toList];show ((a++46::b).drop (a.length+1)).take ((a++46::b).length-(a.length+1))=b;rw[show (a++46::b).drop (a.length+1)=b from by simp];exact List.take_of_length_le (by simp;omega)
theorem AT8{b c d:ByteArray}{x:Bool}(h:a=b)(h':c=d):Ending.returned (.tuple #[.string a,.string c,.bool x])=.returned (.tuple #[.string b,.string d,.bool x]):=by rw[h,h']
theorem wV(l:List UInt8)(w:World)(hl:l.length≤140737488355328):
  Calls prog 116 #[.string ⟨l.toArray⟩,.string ⟨#[46]⟩] w fun e w'=>∃b,e=.returned (.tuple #[.string ⟨(RP l).toArray⟩,.string ⟨(RQ l).toArray⟩,.bool b])∧Below w.heap.size w w':=by
 have hz:(ByteArray.mk l.toArray).size=l.length:=Lib.size_eq ⟨l.toArray⟩;rcases AO3 l with hd|⟨a,b,rfl,hd⟩
 ·have H:=AA (B77 hd);have HI:=AA (AD9 hd);clear hd;go_enter func116,ntmps116;go_wp2_with fail;refine(stringslite_Index_one ⟨l.toArray⟩ 46 _).mono ?_;rintro e w1 ⟨rfl,rfl⟩;rw[show Lib.indexByte (ByteArray.mk l.toArray).data.toList 46=-1 from A8 HI];go_wp2_with fail
  go_ret3
  exact⟨_,AT8 (by rw[(A8 H).1]) (by rw[(A8 H).2]),Below.refl _ _⟩
 ·have H:=AA (AO2 (b:=b) hd);have HI:=AA (AT6 (b:=b) hd);have hlen:(a++46::b).length=a.length+1+b.length:=by simp;omega
  rw[hlen]at hz hl;have HL:=AA hlen;have H1:=AA (AT7 a b);have H2:=AA (BC5 a b _ rfl);clear hd hlen;obtain⟨S,hS⟩:∃S,(ByteArray.mk (a++46::b).toArray)=S:=⟨_,rfl⟩;rw[hS]at hz H1 H2⊢;have HI':Hid (Lib.indexByte S.data.toList 46=(a.length:Int)):=AA (by rw[←hS];exact A8 HI);have HE:Hid (S.extract (a.length+1) (a.length+1+b.length)=⟨b.toArray⟩):=AA (by rw[←A8 HL];exact A8 H2);clear hS HI H2;have c1:(0:Int)≤(a.length:Int):=by omega
  have c2:(a.length:Int)≤(S.size:Int):=by omega
  have c3:(0:Int)≤(a.length:Int)+1:=by omega
  have c4:(a.length:Int)+1≤(S.size:Int):=by omega
  go_enter func116,ntmps116;go_wp2_with fail;refine(stringslite_Index_one S 46 _).mono ?_;rintro e w1 ⟨rfl,rfl⟩;rw[A8 HI'];go_wp2_with fail;go_region
  go_wp2
  go_ret3
  exact⟨_,AT8 (by rw[(A8 H).1];exact A8 H1) (by rw[(A8 H).2];exact A8 HE),(Below.refl _ _).drew⟩
theorem wW(l:List UInt8)(w:World)(hl:l.length≤140737488355328):
  Calls prog 73 #[.string ⟨l.toArray⟩,.string ⟨#[46]⟩] w fun e w'=>∃b,e=.returned (.tuple #[.string ⟨(RP l).toArray⟩,.string ⟨(RQ l).toArray⟩,.bool b])∧Below w.heap.size w w':=by
 go_enter func73,ntmps73;go_wp2_with fail;refine(wV l _ hl).mono ?_;rintro e w1 ⟨b,rfl,hb1⟩;go_wp2_with fail
 go_ret3
 exact⟨_,rfl,hb1⟩
theorem BU6(l:List UInt8):(RP l).length≤l.length∧(RQ l).length≤l.length:=by
 constructor
 ·exact(List.takeWhile_prefix _).length_le
 ·rw[RQ,List.length_drop];have:=(List.dropWhile_suffix (l:=l) (fun c=>c !=46)).length_le;omega
theorem AT9(l:List UInt8)(w:World)(hl:l.length≤140737488355328):
  Calls prog 43 #[.string ⟨l.toArray⟩] w fun e w'=>e=.returned (.tuple #[.int .i64 (ZX l),.int .i64 (dD l)])∧Below w.heap.size w w':=by
 have hc:=BU6 l;have c1:=hc.1;have c2:=hc.2;clear hc
 cases h1:KN (RP l)
 ·have H:=AA (l7 (.inl h1));have HA:Hid (cO (RP l)=0∧KN (RP l)=false):=AA ⟨NI h1,h1⟩;clear h1;go_enter func43,ntmps43;go_wp2_with fail;refine(wW l _ hl).mono ?_;rintro e w1 ⟨b,rfl,hb1⟩;go_wp2_with fail;refine(UQ ⟨(RP l).toArray⟩ _ (by rw[Lib.size_eq];show (RP l).length≤_;omega)).mono ?_;rintro e w2 ⟨rfl,rfl⟩;rw[show (ByteArray.mk (RP l).toArray).data.toList=RP l from rfl,(A8 HA).1,(A8 HA).2];go_wp2_with fail;refine(UQ ⟨(RQ l).toArray⟩ _ (by rw[Lib.size_eq];show (RQ l).length≤_;omega)).mono ?_;rintro e w2 ⟨rfl,rfl⟩;rw[show (ByteArray.mk (RQ l).toArray).data.toList=RQ l from rfl];obtain⟨B,hB⟩:∃B,KN (RQ l)=B:=⟨_,rfl⟩;obtain⟨M,hM⟩:∃M,cO (RQ l)=M:=⟨_,rfl⟩;rw[hB,hM];clear hB hM HA;go_wp2_with fail
  go_ret2
  exact⟨KQ (A8 H).1.symm (A8 H).2.symm,hb1⟩
 cases h2:KN (RQ l)
 ·have H:=AA (l7 (.inr h2));have HA:Hid (cO (RP l)=num (RP l)∧KN (RP l)=true):=AA ⟨TA h1,h1⟩;have HZ:Hid (cO (RQ l)=0∧KN (RQ l)=false):=AA ⟨NI h2,h2⟩;clear h1 h2;go_enter func43,ntmps43;go_wp2_with fail;refine(wW l _ hl).mono ?_;rintro e w1 ⟨b,rfl,hb1⟩;go_wp2_with fail;refine(UQ ⟨(RP l).toArray⟩ _ (by rw[Lib.size_eq];show (RP l).length≤_;omega)).mono ?_;rintro e w2 ⟨rfl,rfl⟩;rw[show (ByteArray.mk (RP l).toArray).data.toList=RP l from rfl,(A8 HA).1,(A8 HA).2];go_wp2_with fail;refine(UQ ⟨(RQ l).toArray⟩ _ (by rw[Lib.size_eq];show (RQ l).length≤_;omega)).mono ?_;rintro e w2 ⟨rfl,rfl⟩;rw[show (ByteArray.mk (RQ l).toArray).data.toList=RQ l from rfl,(A8 HZ).1,(A8 HZ).2];go_wp2_with fail
  go_ret2
  exact⟨KQ (A8 H).1.symm (A8 H).2.symm,hb1⟩
 have H:=AA (pK h1 h2);have HA:Hid (cO (RP l)=num (RP l)∧KN (RP l)=true):=AA ⟨TA h1,h1⟩;have HZ:Hid (cO (RQ l)=num (RQ l)∧KN (RQ l)=true):=AA ⟨TA h2,h2⟩;clear h1 h2;go_enter func43,ntmps43;go_wp2_with fail;refine(wW l _ hl).mono ?_;rintro e w1 ⟨b,rfl,hb1⟩;go_wp2_with fail;refine(UQ ⟨(RP l).toArray⟩ _ (by rw[Lib.size_eq];show (RP l).length≤_;omega)).mono ?_;rintro e w2 ⟨rfl,rfl⟩;rw[show (ByteArray.mk (RP l).toArray).data.toList=RP l from rfl,(A8 HA).1,(A8 HA).2];go_wp2_with fail;refine(UQ ⟨(RQ l).toArray⟩ _ (by rw[Lib.size_eq];show (RQ l).length≤_;omega)).mono ?_;rintro e w2 ⟨rfl,rfl⟩;rw[show (ByteArray.mk (RQ l).toArray).data.toList=RQ l from rfl,(A8 HZ).1,(A8 HZ).2];go_wp2_with fail;refine(QB _ _ _).mono ?_;rintro e w3 ⟨rfl,rfl⟩;obtain⟨X,hX⟩:∃X,G5 (num (RP l)) (num (RQ l))=X:=⟨_,rfl⟩;obtain⟨E,hE⟩:∃E,JD (num (RP l)) (num (RQ l))=E:=⟨_,rfl⟩;rw[hX,hE];rw[hX,hE]at H;clear hX hE HA HZ;go_wp2_with fail
 go_ret2
 exact⟨KQ (A8 H).1.symm (A8 H).2.symm,hb1⟩
theorem eU(w:World)(k:Nat)(os:Array Obj):B0 w (Sort.grow (w.drewN k) os):=
 ⟨rfl,rfl,rfl,by simp[Sort.grow,World.drewN],fun i hi=>by simp[Sort.grow,World.drewN,Array.getElem?_append_left hi]⟩
theorem qZ{b:ByteArray}{i j:Int}(h:a=b)(h':i=j):Ending.returned (.tuple #[.string a,I0 i])=.returned (.tuple #[.string b,I0 j]):=by rw[h,h']
theorem xE{w1 w2:World}(h:B0 w w1)(h':B0 w1 w2):B0 w w2:=h.trans (h'.mono h.size)
theorem BD2(d m:List UInt8):(ByteArray.mk d.toArray)++(ByteArray.mk #[46])++(ByteArray.mk m.toArray)=⟨(d++46::m).toArray⟩:=by
 apply ByteArray.ext
 simp[ByteArray.data_append]
theorem AE8:prog.globalNamed "internal/strconv.uint64pow10" =some 1:=by kernel_rfl
theorem xG(htab:Lib.TabIs prog w "internal/strconv.uint64pow10" .u64 Lib.pow10Tab):1<w.heap.size:=by
 have hc:=htab.cell AE8 0 (by decide);unfold World.cell? at hc
 cases ho:w.heap[1]? with
 |none=>simp[ho]at hc
 |some o=>exact(Array.getElem?_eq_some_iff.1 ho).1
theorem rC{w':World}(htab:Lib.TabIs prog w "internal/strconv.uint64pow10" .u64 Lib.pow10Tab)(hb:B0 w w'):Lib.TabIs prog w' "internal/strconv.uint64pow10" .u64 Lib.pow10Tab:=
 var?_below hb AE8 (xG htab) htab
theorem eX(z:Int)(w:World)(htab:Lib.TabIs prog w "internal/strconv.uint64pow10" .u64 Lib.pow10Tab):
  Calls prog 141 #[I0 z] w (R0 w (.tuple #[S0 (ML z),I0 (ZH z)])):=by
 cases hg:FU z
 ·have H:=AA (A01 hg);have Hg:=AA hg;clear hg htab;go_enter func141,ntmps141;go_wp2_with fail;refine(EO z _).mono ?_;rintro e w1 ⟨rfl,rfl⟩;rw[A8 Hg];go_wp2_with fail
  go_ret2
  exact⟨qZ (by rw[(A8 H).1]) (A8 H).2.symm,Below.refl _ _⟩
 have hz:=H8.1 hg;have H:=AA (dF hg);have Hg:=AA hg;have q0:(z/2147483648)=((z/2147483648).toNat:Int):=by omega
 have r0:(z%2147483648)=((z%2147483648).toNat:Int):=by omega
 obtain⟨q,hq⟩:∃q,(z/2147483648).toNat=q:=⟨_,rfl⟩;obtain⟨r,hr⟩:∃r,(z%2147483648).toNat=r:=⟨_,rfl⟩;have q1:q<2147483648:=by omega
 have r1:r<2147483648:=by omega
 rw[hq]at q0;rw[hr]at r0;rw[hq,hr]at H;have Ez:Hid (DK z=(q:Int)):=AA (by rw[I5 hg];exact q0);have Cz:Hid (iK z=(r:Int)):=AA (by rw[UD hg];exact r0);have Htab:=AA htab;have Hiq:=AA (Lib.itoa_nonneg q);have Hir:=AA (Lib.itoa_nonneg r);have lq:=dB 9 q (by omega);have lr:=dB 9 r (by omega);clear hg hz q0 r0 hq hr htab;go_enter func141,ntmps141;go_wp2_with fail;refine(EO z _).mono ?_;rintro e w1 ⟨rfl,rfl⟩;rw[A8 Hg];go_wp2_with fail;refine(LU z _).mono ?_;rintro e w2 ⟨rfl,rfl⟩;rw[A8 Ez];go_wp2_with fail;refine(strconv_Itoa _ (by omega) (by omega) _ (A8 Htab)).mono ?_;rintro e w3 ⟨rfl,k,os,hw3⟩;have hb3:B0 w2 w3:=by rw[hw3];exact eU w2 k os
 clear hw3;rw[A8 Hiq];obtain⟨D,hD⟩:∃D,Lib.decDigits q=D:=⟨_,rfl⟩;rw[hD]at lq H⊢;clear hD;go_wp2_with fail;refine(YV z _).mono ?_;rintro e w4 ⟨rfl,rfl⟩;rw[A8 Cz];go_wp2_with fail;refine(strconv_Itoa _ (by omega) (by omega) _ (rC (A8 Htab) hb3)).mono ?_;rintro e w5 ⟨rfl,k,os,hw5⟩;have hb5:B0 w2 w5:=xE hb3 (by rw[hw5];exact eU w4 k os);clear hw5;rw[A8 Hir];obtain⟨R,hR⟩:∃R,Lib.decDigits r=R:=⟨_,rfl⟩;rw[hR]at lr H⊢;clear hR Hiq Hir Ez Cz Hg hb3;have zD:(ByteArray.mk D.toArray).size=D.length:=Lib.size_eq ⟨D.toArray⟩;have zR:(ByteArray.mk R.toArray).size=R.length:=Lib.size_eq ⟨R.toArray⟩;go_wp2_with fail
 go_ret2
 exact⟨qZ (by rw[(A8 H).1];exact BD2 D R) (A8 H).2.symm,hb5⟩
theorem rU(z:Int)(w:World):
  Calls prog 117 #[I0 z] w fun e w'=>e=.returned (.tuple #[I0 (bF z),I0 (SA z)])∧w'=w:=by
 cases hg:FU z
 ·have H:=AA (AJ0 hg);have Hg:=AA hg;clear hg;go_enter func117,ntmps117;go_wp2_with fail;refine(EO z _).mono ?_;rintro e w1 ⟨rfl,rfl⟩;rw[A8 Hg];go_wp2_with fail
  go_ret2
  exact⟨KQ (A8 H).1.symm (A8 H).2.symm,rfl⟩
 have hz:=H8.1 hg;have h0:=hz.1;have h1:=hz.2;clear hz
 cases hi:zIn (z%2147483648+1)
 ·have H:=AA (A72 hg hi);have Hg:=AA hg;have hf:(z%2147483648==2147483647)=true:=by
   rw[beq_iff_eq];have:=Int.emod_nonneg z (show (2147483648:Int)≠0 by decide);have:=Int.emod_lt_of_pos z (show (0:Int)<2147483648 by decide);by_cases h:z%2147483648=2147483647
   ·exact h
   ·rw[LH.2 (by omega)]at hi;exact absurd hi (by decide)
  clear hg hi;go_enter func117,ntmps117;go_wp2_with fail;refine(EO z _).mono ?_;rintro e w1 ⟨rfl,rfl⟩;rw[A8 Hg];go_wp2_with fail;refine(YV z _).mono ?_;rintro e w2 ⟨rfl,rfl⟩;rw[UD (A8 Hg)];go_wp2_with fail
  go_ret2
  exact⟨KQ (A8 H).1.symm (A8 H).2.symm,rfl⟩
 ·have H:=AA (kL hg hi);have Hg:=AA hg;have hf:(z%2147483648==2147483647)=false:=by
   rw[beq_eq_false_iff_ne];have:=(LH.1 hi).2;omega
  clear hg hi;go_enter func117,ntmps117;go_wp2_with fail;refine(EO z _).mono ?_;rintro e w1 ⟨rfl,rfl⟩;rw[A8 Hg];go_wp2_with fail;refine(YV z _).mono ?_;rintro e w2 ⟨rfl,rfl⟩;rw[UD (A8 Hg)];go_wp2_with fail
  go_ret2
  exact⟨KQ (A8 H).1.symm (A8 H).2.symm,rfl⟩
end Go.Proofs.YtmbmehcoidjiaaaGreatDoor
