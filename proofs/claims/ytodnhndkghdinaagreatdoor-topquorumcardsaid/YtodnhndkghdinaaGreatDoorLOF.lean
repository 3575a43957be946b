/-
  Part.
-/
import Derived.Test.YtodnhndkghdinaaGreatDoorLOA
import Derived.Test.YtodnhndkghdinaaGreatDoorRows
import Derived.WalkSpells
import Derived.WalkLawsBesides
import Derived.Test.YtodnhndkghdinaaGreatDoorShelf
set_option maxRecDepth 20000
set_option maxHeartbeats 8000000
namespace Go.Proofs.YtodnhndkghdinaaGreatDoor
open Go.RowKit Go.Proofs.Tryz
variable{l:List UInt8}{u:Nat}{a:ByteArray}{z:Int}{w:World}
def isD(c:UInt8):Bool:=decide (48≤c.toNat)&&decide (c.toNat≤57)
theorem SX{c:UInt8}:isD c=true↔48≤c.toNat∧c.toNat≤57:=by simp[isD]
def num(l:List UInt8):Nat:=l.foldl (fun n c=>10*n+(c.toNat-48)) 0
theorem kX(l:List UInt8)(c:UInt8):num (l++[c])=10*num l+(c.toNat-48):=by simp[num]
theorem A92(l:List UInt8):l=[]∨∃a c,l=a++[c]:=by
 cases h:l.reverse with
 |nil=>exact .inl (by simpa using h)
 |cons c r=>exact .inr ⟨r.reverse,c,by have:=congrArg List.reverse h;simpa using this⟩
theorem C52(l:List UInt8)(h:l.all isD=true):num l<10^l.length:=by
 obtain⟨n,hn⟩:∃n,l.length=n:=⟨_,rfl⟩
 induction n generalizing l with
 |zero=>rw[List.length_eq_zero_iff.1 hn];decide
 |succ n ih=>
  rcases A92 l with rfl|⟨a,c,rfl⟩
  ·simp at hn
  ·simp only[List.all_append,Bool.and_eq_true,List.all_cons,List.all_nil,Bool.and_true]at h;have h1:=ih a h.1 (by simpa using hn);have h2:=SX.1 h.2;rw[kX,List.length_append,List.length_singleton,Nat.pow_succ];omega
def KJ(l:List UInt8):Bool:=decide (1≤l.length)&&decide (l.length≤10)&& !(decide (1<l.length)&&l.head?==some 48)&&l.all isD
def bZ(l:List UInt8):Int:=if KJ l then(num l:Int)else 0
theorem SY(h:KJ l=true):bZ l=num l:=by rw[bZ,if_pos h]
theorem NC(h:KJ l=false):bZ l=0:=by rw[bZ,h];rfl
theorem cO:KJ l=true↔1≤l.length∧l.length≤10∧(1<l.length→l.head? ≠some 48)∧l.all isD=true:=by
 simp only[KJ,Bool.and_eq_true,decide_eq_true_eq,Bool.not_eq_true',Bool.and_eq_false_imp,beq_eq_false_iff_ne,ne_eq];constructor
 ·rintro⟨⟨⟨a,b⟩,c⟩,d⟩;exact⟨a,b,c,d⟩
 ·rintro⟨a,b,c,d⟩;exact⟨⟨⟨a,b⟩,c⟩,d⟩
theorem aH(h:¬ (1≤l.length∧l.length≤10∧(1<l.length→l.head? ≠some 48)∧l.all isD=true)):KJ l=false:=by
 cases hp:KJ l with
 |false=>rfl
 |true=>exact absurd (cO.1 hp) h
theorem CF1(h:u<10):Lib.decDigits u=[UInt8.ofNat (48+u)]:=by rw[Lib.decDigits,dif_pos h]
theorem decb(h:¬u<10):Lib.decDigits u=Lib.decDigits (u/10)++[UInt8.ofNat (48+u%10)]:=by rw[Lib.decDigits,dif_neg h]
theorem XB{d:Nat}(h:d<10):(UInt8.ofNat (48+d)).toNat=48+d:=by rw[UInt8.toNat_ofNat'];omega
theorem AN4{d:Nat}(h:d<10):isD (UInt8.ofNat (48+d))=true:=SX.2 (by rw[XB h];omega)
theorem cZ(u:Nat):(Lib.decDigits u).all isD=true∧num (Lib.decDigits u)=u∧1≤(Lib.decDigits u).length∧(u≠0→(Lib.decDigits u).head? ≠some 48):=by
 induction u using Nat.strongRecOn with
 |_ u ih=>
  by_cases h:u<10
  ·rw[CF1 h];refine⟨by rw[List.all_cons,List.all_nil,AN4 h];rfl,?_,by simp,?_⟩
   ·show 10*0+((UInt8.ofNat (48+u)).toNat-48)=u;rw[XB h];omega
   ·intro h0 e;have h1:=congrArg UInt8.toNat (Option.some.inj e);rw[XB h]at h1;have h2:(48:UInt8).toNat=48:=rfl;omega
  ·rw[decb h];obtain⟨i1,i2,i3,i4⟩:=ih (u/10) (by omega);refine⟨by rw[List.all_append,i1,List.all_cons,AN4 (Nat.mod_lt u (by decide:0<10)),List.all_nil];rfl,?_,by simp,?_⟩
   ·rw[kX,i2,XB (Nat.mod_lt u (by decide))];omega
   ·intro _;have i5:=i4 (by omega)
    cases hd:Lib.decDigits (u/10)with
    |nil=>rw[hd]at i3;simp at i3
    |cons c r=>rw[hd]at i5;simpa using i5
theorem dA(k:Nat):∀u,u<10^(k+1)→(Lib.decDigits u).length≤k+1:=by
 induction k with
 |zero=>intro u hu;rw[CF1 (by simpa using hu)];simp
 |succ k ih=>
  intro u hu;by_cases h:u<10
  ·rw[CF1 h];simp
  ·rw[decb h];have:=ih (u/10) (by rw[Nat.pow_succ]at hu;omega);simp;omega
theorem BR0(h:1<(Lib.decDigits u).length):u≠0:=by
 rintro rfl;rw[CF1 (by decide)]at h;simp at h
theorem zV(h:u<10000000000):KJ (Lib.decDigits u)=true:=by
 obtain⟨i1,i2,i3,i4⟩:=cZ u;exact cO.2 ⟨i3,dA 9 u h,fun hl=>i4 (BR0 hl),i1⟩
def RI(l:List UInt8):List UInt8:=l.takeWhile (fun c=>c !=46)
def RJ(l:List UInt8):List UInt8:=(l.dropWhile (fun c=>c !=46)).drop 1
theorem AN5{a b:List UInt8}(h:∀c∈a,c≠46):RI (a++46::b)=a∧RJ (a++46::b)=b:=by
 have hp:∀c∈a,(c !=46)=true:=fun c hc=>by simpa using h c hc
 constructor
 ·rw[RI,List.takeWhile_append_of_pos hp];simp
 ·rw[RJ,List.dropWhile_append_of_pos hp];simp
theorem B74(h:∀c∈l,c≠46):RI l=l∧RJ l=[]:=by
 have hp:∀c∈l,(c !=46)=true:=fun c hc=>by simpa using h c hc
 constructor
 ·have:=List.takeWhile_append_of_pos (l₂:=[]) hp;rw[RI];simpa using this
 ·have:=List.dropWhile_append_of_pos (l₂:=[]) hp;rw[RJ];simp at this;rw[this];rfl
theorem AN6(l:List UInt8):(∀c∈l,c≠46)∨∃a b,l=a++46::b∧∀c∈a,c≠46:=by
 induction l with
 |nil=>exact .inl (by simp)
 |cons x l ih=>
  by_cases hx:x=46
  ·subst hx;exact .inr ⟨[],l,rfl,by simp⟩
  ·rcases ih with h|⟨a,b,rfl,h⟩
   ·exact .inl (by simpa [hx]using h)
   ·exact .inr ⟨x::a,b,rfl,by simpa [hx]using h⟩
theorem BR1(h:l.all isD=true):∀c∈l,c≠46:=by
 intro c hc e;subst e;exact absurd (List.all_eq_true.1 h 46 hc) (by decide)
def ZV(l:List UInt8):Int:=if KJ (RI l)&&KJ (RJ l)then G6 (num (RI l)) (num (RJ l))else 0
def dB(l:List UInt8):Int:=if KJ (RI l)&&KJ (RJ l)then JD (num (RI l)) (num (RJ l))else 2
theorem kY(h:KJ (RI l)=false∨KJ (RJ l)=false):ZV l=0∧dB l=2:=by
 rcases h with h|h<;>simp[ZV,dB,h]
theorem pI(h:KJ (RI l)=true)(h':KJ (RJ l)=true):ZV l=G6 (num (RI l)) (num (RJ l))∧dB l=JD (num (RI l)) (num (RJ l)):=by
 simp[ZV,dB,h,h']
def MJ(z:Int):List UInt8:=if FT z then Lib.decDigits (z/2147483648).toNat++46::Lib.decDigits (z%2147483648).toNat else []
def ZE(z:Int):Int:=if FT z then 0 else 3
theorem zX(h:FT z=false):MJ z=[]∧ZE z=3:=by simp[MJ,ZE,h]
theorem dD(h:FT z=true):MJ z=Lib.decDigits (z/2147483648).toNat++46::Lib.decDigits (z%2147483648).toNat∧ZE z=0:=by simp[MJ,ZE,h]
theorem AN7(h:FT z=true):ZV (MJ z)=z∧dB (MJ z)=0:=by
 have hz:=H8.1 h;obtain⟨i1,i2,_,_⟩:=cZ (z/2147483648).toNat;obtain⟨_,j2,_,_⟩:=cZ (z%2147483648).toNat;obtain⟨c1,c2⟩:=AN5 (b:=Lib.decDigits (z%2147483648).toNat) (BR1 i1);rw[(dD h).1];obtain⟨r1,r2⟩:=pI (l:=Lib.decDigits (z/2147483648).toNat++46::Lib.decDigits (z%2147483648).toNat) (by rw[c1];exact zV (by omega)) (by rw[c2];exact zV (by omega));rw[r1,r2,c1,c2,i2,j2];obtain⟨m1,m2⟩:=PI (e:=((z/2147483648).toNat:Int)) (c:=((z%2147483648).toNat:Int)) (LD.2 (by omega)) (LD.2 (by omega));rw[m1,m2,Int.toNat_of_nonneg (by omega),Int.toNat_of_nonneg (by omega)];exact⟨by omega,rfl⟩
theorem OD{a b:Bool}(h:a=b):Ending.returned (.bool a)=.returned (.bool b):=by rw[h]
theorem EO(z:Int)(w:World):
  Calls prog 59 #[I0 z] w fun e w'=>e=.returned (.bool (FT z))∧w'=w:=by
 go_enter func59,ntmps59
 go_wp2
 go_ret;exact⟨OD (by rw[Bool.eq_iff_iff,H8,beq_iff_eq];omega),rfl⟩
theorem QA(e c:Int)(w:World):
  Calls prog 58 #[I0 e,I0 c] w fun x w'=>x=.returned (.tuple #[I0 (G6 e c),I0 (JD e c)])∧w'=w:=by
 by_cases h1:e<0
 ·have H:=AA (ZY (e:=e) (c:=c) (.inl (yQ (by omega))));go_enter func58,ntmps58
  go_wp2
  go_ret2
  exact⟨KN (A8 H).1.symm (A8 H).2.symm,rfl⟩
 by_cases h2:2147483647<e
 ·have H:=AA (ZY (e:=e) (c:=c) (.inl (yQ (by omega))));go_enter func58,ntmps58
  go_wp2
  go_ret2
  exact⟨KN (A8 H).1.symm (A8 H).2.symm,rfl⟩
 by_cases h3:c<0
 ·have H:=AA (ZY (e:=e) (c:=c) (.inr (yQ (by omega))));go_enter func58,ntmps58
  go_wp2
  go_ret2
  exact⟨KN (A8 H).1.symm (A8 H).2.symm,rfl⟩
 by_cases h4:2147483647<c
 ·have H:=AA (ZY (e:=e) (c:=c) (.inr (yQ (by omega))));go_enter func58,ntmps58
  go_wp2
  go_ret2
  exact⟨KN (A8 H).1.symm (A8 H).2.symm,rfl⟩
 have H:=AA (PI (e:=e) (c:=c) (LD.2 (by omega)) (LD.2 (by omega)));go_enter func58,ntmps58
 go_wp2
 go_ret2
 exact⟨KN ((BO6 (by omega) (by omega) (by omega) (by omega)).trans (A8 H).1.symm) (A8 H).2.symm,rfl⟩
theorem LP(z:Int)(w:World):
  Calls prog 36 #[I0 z] w fun e w'=>e=.returned (I0 (DK z))∧w'=w:=by
 cases hg:FT z
 ·have H:=AA (o8 hg);have Hg:=AA hg;clear hg;go_enter func36,ntmps36;go_wp2_with fail;refine(EO z _).mono ?_;rintro e w1 ⟨rfl,rfl⟩;rw[A8 Hg];go_wp2_with fail;go_ret;exact⟨kK (A8 H).symm,rfl⟩
 ·have H:=AA (I5 hg);have Hg:=AA hg;clear hg;go_enter func36,ntmps36;go_wp2_with fail;refine(EO z _).mono ?_;rintro e w1 ⟨rfl,rfl⟩;rw[A8 Hg];go_wp2_with fail;go_ret;exact⟨kK (A8 H).symm,rfl⟩
theorem YR(z:Int)(w:World):
  Calls prog 172 #[I0 z] w fun e w'=>e=.returned (I0 (iH z))∧w'=w:=by
 cases hg:FT z
 ·have H:=AA (AI2 hg);have Hg:=AA hg;clear hg;go_enter func172,ntmps172;go_wp2_with fail;refine(EO z _).mono ?_;rintro e w1 ⟨rfl,rfl⟩;rw[A8 Hg];go_wp2_with fail;go_ret;exact⟨kK (A8 H).symm,rfl⟩
 ·have H:=AA (UA hg);have Hg:=AA hg;clear hg;go_enter func172,ntmps172;go_wp2_with fail;refine(EO z _).mono ?_;rintro e w1 ⟨rfl,rfl⟩;rw[A8 Hg];go_wp2_with fail;go_ret;have h:=H8.1 (A8 Hg);exact⟨kK ((B34 h.1 h.2).trans (A8 H).symm),rfl⟩
theorem AD4(s:ByteArray):s.data.toList.length=s.size:=by simp
theorem NI{i j:Int}{a b:Bool}(h:i=j)(h':a=b):Ending.returned (.tuple #[.int .i64 i,.bool a])=.returned (.tuple #[.int .i64 j,.bool b]):=by rw[h,h']
theorem CH9(s:ByteArray)(h:0<s.size):s.data.toList.head?=some s[0]:=by
 rw[List.head?_eq_getElem?,List.getElem?_eq_getElem (by simpa using h)];rfl
theorem A22(s:ByteArray)(k:Nat)(h:k<s.size):num (s.data.toList.take (k+1))=10*num (s.data.toList.take k)+(s[k].toNat-48):=by
 rw[aY s k h,kX]
theorem qU(s:ByteArray)(k:Nat)(h:k<10)(ha:(s.data.toList.take k).all isD=true):num (s.data.toList.take k)<1000000000:=by
 have h1:=C52 _ ha;have h2:(s.data.toList.take k).length≤9:=by rw[List.length_take];omega
 have h3:10^(s.data.toList.take k).length≤10^9:=Nat.pow_le_pow_right (by decide) h2;have h4:(10:Nat)^9=1000000000:=by decide
 omega
theorem UO(s:ByteArray)(w:World)(hs:s.size≤140737488355328):
  Calls prog 57 #[.string s] w fun e w'=>e=.returned (.tuple #[.int .i64 (bZ s.data.toList),.bool (KJ s.data.toList)])∧w'=w:=by
 have hz:=AD4 s;by_cases h1:s.size<1
 ·have hp:KJ s.data.toList=false:=aH (by omega);have H:=AA hp;clear hp;go_enter func57,ntmps57
  go_wp2
  go_ret2
  exact⟨NI (NC (A8 H)).symm (A8 H).symm,rfl⟩
 by_cases h2:10<s.size
 ·have hp:KJ s.data.toList=false:=aH (by omega);have H:=AA hp;clear hp;go_enter func57,ntmps57
  go_wp2
  go_ret2
  exact⟨NI (NC (A8 H)).symm (A8 H).symm,rfl⟩
 have hhd:=CH9 s (by omega);have h0:0<s.size:=by omega
 by_cases h3:1<s.size∧s[0]=48
 ·have hp:KJ s.data.toList=false:=aH (by
   rintro⟨_,_,h,_⟩;exact h (by omega) (by rw[hhd,h3.2]))
  have H:=AA hp;have h4:((s[0].toNat:Int)==48)=true:=by rw[h3.2];rfl
  have h5:=h3.1;clear hp h3 hhd;go_enter func57,ntmps57
  go_wp2
  go_ret2
  exact⟨NI (NC (A8 H)).symm (A8 H).symm,rfl⟩
 have Hok:Hid (s.data.toList.all isD=true→KJ s.data.toList=true):=AA (fun h=>cO.2 ⟨by omega,by omega,fun hl e=>h3 ⟨by omega,by rw[hhd]at e;exact Option.some.inj e⟩,h⟩);have Hno:Hid (s.data.toList.all isD=false→KJ s.data.toList=false):=AA (fun h=>aH (fun hh=>by rw[h]at hh;exact absurd hh.2.2.2 (by decide)));have h4:1<s.size→((s[0].toNat:Int)==48)=false:=fun hl=>by
  rw[beq_eq_false_iff_ne];intro e;exact h3 ⟨hl,UInt8.toNat_inj.1 (by show s[0].toNat=48;omega)⟩
 clear h3 hhd;by_cases h5:1<s.size
 ·have h6:=h4 h5;clear h4;go_enter func57,ntmps57
  go_wp2
  clear h6
  go_loop [4,26] (fun n i=>∃k:Nat,k≤s.size∧i=.int .i64 k∧n=.int .i64 (num (s.data.toList.take k):Int)∧(s.data.toList.take k).all isD=true) (fun _ i=>s.size-(intOf i).toNat)
  case atStart=>exact⟨0,Nat.zero_le _,rfl,rfl,by simp⟩
  case round=>
   obtain⟨k,hk,rfl,rfl,hall⟩:=hrel;have uJ:=AA hall;by_cases hlt:k<s.size
   ·have hsm:=qU s k (by omega) hall;have Hnt:=AA (A22 s k hlt);clear hall;obtain⟨n,hn⟩:∃n,num (s.data.toList.take k)=n:=⟨_,rfl⟩;rw[hn]at hsm Hnt⊢;clear hn;by_cases hd:isD s[k]=true
    ·have hd1:=(SX.1 hd).1;have hd2:=(SX.1 hd).2;have Hd:=AA hd;clear hd
     go_wp2
     go_round
     case rel=>exact⟨k+1,by omega,by go_num,by rw[A8 Hnt];go_num,QI s k hlt isD (A8 uJ) (A8 Hd)⟩
     case measure=>simp[intOf];omega
    ·have hd':isD s[k]=false:=by simpa using hd
     have hp:=A8 Hno (YE s k hlt isD hd');have hq:s[k].toNat<48∨57<s[k].toNat:=by
      by_cases hc:48≤s[k].toNat∧s[k].toNat≤57
      ·exact absurd (SX.2 hc) hd
      ·omega
     have H:=AA hp;clear hp hd hd';rcases hq with hq|hq
     ·go_wp2
      go_ret2
      exact⟨NI (NC (A8 H)).symm (A8 H).symm,rfl⟩
     ·go_wp2
      go_ret2
      exact⟨NI (NC (A8 H)).symm (A8 H).symm,rfl⟩
   ·have hp:=A8 Hok (VH s k (by omega) isD hall);have H:=AA hp;have hkk:s.data.toList.take k=s.data.toList:=List.take_of_length_le (by omega);rw[hkk];clear hp hall uJ hkk
    go_wp2
    go_ret2
    exact⟨NI (SY (A8 H)).symm (A8 H).symm,rfl⟩
 ·clear h4;go_enter func57,ntmps57
  go_wp2
  go_loop [4,26] (fun n i=>∃k:Nat,k≤s.size∧i=.int .i64 k∧n=.int .i64 (num (s.data.toList.take k):Int)∧(s.data.toList.take k).all isD=true) (fun _ i=>s.size-(intOf i).toNat)
  case atStart=>exact⟨0,Nat.zero_le _,rfl,rfl,by simp⟩
  case round=>
   obtain⟨k,hk,rfl,rfl,hall⟩:=hrel;have uJ:=AA hall;by_cases hlt:k<s.size
   ·have hsm:=qU s k (by omega) hall;have Hnt:=AA (A22 s k hlt);clear hall;obtain⟨n,hn⟩:∃n,num (s.data.toList.take k)=n:=⟨_,rfl⟩;rw[hn]at hsm Hnt⊢;clear hn;by_cases hd:isD s[k]=true
    ·have hd1:=(SX.1 hd).1;have hd2:=(SX.1 hd).2;have Hd:=AA hd;clear hd
     go_wp2
     go_round
     case rel=>exact⟨k+1,by omega,by go_num,by rw[A8 Hnt];go_num,QI s k hlt isD (A8 uJ) (A8 Hd)⟩
     case measure=>simp[intOf];omega
    ·have hd':isD s[k]=false:=by simpa using hd
     have hp:=A8 Hno (YE s k hlt isD hd');have hq:s[k].toNat<48∨57<s[k].toNat:=by
      by_cases hc:48≤s[k].toNat∧s[k].toNat≤57
      ·exact absurd (SX.2 hc) hd
      ·omega
     have H:=AA hp;clear hp hd hd';rcases hq with hq|hq
     ·go_wp2
      go_ret2
      exact⟨NI (NC (A8 H)).symm (A8 H).symm,rfl⟩
     ·go_wp2
      go_ret2
      exact⟨NI (NC (A8 H)).symm (A8 H).symm,rfl⟩
   ·have hp:=A8 Hok (VH s k (by omega) isD hall);have H:=AA hp;have hkk:s.data.toList.take k=s.data.toList:=List.take_of_length_le (by omega);rw[hkk];clear hp hall uJ hkk
    go_wp2
    go_ret2
    exact⟨NI (SY (A8 H)).symm (A8 H).symm,rfl⟩
theorem AT0{a b:List UInt8}(h:∀c∈a,c≠46):Lib.indexByte (a++46::b) 46=(a.length:Int):=by
 induction a with
 |nil=>rfl
 |cons x a ih=>
  have hx:(x==46)=false:=by simpa using h x (by simp)
  have ih':=ih (fun c hc=>h c (by simp[hc]));show Lib.indexByte (x::(a++46::b)) 46=_;rw[Lib.indexByte,if_neg (by simp[hx]),ih',if_neg (by simp)];simp
theorem AD5(h:∀c∈l,c≠46):Lib.indexByte l 46=-1:=by
 induction l with
 |nil=>rfl
 |cons x a ih=>
  have hx:(x==46)=false:=by simpa using h x (by simp)
  have ih':=ih (fun c hc=>h c (by simp[hc]));rw[Lib.indexByte,if_neg (by simp[hx]),ih'];rfl
theorem BM4(h:a.data.toList=l):a=⟨l.toArray⟩:=by rw[←h]
theorem AT1(a b:List UInt8):(ByteArray.mk (a++46::b).toArray).extract 0 a.length=⟨a.toArray⟩:=by
 apply BM4
 rw[←Lib.toList_data,Lib.extract_toList];show ((a++46::b).drop 0).take (a.length-0)=a;simp
theorem BC2(a b:List UInt8)(n:Nat)(hn:n=(a++46::b).length):(ByteArray.mk (a++46::b).toArray).extract (a.length+1) n=⟨b.toArray⟩:=by
 subst hn
 apply BM4
 rw[←Lib.toList_data,Lib.extract_toList];show ((a++46::b).drop (a.length+1)).take ((a++46::b).length-(a.length+1))=b;rw[show (a++46::b).drop (a.length+1)=b from by simp];exact List.take_of_length_le (by simp;omega)
theorem AT2{b c d:ByteArray}{x:Bool}(h:a=b)(h':c=d):Ending.returned (.tuple #[.string a,.string c,.bool x])=.returned (.tuple #[.string b,.string d,.bool x]):=by rw[h,h']
theorem wU(l:List UInt8)(w:World)(hl:l.length≤140737488355328):
  Calls prog 82 #[.string ⟨l.toArray⟩,.string ⟨#[46]⟩] w fun e w'=>∃b,e=.returned (.tuple #[.string ⟨(RI l).toArray⟩,.string ⟨(RJ l).toArray⟩,.bool b])∧Below w.heap.size w w':=by
 have hz:(ByteArray.mk l.toArray).size=l.length:=Lib.size_eq ⟨l.toArray⟩;rcases AN6 l with hd|⟨a,b,rfl,hd⟩
 ·have H:=AA (B74 hd);have HI:=AA (AD5 hd);clear hd;go_enter func82,ntmps82;go_wp2_with fail;refine(stringslite_Index_one ⟨l.toArray⟩ 46 _).mono ?_;rintro e w1 ⟨rfl,rfl⟩;rw[show Lib.indexByte (ByteArray.mk l.toArray).data.toList 46=-1 from A8 HI];go_wp2_with fail
  go_ret3
  exact⟨_,AT2 (by rw[(A8 H).1]) (by rw[(A8 H).2]),Below.refl _ _⟩
 ·have H:=AA (AN5 (b:=b) hd);have HI:=AA (AT0 (b:=b) hd);have hlen:(a++46::b).length=a.length+1+b.length:=by simp;omega
  rw[hlen]at hz hl;have HL:=AA hlen;have H1:=AA (AT1 a b);have H2:=AA (BC2 a b _ rfl);clear hd hlen;obtain⟨S,hS⟩:∃S,(ByteArray.mk (a++46::b).toArray)=S:=⟨_,rfl⟩;rw[hS]at hz H1 H2⊢;have HI':Hid (Lib.indexByte S.data.toList 46=(a.length:Int)):=AA (by rw[←hS];exact A8 HI);have HE:Hid (S.extract (a.length+1) (a.length+1+b.length)=⟨b.toArray⟩):=AA (by rw[←A8 HL];exact A8 H2);clear hS HI H2;have c1:(0:Int)≤(a.length:Int):=by omega
  have c2:(a.length:Int)≤(S.size:Int):=by omega
  have c3:(0:Int)≤(a.length:Int)+1:=by omega
  have c4:(a.length:Int)+1≤(S.size:Int):=by omega
  go_enter func82,ntmps82;go_wp2_with fail;refine(stringslite_Index_one S 46 _).mono ?_;rintro e w1 ⟨rfl,rfl⟩;rw[A8 HI'];go_wp2_with fail;go_region
  go_wp2
  go_ret3
  exact⟨_,AT2 (by rw[(A8 H).1];exact A8 H1) (by rw[(A8 H).2];exact A8 HE),(Below.refl _ _).drew⟩
theorem wV(l:List UInt8)(w:World)(hl:l.length≤140737488355328):
  Calls prog 56 #[.string ⟨l.toArray⟩,.string ⟨#[46]⟩] w fun e w'=>∃b,e=.returned (.tuple #[.string ⟨(RI l).toArray⟩,.string ⟨(RJ l).toArray⟩,.bool b])∧Below w.heap.size w w':=by
 go_enter func56,ntmps56;go_wp2_with fail;refine(wU l _ hl).mono ?_;rintro e w1 ⟨b,rfl,hb1⟩;go_wp2_with fail
 go_ret3
 exact⟨_,rfl,hb1⟩
theorem BT9(l:List UInt8):(RI l).length≤l.length∧(RJ l).length≤l.length:=by
 constructor
 ·exact(List.takeWhile_prefix _).length_le
 ·rw[RJ,List.length_drop];have:=(List.dropWhile_suffix (l:=l) (fun c=>c !=46)).length_le;omega
theorem AT3(l:List UInt8)(w:World)(hl:l.length≤140737488355328):
  Calls prog 35 #[.string ⟨l.toArray⟩] w fun e w'=>e=.returned (.tuple #[.int .i64 (ZV l),.int .i64 (dB l)])∧Below w.heap.size w w':=by
 have hc:=BT9 l;have c1:=hc.1;have c2:=hc.2;clear hc
 cases h1:KJ (RI l)
 ·have H:=AA (kY (.inl h1));have HA:Hid (bZ (RI l)=0∧KJ (RI l)=false):=AA ⟨NC h1,h1⟩;clear h1;go_enter func35,ntmps35;go_wp2_with fail;refine(wV l _ hl).mono ?_;rintro e w1 ⟨b,rfl,hb1⟩;go_wp2_with fail;refine(UO ⟨(RI l).toArray⟩ _ (by rw[Lib.size_eq];show (RI l).length≤_;omega)).mono ?_;rintro e w2 ⟨rfl,rfl⟩;rw[show (ByteArray.mk (RI l).toArray).data.toList=RI l from rfl,(A8 HA).1,(A8 HA).2];go_wp2_with fail;refine(UO ⟨(RJ l).toArray⟩ _ (by rw[Lib.size_eq];show (RJ l).length≤_;omega)).mono ?_;rintro e w2 ⟨rfl,rfl⟩;rw[show (ByteArray.mk (RJ l).toArray).data.toList=RJ l from rfl];obtain⟨B,hB⟩:∃B,KJ (RJ l)=B:=⟨_,rfl⟩;obtain⟨M,hM⟩:∃M,bZ (RJ l)=M:=⟨_,rfl⟩;rw[hB,hM];clear hB hM HA;go_wp2_with fail
  go_ret2
  exact⟨KN (A8 H).1.symm (A8 H).2.symm,hb1⟩
 cases h2:KJ (RJ l)
 ·have H:=AA (kY (.inr h2));have HA:Hid (bZ (RI l)=num (RI l)∧KJ (RI l)=true):=AA ⟨SY h1,h1⟩;have HZ:Hid (bZ (RJ l)=0∧KJ (RJ l)=false):=AA ⟨NC h2,h2⟩;clear h1 h2;go_enter func35,ntmps35;go_wp2_with fail;refine(wV l _ hl).mono ?_;rintro e w1 ⟨b,rfl,hb1⟩;go_wp2_with fail;refine(UO ⟨(RI l).toArray⟩ _ (by rw[Lib.size_eq];show (RI l).length≤_;omega)).mono ?_;rintro e w2 ⟨rfl,rfl⟩;rw[show (ByteArray.mk (RI l).toArray).data.toList=RI l from rfl,(A8 HA).1,(A8 HA).2];go_wp2_with fail;refine(UO ⟨(RJ l).toArray⟩ _ (by rw[Lib.size_eq];show (RJ l).length≤_;omega)).mono ?_;rintro e w2 ⟨rfl,rfl⟩;rw[show (ByteArray.mk (RJ l).toArray).data.toList=RJ l from rfl,(A8 HZ).1,(A8 HZ).2];go_wp2_with fail
  go_ret2
  exact⟨KN (A8 H).1.symm (A8 H).2.symm,hb1⟩
 have H:=AA (pI h1 h2);have HA:Hid (bZ (RI l)=num (RI l)∧KJ (RI l)=true):=AA ⟨SY h1,h1⟩;have HZ:Hid (bZ (RJ l)=num (RJ l)∧KJ (RJ l)=true):=AA ⟨SY h2,h2⟩;clear h1 h2;go_enter func35,ntmps35;go_wp2_with fail;refine(wV l _ hl).mono ?_;rintro e w1 ⟨b,rfl,hb1⟩;go_wp2_with fail;refine(UO ⟨(RI l).toArray⟩ _ (by rw[Lib.size_eq];show (RI l).length≤_;omega)).mono ?_;rintro e w2 ⟨rfl,rfl⟩;rw[show (ByteArray.mk (RI l).toArray).data.toList=RI l from rfl,(A8 HA).1,(A8 HA).2];go_wp2_with fail;refine(UO ⟨(RJ l).toArray⟩ _ (by rw[Lib.size_eq];show (RJ l).length≤_;omega)).mono ?_;rintro e w2 ⟨rfl,rfl⟩;rw[show (ByteArray.mk (RJ l).toArray).data.toList=RJ l from rfl,(A8 HZ).1,(A8 HZ).2];go_wp2_with fail;refine(QA _ _ _).mono ?_;rintro e w3 ⟨rfl,rfl⟩;obtain⟨X,hX⟩:∃X,G6 (num (RI l)) (num (RJ l))=X:=⟨_,rfl⟩;obtain⟨E,hE⟩:∃E,JD (num (RI l)) (num (RJ l))=E:=⟨_,rfl⟩;rw[hX,hE];rw[hX,hE]at H;clear hX hE HA HZ;go_wp2_with fail
 go_ret2
 exact⟨KN (A8 H).1.symm (A8 H).2.symm,hb1⟩
theorem eU(w:World)(k:Nat)(os:Array Obj):B0 w (Sort.grow (w.drewN k) os):=
 ⟨rfl,rfl,rfl,by simp[Sort.grow,World.drewN],fun i hi=>by simp[Sort.grow,World.drewN,Array.getElem?_append_left hi]⟩
theorem qX{b:ByteArray}{i j:Int}(h:a=b)(h':i=j):Ending.returned (.tuple #[.string a,I0 i])=.returned (.tuple #[.string b,I0 j]):=by rw[h,h']
theorem xC{w1 w2:World}(h:B0 w w1)(h':B0 w1 w2):B0 w w2:=h.trans (h'.mono h.size)
theorem BC9(d m:List UInt8):(ByteArray.mk d.toArray)++(ByteArray.mk #[46])++(ByteArray.mk m.toArray)=⟨(d++46::m).toArray⟩:=by
 apply ByteArray.ext
 simp[ByteArray.data_append]
theorem AE3:prog.globalNamed "internal/strconv.uint64pow10" =some 1:=by kernel_rfl
theorem AU7(htab:Lib.TabIs prog w "internal/strconv.uint64pow10" .u64 Lib.pow10Tab):1<w.heap.size:=by
 have hc:=htab.cell AE3 0 (by decide);unfold World.cell? at hc
 cases ho:w.heap[1]? with
 |none=>simp[ho]at hc
 |some o=>exact(Array.getElem?_eq_some_iff.1 ho).1
theorem qY{w':World}(htab:Lib.TabIs prog w "internal/strconv.uint64pow10" .u64 Lib.pow10Tab)(hb:B0 w w'):Lib.TabIs prog w' "internal/strconv.uint64pow10" .u64 Lib.pow10Tab:=
 var?_below hb AE3 (AU7 htab) htab
theorem eX(z:Int)(w:World)(htab:Lib.TabIs prog w "internal/strconv.uint64pow10" .u64 Lib.pow10Tab):
  Calls prog 158 #[I0 z] w (R0 w (.tuple #[S0 (MJ z),I0 (ZE z)])):=by
 cases hg:FT z
 ·have H:=AA (zX hg);have Hg:=AA hg;clear hg htab;go_enter func158,ntmps158;go_wp2_with fail;refine(EO z _).mono ?_;rintro e w1 ⟨rfl,rfl⟩;rw[A8 Hg];go_wp2_with fail
  go_ret2
  exact⟨qX (by rw[(A8 H).1]) (A8 H).2.symm,Below.refl _ _⟩
 have hz:=H8.1 hg;have H:=AA (dD hg);have Hg:=AA hg;have q0:(z/2147483648)=((z/2147483648).toNat:Int):=by omega
 have r0:(z%2147483648)=((z%2147483648).toNat:Int):=by omega
 obtain⟨q,hq⟩:∃q,(z/2147483648).toNat=q:=⟨_,rfl⟩;obtain⟨r,hr⟩:∃r,(z%2147483648).toNat=r:=⟨_,rfl⟩;have q1:q<2147483648:=by omega
 have r1:r<2147483648:=by omega
 rw[hq]at q0;rw[hr]at r0;rw[hq,hr]at H;have Ez:Hid (DK z=(q:Int)):=AA (by rw[I5 hg];exact q0);have Cz:Hid (iH z=(r:Int)):=AA (by rw[UA hg];exact r0);have Htab:=AA htab;have Hiq:=AA (Lib.itoa_nonneg q);have Hir:=AA (Lib.itoa_nonneg r);have lq:=dA 9 q (by omega);have lr:=dA 9 r (by omega);clear hg hz q0 r0 hq hr htab;go_enter func158,ntmps158;go_wp2_with fail;refine(EO z _).mono ?_;rintro e w1 ⟨rfl,rfl⟩;rw[A8 Hg];go_wp2_with fail;refine(LP z _).mono ?_;rintro e w2 ⟨rfl,rfl⟩;rw[A8 Ez];go_wp2_with fail;refine(strconv_Itoa _ (by omega) (by omega) _ (A8 Htab)).mono ?_;rintro e w3 ⟨rfl,k,os,hw3⟩;have hb3:B0 w2 w3:=by rw[hw3];exact eU w2 k os
 clear hw3;rw[A8 Hiq];obtain⟨D,hD⟩:∃D,Lib.decDigits q=D:=⟨_,rfl⟩;rw[hD]at lq H⊢;clear hD;go_wp2_with fail;refine(YR z _).mono ?_;rintro e w4 ⟨rfl,rfl⟩;rw[A8 Cz];go_wp2_with fail;refine(strconv_Itoa _ (by omega) (by omega) _ (qY (A8 Htab) hb3)).mono ?_;rintro e w5 ⟨rfl,k,os,hw5⟩;have hb5:B0 w2 w5:=xC hb3 (by rw[hw5];exact eU w4 k os);clear hw5;rw[A8 Hir];obtain⟨R,hR⟩:∃R,Lib.decDigits r=R:=⟨_,rfl⟩;rw[hR]at lr H⊢;clear hR Hiq Hir Ez Cz Hg hb3;have zD:(ByteArray.mk D.toArray).size=D.length:=Lib.size_eq ⟨D.toArray⟩;have zR:(ByteArray.mk R.toArray).size=R.length:=Lib.size_eq ⟨R.toArray⟩;go_wp2_with fail
 go_ret2
 exact⟨qX (by rw[(A8 H).1];exact BC9 D R) (A8 H).2.symm,hb5⟩
theorem rP(z:Int)(w:World):
  Calls prog 134 #[I0 z] w fun e w'=>e=.returned (.tuple #[I0 (bC z),I0 (S9 z)])∧w'=w:=by
 cases hg:FT z
 ·have H:=AA (AI3 hg);have Hg:=AA hg;clear hg;go_enter func134,ntmps134;go_wp2_with fail;refine(EO z _).mono ?_;rintro e w1 ⟨rfl,rfl⟩;rw[A8 Hg];go_wp2_with fail
  go_ret2
  exact⟨KN (A8 H).1.symm (A8 H).2.symm,rfl⟩
 have hz:=H8.1 hg;have h0:=hz.1;have h1:=hz.2;clear hz
 cases hi:zIn (z%2147483648+1)
 ·have H:=AA (A68 hg hi);have Hg:=AA hg;have hf:(z%2147483648==2147483647)=true:=by
   rw[beq_iff_eq];have:=Int.emod_nonneg z (show (2147483648:Int)≠0 by decide);have:=Int.emod_lt_of_pos z (show (0:Int)<2147483648 by decide);by_cases h:z%2147483648=2147483647
   ·exact h
   ·rw[LD.2 (by omega)]at hi;exact absurd hi (by decide)
  clear hg hi;go_enter func134,ntmps134;go_wp2_with fail;refine(EO z _).mono ?_;rintro e w1 ⟨rfl,rfl⟩;rw[A8 Hg];go_wp2_with fail;refine(YR z _).mono ?_;rintro e w2 ⟨rfl,rfl⟩;rw[UA (A8 Hg)];go_wp2_with fail
  go_ret2
  exact⟨KN (A8 H).1.symm (A8 H).2.symm,rfl⟩
 ·have H:=AA (kJ hg hi);have Hg:=AA hg;have hf:(z%2147483648==2147483647)=false:=by
   rw[beq_eq_false_iff_ne];have:=(LD.1 hi).2;omega
  clear hg hi;go_enter func134,ntmps134;go_wp2_with fail;refine(EO z _).mono ?_;rintro e w1 ⟨rfl,rfl⟩;rw[A8 Hg];go_wp2_with fail;refine(YR z _).mono ?_;rintro e w2 ⟨rfl,rfl⟩;rw[UA (A8 Hg)];go_wp2_with fail
  go_ret2
  exact⟨KN (A8 H).1.symm (A8 H).2.symm,rfl⟩
end Go.Proofs.YtodnhndkghdinaaGreatDoor
