/-
  Part.
-/
import Derived.Test.YthcncjimjclfpaaGreatDoorLSA
import Derived.Test.YthcncjimjclfpaaGreatDoorRows
import Derived.WalkSpells
import Derived.WalkLawsBesides
import Derived.Test.YthcncjimjclfpaaGreatDoorShelf
set_option maxRecDepth 20000
set_option maxHeartbeats 8000000
namespace Go.Proofs.YthcncjimjclfpaaGreatDoor
open Go.RowKit Go.Proofs.Tryz
open _root_.ByteArray renaming mk->AQ
open _root_.List renaming take_of_length_le->BL
open Go.Lib renaming size_eq->DK,decDigits->EJ,indexByte->EZ
open Go.Ending renaming returned->DV
open Go renaming World->FU,Calls->FW
variable{l:List UInt8}{u:Nat}{a:ByteArray}{z:Int}{w:FU}
def isD(c:UInt8):Bool:=decide (48<=c.toNat)&&decide (c.toNat<=57)
theorem XB{c:UInt8}:isD c=true↔48<=c.toNat/\c.toNat<=57:=by simp[isD]
def num(l:List UInt8):Nat:=l.foldl (fun n c=>10*n+(c.toNat-48)) 0
theorem qY(l:List UInt8)(c:UInt8):num (l++[c])=10*num l+(c.toNat-48):=by simp[num]
theorem AK6(l:List UInt8):l=[]\/∃a c,l=a++[c]:=by
 cases h:l.reverse with
 |nil=>exact .inl (by simpa using h)
 |cons c r=>exact .inr ⟨r.reverse,c,by have:=congrArg List.reverse h;simpa using this⟩
theorem CI3(l:List UInt8)(h:l.all isD=true):num l<10^l.length:=by
 obtain⟨n,hn⟩:∃n,l.length=n:=⟨_,rfl⟩
 induction n generalizing l with
 |zero=>rw[List.length_eq_zero_iff.1 hn];decide
 |succ n ih=>
  rcases AK6 l with rfl|⟨a,c,rfl⟩
  .simp at hn
  .simp only[List.all_append,Bool.and_eq_true,List.all_cons,List.all_nil,Bool.and_true]at h;have h1:=ih a h.1 (by simpa using hn);have h2:=XB.1 h.2;rw[qY,List.length_append,List.length_singleton,Nat.pow_succ];omega
def OY(l:List UInt8):Bool:=decide (1<=l.length)&&decide (l.length<=10)&& !(decide (1<l.length)&&l.head?==some 48)&&l.all isD
def jV(l:List UInt8):Int:=if OY l then(num l:Int)else 0
theorem XC(h:OY l=true):jV l=num l:=by rw[jV,if_pos h]
theorem RU(h:OY l=false):jV l=0:=by rw[jV,h];rfl
theorem jW:OY l=true↔1<=l.length/\l.length<=10/\(1<l.length->l.head? ≠some 48)/\l.all isD=true:=by
 simp only[OY,Bool.and_eq_true,decide_eq_true_eq,Bool.not_eq_true',Bool.and_eq_false_imp,beq_eq_false_iff_ne,ne_eq];constructor
 .rintro⟨⟨⟨a,b⟩,c⟩,d⟩;exact⟨a,b,c,d⟩
 .rintro⟨a,b,c,d⟩;exact⟨⟨⟨a,b⟩,c⟩,d⟩
theorem iJ(h:¬ (1<=l.length/\l.length<=10/\(1<l.length->l.head? ≠some 48)/\l.all isD=true)):OY l=false:=by
 cases hp:OY l with
 |false=>rfl
 |true=>exact absurd (jW.1 hp) h
theorem CS1(h:u<10):EJ u=[UInt8.ofNat (48+u)]:=by rw[EJ,dif_pos h]
theorem decb(h:¬u<10):EJ u=EJ (u/10)++[UInt8.ofNat (48+u%10)]:=by rw[EJ,dif_neg h]
theorem aW{d:Nat}(h:d<10):(UInt8.ofNat (48+d)).toNat=48+d:=by rw[UInt8.toNat_ofNat'];omega
theorem AY6{d:Nat}(h:d<10):isD (UInt8.ofNat (48+d))=true:=XB.2 (by rw[aW h];omega)
theorem jX(u:Nat):(EJ u).all isD=true/\num (EJ u)=u/\1<=(EJ u).length/\(u≠0->(EJ u).head? ≠some 48):=by
 induction u using Nat.strongRecOn with
 |_ u ih=>
  by_cases h:u<10
  .rw[CS1 h];refine⟨by rw[List.all_cons,List.all_nil,AY6 h];rfl,?_,by simp,?_⟩
   .show 10*0+((UInt8.ofNat (48+u)).toNat-48)=u;rw[aW h];omega
   .intro h0 e;have h1:=congrArg UInt8.toNat (Option.some.inj e);rw[aW h]at h1;have h2:(48:UInt8).toNat=48:=rfl;omega
  .rw[decb h];obtain⟨i1,i2,i3,i4⟩:=ih (u/10) (by omega);refine⟨by rw[List.all_append,i1,List.all_cons,AY6 (Nat.mod_lt u (by decide:0<10)),List.all_nil];rfl,?_,by simp,?_⟩
   .rw[qY,i2,aW (Nat.mod_lt u (by decide))];omega
   .intro _;have i5:=i4 (by omega)
    cases hd:EJ (u/10)with
    |nil=>rw[hd]at i3;simp at i3
    |cons c r=>rw[hd]at i5;simpa using i5
theorem jY(k:Nat):∀u,u<10^(k+1)->(EJ u).length<=k+1:=by
 induction k with
 |zero=>intro u hu;rw[CS1 (by simpa using hu)];simp
 |succ k ih=>
  intro u hu;by_cases h:u<10
  .rw[CS1 h];simp
  .rw[decb h];have:=ih (u/10) (by rw[Nat.pow_succ]at hu;omega);simp;omega
theorem C31(h:1<(EJ u).length):u≠0:=by
 rintro rfl;rw[CS1 (by decide)]at h;simp at h
theorem AB5(h:u<10000000000):OY (EJ u)=true:=by
 obtain⟨i1,i2,i3,i4⟩:=jX u;exact jW.2 ⟨i3,jY 9 u h,fun hl=>i4 (C31 hl),i1⟩
def VZ(l:List UInt8):List UInt8:=l.takeWhile (fun c=>c !=46)
def WA(l:List UInt8):List UInt8:=(l.dropWhile (fun c=>c !=46)).drop 1
theorem AY7{a b:List UInt8}(h:∀c∈a,c≠46):VZ (a++46::b)=a/\WA (a++46::b)=b:=by
 have hp:∀c∈a,(c !=46)=true:=fun c hc=>by simpa using h c hc
 constructor
 .rw[VZ,List.takeWhile_append_of_pos hp];simp
 .rw[WA,List.dropWhile_append_of_pos hp];simp
theorem BI9(h:∀c∈l,c≠46):VZ l=l/\WA l=[]:=by
 have hp:∀c∈l,(c !=46)=true:=fun c hc=>by simpa using h c hc
 constructor
 .have:=List.takeWhile_append_of_pos (l₂:=[]) hp;rw[VZ];simpa using this
 .have:=List.dropWhile_append_of_pos (l₂:=[]) hp;rw[WA];simp at this;rw[this];rfl
theorem AY8(l:List UInt8):(∀c∈l,c≠46)\/∃a b,l=a++46::b/\∀c∈a,c≠46:=by
 induction l with
 |nil=>exact .inl (by simp)
 |cons x l ih=>
  by_cases hx:x=46
  .subst hx;exact .inr ⟨[],l,rfl,by simp⟩
  .rcases ih with h|⟨a,b,rfl,h⟩
   .exact .inl (by simpa [hx]using h)
   .exact .inr ⟨x::a,b,rfl,by simpa [hx]using h⟩
theorem C32(h:l.all isD=true):∀c∈l,c≠46:=by
 intro c hc e;subst e;exact absurd (List.all_eq_true.1 h 46 hc) (by decide)
def gV(l:List UInt8):Int:=if OY (VZ l)&&OY (WA l)then L6 (num (VZ l)) (num (WA l))else 0
def jZ(l:List UInt8):Int:=if OY (VZ l)&&OY (WA l)then NU (num (VZ l)) (num (WA l))else 2
theorem qZ(h:OY (VZ l)=false\/OY (WA l)=false):gV l=0/\jZ l=2:=by
 rcases h with h|h<;>simp[gV,jZ,h]
theorem vY(h:OY (VZ l)=true)(h':OY (WA l)=true):gV l=L6 (num (VZ l)) (num (WA l))/\jZ l=NU (num (VZ l)) (num (WA l)):=by
 simp[gV,jZ,h,h']
def QT(z:Int):List UInt8:=if KD z then EJ (z/2147483648).toNat++46::EJ (z%2147483648).toNat else []
def fO(z:Int):Int:=if KD z then 0 else 3
theorem AB6(h:KD z=false):QT z=[]/\fO z=3:=by simp[QT,fO,h]
theorem kC(h:KD z=true):QT z=EJ (z/2147483648).toNat++46::EJ (z%2147483648).toNat/\fO z=0:=by simp[QT,fO,h]
theorem AY9(h:KD z=true):gV (QT z)=z/\jZ (QT z)=0:=by
 have hz:=LZ.1 h;obtain⟨i1,i2,_,_⟩:=jX (z/2147483648).toNat;obtain⟨_,j2,_,_⟩:=jX (z%2147483648).toNat;obtain⟨c1,c2⟩:=AY7 (b:=EJ (z%2147483648).toNat) (C32 i1);rw[(kC h).1];obtain⟨r1,r2⟩:=vY (l:=EJ (z/2147483648).toNat++46::EJ (z%2147483648).toNat) (by rw[c1];exact AB5 (by omega)) (by rw[c2];exact AB5 (by omega));rw[r1,r2,c1,c2,i2,j2];obtain⟨m1,m2⟩:=U4 (e:=((z/2147483648).toNat:Int)) (c:=((z%2147483648).toNat:Int)) (PY.2 (by omega)) (PY.2 (by omega));rw[m1,m2,Int.toNat_of_nonneg (by omega),Int.toNat_of_nonneg (by omega)];exact⟨by omega,rfl⟩
theorem SQ{a b:Bool}(h:a=b):DV (.bool a)=.returned (.bool b):=by rw[h]
theorem JH(z:Int)(w:FU):
  FW prog 90 #[I0 z] w fun e w'=>e=.returned (.bool (KD z))/\w'=w:=by
 go_enter func90,ntmps90
 go_wp2
 go_ret;exact⟨SQ (by rw[Bool.eq_iff_iff,LZ,beq_iff_eq];omega),rfl⟩
theorem UL(e c:Int)(w:FU):
  FW prog 89 #[I0 e,I0 c] w fun x w'=>x=.returned (.tuple #[I0 (L6 e c),I0 (NU e c)])/\w'=w:=by
 by_cases h1:e<0
 .have H:=G6 (gZ (e:=e) (c:=c) (.inl (A83 (by omega))));go_enter func89,ntmps89
  go_wp2
  go_ret2
  exact⟨P8 (G5 H).1.symm (G5 H).2.symm,rfl⟩
 by_cases h2:2147483647<e
 .have H:=G6 (gZ (e:=e) (c:=c) (.inl (A83 (by omega))));go_enter func89,ntmps89
  go_wp2
  go_ret2
  exact⟨P8 (G5 H).1.symm (G5 H).2.symm,rfl⟩
 by_cases h3:c<0
 .have H:=G6 (gZ (e:=e) (c:=c) (.inr (A83 (by omega))));go_enter func89,ntmps89
  go_wp2
  go_ret2
  exact⟨P8 (G5 H).1.symm (G5 H).2.symm,rfl⟩
 by_cases h4:2147483647<c
 .have H:=G6 (gZ (e:=e) (c:=c) (.inr (A83 (by omega))));go_enter func89,ntmps89
  go_wp2
  go_ret2
  exact⟨P8 (G5 H).1.symm (G5 H).2.symm,rfl⟩
 have H:=G6 (U4 (e:=e) (c:=c) (PY.2 (by omega)) (PY.2 (by omega)));go_enter func89,ntmps89
 go_wp2
 go_ret2
 exact⟨P8 ((C09 (by omega) (by omega) (by omega) (by omega)).trans (G5 H).1.symm) (G5 H).2.symm,rfl⟩
theorem QE(z:Int)(w:FU):
  FW prog 59 #[I0 z] w fun e w'=>e=.returned (I0 (J3 z))/\w'=w:=by
 cases hg:KD z
 .have H:=G6 (uO hg);have Hg:=G6 hg;clear hg;go_enter func59,ntmps59;go_wp2_with fail;refine(JH z _).mono ?_;rintro e w1 ⟨rfl,rfl⟩;rw[G5 Hg];go_wp2_with fail;go_ret;exact⟨qL (G5 H).symm,rfl⟩
 .have H:=G6 (MB hg);have Hg:=G6 hg;clear hg;go_enter func59,ntmps59;go_wp2_with fail;refine(JH z _).mono ?_;rintro e w1 ⟨rfl,rfl⟩;rw[G5 Hg];go_wp2_with fail;go_ret;exact⟨qL (G5 H).symm,rfl⟩
theorem eP(z:Int)(w:FU):
  FW prog 159 #[I0 z] w fun e w'=>e=.returned (I0 (nR z))/\w'=w:=by
 cases hg:KD z
 .have H:=G6 (AT1 hg);have Hg:=G6 hg;clear hg;go_enter func159,ntmps159;go_wp2_with fail;refine(JH z _).mono ?_;rintro e w1 ⟨rfl,rfl⟩;rw[G5 Hg];go_wp2_with fail;go_ret;exact⟨qL (G5 H).symm,rfl⟩
 .have H:=G6 (YF hg);have Hg:=G6 hg;clear hg;go_enter func159,ntmps159;go_wp2_with fail;refine(JH z _).mono ?_;rintro e w1 ⟨rfl,rfl⟩;rw[G5 Hg];go_wp2_with fail;go_ret;have h:=LZ.1 (G5 Hg);exact⟨qL ((BF4 h.1 h.2).trans (G5 H).symm),rfl⟩
theorem AO7(s:ByteArray):s.data.toList.length=s.size:=by simp
theorem RY{i j:Int}{a b:Bool}(h:i=j)(h':a=b):DV (.tuple #[.int .i64 i,.bool a])=.returned (.tuple #[.int .i64 j,.bool b]):=by rw[h,h']
theorem CV3(s:ByteArray)(h:0<s.size):s.data.toList.head?=some s[0]:=by
 rw[List.head?_eq_getElem?,List.getElem?_eq_getElem (by simpa using h)];rfl
theorem AE0(s:ByteArray)(k:Nat)(h:k<s.size):num (s.data.toList.take (k+1))=10*num (s.data.toList.take k)+(s[k].toNat-48):=by
 rw[iY s k h,qY]
theorem xO(s:ByteArray)(k:Nat)(h:k<10)(ha:(s.data.toList.take k).all isD=true):num (s.data.toList.take k)<1000000000:=by
 have h1:=CI3 _ ha;have h2:(s.data.toList.take k).length<=9:=by rw[List.length_take];omega
 have h3:10^(s.data.toList.take k).length<=10^9:=Nat.pow_le_pow_right (by decide) h2;have h4:(10:Nat)^9=1000000000:=by decide
 omega
theorem YU(s:ByteArray)(w:FU)(hs:s.size<=140737488355328):
  FW prog 88 #[.string s] w fun e w'=>e=.returned (.tuple #[.int .i64 (jV s.data.toList),.bool (OY s.data.toList)])/\w'=w:=by
 have hz:=AO7 s;by_cases h1:s.size<1
 .have hp:OY s.data.toList=false:=iJ (by omega);have H:=G6 hp;clear hp;go_enter func88,ntmps88
  go_wp2
  go_ret2
  exact⟨RY (RU (G5 H)).symm (G5 H).symm,rfl⟩
 by_cases h2:10<s.size
 .have hp:OY s.data.toList=false:=iJ (by omega);have H:=G6 hp;clear hp;go_enter func88,ntmps88
  go_wp2
  go_ret2
  exact⟨RY (RU (G5 H)).symm (G5 H).symm,rfl⟩
 have hhd:=CV3 s (by omega);have h0:0<s.size:=by omega
 by_cases h3:1<s.size/\s[0]=48
 .have hp:OY s.data.toList=false:=iJ (by
   rintro⟨_,_,h,_⟩;exact h (by omega) (by rw[hhd,h3.2]))
  have H:=G6 hp;have h4:((s[0].toNat:Int)==48)=true:=by rw[h3.2];rfl
  have h5:=h3.1;clear hp h3 hhd;go_enter func88,ntmps88
  go_wp2
  go_ret2
  exact⟨RY (RU (G5 H)).symm (G5 H).symm,rfl⟩
 have Hok:Hid (s.data.toList.all isD=true->OY s.data.toList=true):=G6 (fun h=>jW.2 ⟨by omega,by omega,fun hl e=>h3 ⟨by omega,by rw[hhd]at e;exact Option.some.inj e⟩,h⟩);have Hno:Hid (s.data.toList.all isD=false->OY s.data.toList=false):=G6 (fun h=>iJ (fun hh=>by rw[h]at hh;exact absurd hh.2.2.2 (by decide)));have h4:1<s.size->((s[0].toNat:Int)==48)=false:=fun hl=>by
  rw[beq_eq_false_iff_ne];intro e;exact h3 ⟨hl,UInt8.toNat_inj.1 (by show s[0].toNat=48;omega)⟩
 clear h3 hhd;by_cases h5:1<s.size
 .have h6:=h4 h5;clear h4;go_enter func88,ntmps88
  go_wp2
  clear h6
  go_loop [4,26] (fun n i=>∃k:Nat,k<=s.size/\i=.int .i64 k/\n=.int .i64 (num (s.data.toList.take k):Int)/\(s.data.toList.take k).all isD=true) (fun _ i=>s.size-(intOf i).toNat)
  case atStart=>exact⟨0,Nat.zero_le _,rfl,rfl,by simp⟩
  case round=>
   obtain⟨k,hk,rfl,rfl,hall⟩:=hrel;have zX:=G6 hall;by_cases hlt:k<s.size
   .have hsm:=xO s k (by omega) hall;have Hnt:=G6 (AE0 s k hlt);clear hall;obtain⟨n,hn⟩:∃n,num (s.data.toList.take k)=n:=⟨_,rfl⟩;rw[hn]at hsm Hnt⊢;clear hn;by_cases hd:isD s[k]=true
    .have hd1:=(XB.1 hd).1;have hd2:=(XB.1 hd).2;have Hd:=G6 hd;clear hd
     go_wp2
     go_round
     case rel=>exact⟨k+1,by omega,by go_num,by rw[G5 Hnt];go_num,V5 s k hlt isD (G5 zX) (G5 Hd)⟩
     case measure=>simp[intOf];omega
    .have hd':isD s[k]=false:=by simpa using hd
     have hp:=G5 Hno (dO s k hlt isD hd');have hq:s[k].toNat<48\/57<s[k].toNat:=by
      by_cases hc:48<=s[k].toNat/\s[k].toNat<=57
      .exact absurd (XB.2 hc) hd
      .omega
     have H:=G6 hp;clear hp hd hd';rcases hq with hq|hq
     .go_wp2
      go_ret2
      exact⟨RY (RU (G5 H)).symm (G5 H).symm,rfl⟩
     .go_wp2
      go_ret2
      exact⟨RY (RU (G5 H)).symm (G5 H).symm,rfl⟩
   .have hp:=G5 Hok (ZH s k (by omega) isD hall);have H:=G6 hp;have hkk:s.data.toList.take k=s.data.toList:=BL (by omega);rw[hkk];clear hp hall zX hkk
    go_wp2
    go_ret2
    exact⟨RY (XC (G5 H)).symm (G5 H).symm,rfl⟩
 .clear h4;go_enter func88,ntmps88
  go_wp2
  go_loop [4,26] (fun n i=>∃k:Nat,k<=s.size/\i=.int .i64 k/\n=.int .i64 (num (s.data.toList.take k):Int)/\(s.data.toList.take k).all isD=true) (fun _ i=>s.size-(intOf i).toNat)
  case atStart=>exact⟨0,Nat.zero_le _,rfl,rfl,by simp⟩
  case round=>
   obtain⟨k,hk,rfl,rfl,hall⟩:=hrel;have zX:=G6 hall;by_cases hlt:k<s.size
   .have hsm:=xO s k (by omega) hall;have Hnt:=G6 (AE0 s k hlt);clear hall;obtain⟨n,hn⟩:∃n,num (s.data.toList.take k)=n:=⟨_,rfl⟩;rw[hn]at hsm Hnt⊢;clear hn;by_cases hd:isD s[k]=true
    .have hd1:=(XB.1 hd).1;have hd2:=(XB.1 hd).2;have Hd:=G6 hd;clear hd
     go_wp2
     go_round
     case rel=>exact⟨k+1,by omega,by go_num,by rw[G5 Hnt];go_num,V5 s k hlt isD (G5 zX) (G5 Hd)⟩
     case measure=>simp[intOf];omega
    .have hd':isD s[k]=false:=by simpa using hd
     have hp:=G5 Hno (dO s k hlt isD hd');have hq:s[k].toNat<48\/57<s[k].toNat:=by
      by_cases hc:48<=s[k].toNat/\s[k].toNat<=57
      .exact absurd (XB.2 hc) hd
      .omega
     have H:=G6 hp;clear hp hd hd';rcases hq with hq|hq
     .go_wp2
      go_ret2
      exact⟨RY (RU (G5 H)).symm (G5 H).symm,rfl⟩
     .go_wp2
      go_ret2
      exact⟨RY (RU (G5 H)).symm (G5 H).symm,rfl⟩
   .have hp:=G5 Hok (ZH s k (by omega) isD hall);have H:=G6 hp;have hkk:s.data.toList.take k=s.data.toList:=BL (by omega);rw[hkk];clear hp hall zX hkk
    go_wp2
    go_ret2
    exact⟨RY (XC (G5 H)).symm (G5 H).symm,rfl⟩
theorem B41{a b:List UInt8}(h:∀c∈a,c≠46):EZ (a++46::b) 46=(a.length:Int):=by
 induction a with
 |nil=>rfl
 |cons x a ih=>
  have hx:(x==46)=false:=by simpa using h x (by simp)
  have ih':=ih (fun c hc=>h c (by simp[hc]));show EZ (x::(a++46::b)) 46=_;rw[EZ,if_neg (by simp[hx]),ih',if_neg (by simp)];simp
theorem AO8(h:∀c∈l,c≠46):EZ l 46=-1:=by
 induction l with
 |nil=>rfl
 |cons x a ih=>
  have hx:(x==46)=false:=by simpa using h x (by simp)
  have ih':=ih (fun c hc=>h c (by simp[hc]));rw[EZ,if_neg (by simp[hx]),ih'];rfl
theorem BY5(h:a.data.toList=l):a=⟨l.toArray⟩:=by rw[<-h]
theorem B42(a b:List UInt8):(AQ (a++46::b).toArray).extract 0 a.length=⟨a.toArray⟩:=by
 apply BY5
 rw[<-Lib.toList_data,Lib.extract_toList];show ((a++46::b).drop 0).take (a.length-0)=a;simp
theorem BN7(a b:List UInt8)(n:Nat)(hn:n=(a++46::b).length):(AQ (a++46::b).toArray).extract (a.length+1) n=⟨b.toArray⟩:=by
 subst hn
 apply BY5
 rw[<-Lib.toList_data,Lib.extract_toList];show ((a++46::b).drop (a.length+1)).take ((a++46::b).length-(a.length+1))=b;rw[show (a++46::b).drop (a.length+1)=b from by simp];exact BL (by simp;omega)
theorem B43{b c d:ByteArray}{x:Bool}(h:a=b)(h':c=d):DV (.tuple #[.string a,.string c,.bool x])=.returned (.tuple #[.string b,.string d,.bool x]):=by rw[h,h']
theorem A41(l:List UInt8)(w:FU)(hl:l.length<=140737488355328):
  FW prog 124 #[.string ⟨l.toArray⟩,.string ⟨#[46]⟩] w fun e w'=>∃b,e=.returned (.tuple #[.string ⟨(VZ l).toArray⟩,.string ⟨(WA l).toArray⟩,.bool b])/\Below w.heap.size w w':=by
 have hz:(AQ l.toArray).size=l.length:=DK ⟨l.toArray⟩;rcases AY8 l with hd|⟨a,b,rfl,hd⟩
 .have H:=G6 (BI9 hd);have HI:=G6 (AO8 hd);clear hd;go_enter func124,ntmps124;go_wp2_with fail;refine(stringslite_Index_one ⟨l.toArray⟩ 46 _).mono ?_;rintro e w1 ⟨rfl,rfl⟩;rw[show EZ (AQ l.toArray).data.toList 46=-1 from G5 HI];go_wp2_with fail
  go_ret3
  exact⟨_,B43 (by rw[(G5 H).1]) (by rw[(G5 H).2]),Below.refl _ _⟩
 .have H:=G6 (AY7 (b:=b) hd);have HI:=G6 (B41 (b:=b) hd);have hlen:(a++46::b).length=a.length+1+b.length:=by simp;omega
  rw[hlen]at hz hl;have HL:=G6 hlen;have H1:=G6 (B42 a b);have H2:=G6 (BN7 a b _ rfl);clear hd hlen;obtain⟨S,hS⟩:∃S,(AQ (a++46::b).toArray)=S:=⟨_,rfl⟩;rw[hS]at hz H1 H2⊢;have HI':Hid (EZ S.data.toList 46=(a.length:Int)):=G6 (by rw[<-hS];exact G5 HI);have HE:Hid (S.extract (a.length+1) (a.length+1+b.length)=⟨b.toArray⟩):=G6 (by rw[<-G5 HL];exact G5 H2);clear hS HI H2;have c1:(0:Int)<=(a.length:Int):=by omega
  have c2:(a.length:Int)<=(S.size:Int):=by omega
  have c3:(0:Int)<=(a.length:Int)+1:=by omega
  have c4:(a.length:Int)+1<=(S.size:Int):=by omega
  go_enter func124,ntmps124;go_wp2_with fail;refine(stringslite_Index_one S 46 _).mono ?_;rintro e w1 ⟨rfl,rfl⟩;rw[G5 HI'];go_wp2_with fail;go_region
  go_wp2
  go_ret3
  exact⟨_,B43 (by rw[(G5 H).1];exact G5 H1) (by rw[(G5 H).2];exact G5 HE),(Below.refl _ _).drew⟩
theorem A42(l:List UInt8)(w:FU)(hl:l.length<=140737488355328):
  FW prog 87 #[.string ⟨l.toArray⟩,.string ⟨#[46]⟩] w fun e w'=>∃b,e=.returned (.tuple #[.string ⟨(VZ l).toArray⟩,.string ⟨(WA l).toArray⟩,.bool b])/\Below w.heap.size w w':=by
 go_enter func87,ntmps87;go_wp2_with fail;refine(A41 l _ hl).mono ?_;rintro e w1 ⟨b,rfl,hb1⟩;go_wp2_with fail
 go_ret3
 exact⟨_,rfl,hb1⟩
theorem C62(l:List UInt8):(VZ l).length<=l.length/\(WA l).length<=l.length:=by
 constructor
 .exact(List.takeWhile_prefix _).length_le
 .rw[WA,List.length_drop];have:=(List.dropWhile_suffix (l:=l) (fun c=>c !=46)).length_le;omega
theorem B44(l:List UInt8)(w:FU)(hl:l.length<=140737488355328):
  FW prog 58 #[.string ⟨l.toArray⟩] w fun e w'=>e=.returned (.tuple #[.int .i64 (gV l),.int .i64 (jZ l)])/\Below w.heap.size w w':=by
 have hc:=C62 l;have c1:=hc.1;have c2:=hc.2;clear hc
 cases h1:OY (VZ l)
 .have H:=G6 (qZ (.inl h1));have HA:Hid (jV (VZ l)=0/\OY (VZ l)=false):=G6 ⟨RU h1,h1⟩;clear h1;go_enter func58,ntmps58;go_wp2_with fail;refine(A42 l _ hl).mono ?_;rintro e w1 ⟨b,rfl,hb1⟩;go_wp2_with fail;refine(YU ⟨(VZ l).toArray⟩ _ (by rw[DK];show (VZ l).length<=_;omega)).mono ?_;rintro e w2 ⟨rfl,rfl⟩;rw[show (AQ (VZ l).toArray).data.toList=VZ l from rfl,(G5 HA).1,(G5 HA).2];go_wp2_with fail;refine(YU ⟨(WA l).toArray⟩ _ (by rw[DK];show (WA l).length<=_;omega)).mono ?_;rintro e w2 ⟨rfl,rfl⟩;rw[show (AQ (WA l).toArray).data.toList=WA l from rfl];obtain⟨B,hB⟩:∃B,OY (WA l)=B:=⟨_,rfl⟩;obtain⟨M,hM⟩:∃M,jV (WA l)=M:=⟨_,rfl⟩;rw[hB,hM];clear hB hM HA;go_wp2_with fail
  go_ret2
  exact⟨P8 (G5 H).1.symm (G5 H).2.symm,hb1⟩
 cases h2:OY (WA l)
 .have H:=G6 (qZ (.inr h2));have HA:Hid (jV (VZ l)=num (VZ l)/\OY (VZ l)=true):=G6 ⟨XC h1,h1⟩;have HZ:Hid (jV (WA l)=0/\OY (WA l)=false):=G6 ⟨RU h2,h2⟩;clear h1 h2;go_enter func58,ntmps58;go_wp2_with fail;refine(A42 l _ hl).mono ?_;rintro e w1 ⟨b,rfl,hb1⟩;go_wp2_with fail;refine(YU ⟨(VZ l).toArray⟩ _ (by rw[DK];show (VZ l).length<=_;omega)).mono ?_;rintro e w2 ⟨rfl,rfl⟩;rw[show (AQ (VZ l).toArray).data.toList=VZ l from rfl,(G5 HA).1,(G5 HA).2];go_wp2_with fail;refine(YU ⟨(WA l).toArray⟩ _ (by rw[DK];show (WA l).length<=_;omega)).mono ?_;rintro e w2 ⟨rfl,rfl⟩;rw[show (AQ (WA l).toArray).data.toList=WA l from rfl,(G5 HZ).1,(G5 HZ).2];go_wp2_with fail
  go_ret2
  exact⟨P8 (G5 H).1.symm (G5 H).2.symm,hb1⟩
 have H:=G6 (vY h1 h2);have HA:Hid (jV (VZ l)=num (VZ l)/\OY (VZ l)=true):=G6 ⟨XC h1,h1⟩;have HZ:Hid (jV (WA l)=num (WA l)/\OY (WA l)=true):=G6 ⟨XC h2,h2⟩;clear h1 h2;go_enter func58,ntmps58;go_wp2_with fail;refine(A42 l _ hl).mono ?_;rintro e w1 ⟨b,rfl,hb1⟩;go_wp2_with fail;refine(YU ⟨(VZ l).toArray⟩ _ (by rw[DK];show (VZ l).length<=_;omega)).mono ?_;rintro e w2 ⟨rfl,rfl⟩;rw[show (AQ (VZ l).toArray).data.toList=VZ l from rfl,(G5 HA).1,(G5 HA).2];go_wp2_with fail;refine(YU ⟨(WA l).toArray⟩ _ (by rw[DK];show (WA l).length<=_;omega)).mono ?_;rintro e w2 ⟨rfl,rfl⟩;rw[show (AQ (WA l).toArray).data.toList=WA l from rfl,(G5 HZ).1,(G5 HZ).2];go_wp2_with fail;refine(UL _ _ _).mono ?_;rintro e w3 ⟨rfl,rfl⟩;obtain⟨X,hX⟩:∃X,L6 (num (VZ l)) (num (WA l))=X:=⟨_,rfl⟩;obtain⟨E,hE⟩:∃E,NU (num (VZ l)) (num (WA l))=E:=⟨_,rfl⟩;rw[hX,hE];rw[hX,hE]at H;clear hX hE HA HZ;go_wp2_with fail
 go_ret2
 exact⟨P8 (G5 H).1.symm (G5 H).2.symm,hb1⟩
theorem l7(w:FU)(k:Nat)(os:Array Obj):B0 w (Sort.grow (w.drewN k) os):=
 ⟨rfl,rfl,rfl,by simp[Sort.grow,World.drewN],fun i hi=>by simp[Sort.grow,World.drewN,Array.getElem?_append_left hi]⟩
theorem xR{b:ByteArray}{i j:Int}(h:a=b)(h':i=j):DV (.tuple #[.string a,I0 i])=.returned (.tuple #[.string b,I0 j]):=by rw[h,h']
theorem A47{w1 w2:FU}(h:B0 w w1)(h':B0 w1 w2):B0 w w2:=h.trans (h'.mono h.size)
theorem BO4(d m:List UInt8):(AQ d.toArray)++(AQ #[46])++(AQ m.toArray)=⟨(d++46::m).toArray⟩:=by
 apply ByteArray.ext
 simp[ByteArray.data_append]
theorem B58:prog.globalNamed "internal/strconv.uint64pow10" =some 1:=by kernel_rfl
theorem A48(htab:Lib.TabIs prog w "internal/strconv.uint64pow10" .u64 Lib.pow10Tab):1<w.heap.size:=by
 have hc:=htab.cell B58 0 (by decide);unfold World.cell? at hc
 cases ho:w.heap[1]? with
 |none=>simp[ho]at hc
 |some o=>exact(Array.getElem?_eq_some_iff.1 ho).1
theorem xU{w':FU}(htab:Lib.TabIs prog w "internal/strconv.uint64pow10" .u64 Lib.pow10Tab)(hb:B0 w w'):Lib.TabIs prog w' "internal/strconv.uint64pow10" .u64 Lib.pow10Tab:=
 var?_below hb B58 (A48 htab) htab
theorem l9(z:Int)(w:FU)(htab:Lib.TabIs prog w "internal/strconv.uint64pow10" .u64 Lib.pow10Tab):
  FW prog 144 #[I0 z] w (R0 w (.tuple #[S0 (QT z),I0 (fO z)])):=by
 cases hg:KD z
 .have H:=G6 (AB6 hg);have Hg:=G6 hg;clear hg htab;go_enter func144,ntmps144;go_wp2_with fail;refine(JH z _).mono ?_;rintro e w1 ⟨rfl,rfl⟩;rw[G5 Hg];go_wp2_with fail
  go_ret2
  exact⟨xR (by rw[(G5 H).1]) (G5 H).2.symm,Below.refl _ _⟩
 have hz:=LZ.1 hg;have H:=G6 (kC hg);have Hg:=G6 hg;have q0:(z/2147483648)=((z/2147483648).toNat:Int):=by omega
 have r0:(z%2147483648)=((z%2147483648).toNat:Int):=by omega
 obtain⟨q,hq⟩:∃q,(z/2147483648).toNat=q:=⟨_,rfl⟩;obtain⟨r,hr⟩:∃r,(z%2147483648).toNat=r:=⟨_,rfl⟩;have q1:q<2147483648:=by omega
 have r1:r<2147483648:=by omega
 rw[hq]at q0;rw[hr]at r0;rw[hq,hr]at H;have Ez:Hid (J3 z=(q:Int)):=G6 (by rw[MB hg];exact q0);have Cz:Hid (nR z=(r:Int)):=G6 (by rw[YF hg];exact r0);have Htab:=G6 htab;have Hiq:=G6 (Lib.itoa_nonneg q);have Hir:=G6 (Lib.itoa_nonneg r);have lq:=jY 9 q (by omega);have lr:=jY 9 r (by omega);clear hg hz q0 r0 hq hr htab;go_enter func144,ntmps144;go_wp2_with fail;refine(JH z _).mono ?_;rintro e w1 ⟨rfl,rfl⟩;rw[G5 Hg];go_wp2_with fail;refine(QE z _).mono ?_;rintro e w2 ⟨rfl,rfl⟩;rw[G5 Ez];go_wp2_with fail;refine(strconv_Itoa _ (by omega) (by omega) _ (G5 Htab)).mono ?_;rintro e w3 ⟨rfl,k,os,hw3⟩;have hb3:B0 w2 w3:=by rw[hw3];exact l7 w2 k os
 clear hw3;rw[G5 Hiq];obtain⟨D,hD⟩:∃D,EJ q=D:=⟨_,rfl⟩;rw[hD]at lq H⊢;clear hD;go_wp2_with fail;refine(eP z _).mono ?_;rintro e w4 ⟨rfl,rfl⟩;rw[G5 Cz];go_wp2_with fail;refine(strconv_Itoa _ (by omega) (by omega) _ (xU (G5 Htab) hb3)).mono ?_;rintro e w5 ⟨rfl,k,os,hw5⟩;have hb5:B0 w2 w5:=A47 hb3 (by rw[hw5];exact l7 w4 k os);clear hw5;rw[G5 Hir];obtain⟨R,hR⟩:∃R,EJ r=R:=⟨_,rfl⟩;rw[hR]at lr H⊢;clear hR Hiq Hir Ez Cz Hg hb3;have zD:(AQ D.toArray).size=D.length:=DK ⟨D.toArray⟩;have zR:(AQ R.toArray).size=R.length:=DK ⟨R.toArray⟩;go_wp2_with fail
 go_ret2
 exact⟨xR (by rw[(G5 H).1];exact BO4 D R) (G5 H).2.symm,hb5⟩
theorem yF(z:Int)(w:FU):
  FW prog 125 #[I0 z] w fun e w'=>e=.returned (.tuple #[I0 (iZ z),I0 (WM z)])/\w'=w:=by
 cases hg:KD z
 .have H:=G6 (AT2 hg);have Hg:=G6 hg;clear hg;go_enter func125,ntmps125;go_wp2_with fail;refine(JH z _).mono ?_;rintro e w1 ⟨rfl,rfl⟩;rw[G5 Hg];go_wp2_with fail
  go_ret2
  exact⟨P8 (G5 H).1.symm (G5 H).2.symm,rfl⟩
 have hz:=LZ.1 hg;have h0:=hz.1;have h1:=hz.2;clear hz
 cases hi:zIn (z%2147483648+1)
 .have H:=G6 (AI5 hg hi);have Hg:=G6 hg;have hf:(z%2147483648==2147483647)=true:=by
   rw[beq_iff_eq];have:=Int.emod_nonneg z (show (2147483648:Int)≠0 by decide);have:=Int.emod_lt_of_pos z (show (0:Int)<2147483648 by decide);by_cases h:z%2147483648=2147483647
   .exact h
   .rw[PY.2 (by omega)]at hi;exact absurd hi (by decide)
  clear hg hi;go_enter func125,ntmps125;go_wp2_with fail;refine(JH z _).mono ?_;rintro e w1 ⟨rfl,rfl⟩;rw[G5 Hg];go_wp2_with fail;refine(eP z _).mono ?_;rintro e w2 ⟨rfl,rfl⟩;rw[YF (G5 Hg)];go_wp2_with fail
  go_ret2
  exact⟨P8 (G5 H).1.symm (G5 H).2.symm,rfl⟩
 .have H:=G6 (qK hg hi);have Hg:=G6 hg;have hf:(z%2147483648==2147483647)=false:=by
   rw[beq_eq_false_iff_ne];have:=(PY.1 hi).2;omega
  clear hg hi;go_enter func125,ntmps125;go_wp2_with fail;refine(JH z _).mono ?_;rintro e w1 ⟨rfl,rfl⟩;rw[G5 Hg];go_wp2_with fail;refine(eP z _).mono ?_;rintro e w2 ⟨rfl,rfl⟩;rw[YF (G5 Hg)];go_wp2_with fail
  go_ret2
  exact⟨P8 (G5 H).1.symm (G5 H).2.symm,rfl⟩
