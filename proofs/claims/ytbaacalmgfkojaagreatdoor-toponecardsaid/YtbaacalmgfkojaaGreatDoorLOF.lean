/-
  Part.
-/
import Derived.Test.YtbaacalmgfkojaaGreatDoorLOA
import Derived.Test.YtbaacalmgfkojaaGreatDoorRows
import Derived.WalkSpells
import Derived.WalkLawsBesides
import Derived.Test.YtbaacalmgfkojaaGreatDoorShelf
set_option maxRecDepth 20000
set_option maxHeartbeats 8000000
namespace Go.Proofs.YtbaacalmgfkojaaGreatDoor
open Go.RowKit Go.Proofs.Tryz
open _root_.ByteArray renaming mk->AQ
open _root_.List renaming take_of_length_le->BL
open Go.Lib renaming size_eq->DK,decDigits->EJ,indexByte->EZ
open Go.Ending renaming returned->DV
open Go renaming World->FU,Calls->FW
variable{l:List UInt8}{u:Nat}{a:ByteArray}{z:Int}{w:FU}
def isD(c:UInt8):Bool:=decide (48<=c.toNat)&&decide (c.toNat<=57)
theorem WA{c:UInt8}:isD c=true↔48<=c.toNat/\c.toNat<=57:=by simp[isD]
def num(l:List UInt8):Nat:=l.foldl (fun n c=>10*n+(c.toNat-48)) 0
theorem pF(l:List UInt8)(c:UInt8):num (l++[c])=10*num l+(c.toNat-48):=by simp[num]
theorem AF5(l:List UInt8):l=[]\/∃a c,l=a++[c]:=by
 cases h:l.reverse with
 |nil=>exact .inl (by simpa using h)
 |cons c r=>exact .inr ⟨r.reverse,c,by have:=congrArg List.reverse h;simpa using this⟩
theorem CB1(l:List UInt8)(h:l.all isD=true):num l<10^l.length:=by
 obtain⟨n,hn⟩:∃n,l.length=n:=⟨_,rfl⟩
 induction n generalizing l with
 |zero=>rw[List.length_eq_zero_iff.1 hn];decide
 |succ n ih=>
  rcases AF5 l with rfl|⟨a,c,rfl⟩
  .simp at hn
  .simp only[List.all_append,Bool.and_eq_true,List.all_cons,List.all_nil,Bool.and_true]at h;have h1:=ih a h.1 (by simpa using hn);have h2:=WA.1 h.2;rw[pF,List.length_append,List.length_singleton,Nat.pow_succ];omega
def OQ(l:List UInt8):Bool:=decide (1<=l.length)&&decide (l.length<=10)&& !(decide (1<l.length)&&l.head?==some 48)&&l.all isD
def iK(l:List UInt8):Int:=if OQ l then(num l:Int)else 0
theorem WC(h:OQ l=true):iK l=num l:=by rw[iK,if_pos h]
theorem QY(h:OQ l=false):iK l=0:=by rw[iK,h];rfl
theorem iL:OQ l=true↔1<=l.length/\l.length<=10/\(1<l.length->l.head? ≠some 48)/\l.all isD=true:=by
 simp only[OQ,Bool.and_eq_true,decide_eq_true_eq,Bool.not_eq_true',Bool.and_eq_false_imp,beq_eq_false_iff_ne,ne_eq];constructor
 .rintro⟨⟨⟨a,b⟩,c⟩,d⟩;exact⟨a,b,c,d⟩
 .rintro⟨a,b,c,d⟩;exact⟨⟨⟨a,b⟩,c⟩,d⟩
theorem fK(h:¬ (1<=l.length/\l.length<=10/\(1<l.length->l.head? ≠some 48)/\l.all isD=true)):OQ l=false:=by
 cases hp:OQ l with
 |false=>rfl
 |true=>exact absurd (iL.1 hp) h
theorem CM0(h:u<10):EJ u=[UInt8.ofNat (48+u)]:=by rw[EJ,dif_pos h]
theorem decb(h:¬u<10):EJ u=EJ (u/10)++[UInt8.ofNat (48+u%10)]:=by rw[EJ,dif_neg h]
theorem ZN{d:Nat}(h:d<10):(UInt8.ofNat (48+d)).toNat=48+d:=by rw[UInt8.toNat_ofNat'];omega
theorem AT6{d:Nat}(h:d<10):isD (UInt8.ofNat (48+d))=true:=WA.2 (by rw[ZN h];omega)
theorem iM(u:Nat):(EJ u).all isD=true/\num (EJ u)=u/\1<=(EJ u).length/\(u≠0->(EJ u).head? ≠some 48):=by
 induction u using Nat.strongRecOn with
 |_ u ih=>
  by_cases h:u<10
  .rw[CM0 h];refine⟨by rw[List.all_cons,List.all_nil,AT6 h];rfl,?_,by simp,?_⟩
   .show 10*0+((UInt8.ofNat (48+u)).toNat-48)=u;rw[ZN h];omega
   .intro h0 e;have h1:=congrArg UInt8.toNat (Option.some.inj e);rw[ZN h]at h1;have h2:(48:UInt8).toNat=48:=rfl;omega
  .rw[decb h];obtain⟨i1,i2,i3,i4⟩:=ih (u/10) (by omega);refine⟨by rw[List.all_append,i1,List.all_cons,AT6 (Nat.mod_lt u (by decide:0<10)),List.all_nil];rfl,?_,by simp,?_⟩
   .rw[pF,i2,ZN (Nat.mod_lt u (by decide))];omega
   .intro _;have i5:=i4 (by omega)
    cases hd:EJ (u/10)with
    |nil=>rw[hd]at i3;simp at i3
    |cons c r=>rw[hd]at i5;simpa using i5
theorem iO(k:Nat):∀u,u<10^(k+1)->(EJ u).length<=k+1:=by
 induction k with
 |zero=>intro u hu;rw[CM0 (by simpa using hu)];simp
 |succ k ih=>
  intro u hu;by_cases h:u<10
  .rw[CM0 h];simp
  .rw[decb h];have:=ih (u/10) (by rw[Nat.pow_succ]at hu;omega);simp;omega
theorem BW4(h:1<(EJ u).length):u≠0:=by
 rintro rfl;rw[CM0 (by decide)]at h;simp at h
theorem A64(h:u<10000000000):OQ (EJ u)=true:=by
 obtain⟨i1,i2,i3,i4⟩:=iM u;exact iL.2 ⟨i3,iO 9 u h,fun hl=>i4 (BW4 hl),i1⟩
def VE(l:List UInt8):List UInt8:=l.takeWhile (fun c=>c !=46)
def VF(l:List UInt8):List UInt8:=(l.dropWhile (fun c=>c !=46)).drop 1
theorem AT7{a b:List UInt8}(h:∀c∈a,c≠46):VE (a++46::b)=a/\VF (a++46::b)=b:=by
 have hp:∀c∈a,(c !=46)=true:=fun c hc=>by simpa using h c hc
 constructor
 .rw[VE,List.takeWhile_append_of_pos hp];simp
 .rw[VF,List.dropWhile_append_of_pos hp];simp
theorem BD2(h:∀c∈l,c≠46):VE l=l/\VF l=[]:=by
 have hp:∀c∈l,(c !=46)=true:=fun c hc=>by simpa using h c hc
 constructor
 .have:=List.takeWhile_append_of_pos (l₂:=[]) hp;rw[VE];simpa using this
 .have:=List.dropWhile_append_of_pos (l₂:=[]) hp;rw[VF];simp at this;rw[this];rfl
theorem AT8(l:List UInt8):(∀c∈l,c≠46)\/∃a b,l=a++46::b/\∀c∈a,c≠46:=by
 induction l with
 |nil=>exact .inl (by simp)
 |cons x l ih=>
  by_cases hx:x=46
  .subst hx;exact .inr ⟨[],l,rfl,by simp⟩
  .rcases ih with h|⟨a,b,rfl,h⟩
   .exact .inl (by simpa [hx]using h)
   .exact .inr ⟨x::a,b,rfl,by simpa [hx]using h⟩
theorem BW5(h:l.all isD=true):∀c∈l,c≠46:=by
 intro c hc e;subst e;exact absurd (List.all_eq_true.1 h 46 hc) (by decide)
def eY(l:List UInt8):Int:=if OQ (VE l)&&OQ (VF l)then KU (num (VE l)) (num (VF l))else 0
def iP(l:List UInt8):Int:=if OQ (VE l)&&OQ (VF l)then NG (num (VE l)) (num (VF l))else 2
theorem pG(h:OQ (VE l)=false\/OQ (VF l)=false):eY l=0/\iP l=2:=by
 rcases h with h|h<;>simp[eY,iP,h]
theorem tZ(h:OQ (VE l)=true)(h':OQ (VF l)=true):eY l=KU (num (VE l)) (num (VF l))/\iP l=NG (num (VE l)) (num (VF l)):=by
 simp[eY,iP,h,h']
def QF(z:Int):List UInt8:=if KH z then EJ (z/2147483648).toNat++46::EJ (z%2147483648).toNat else []
def dO(z:Int):Int:=if KH z then 0 else 3
theorem A65(h:KH z=false):QF z=[]/\dO z=3:=by simp[QF,dO,h]
theorem iQ(h:KH z=true):QF z=EJ (z/2147483648).toNat++46::EJ (z%2147483648).toNat/\dO z=0:=by simp[QF,dO,h]
theorem AT9(h:KH z=true):eY (QF z)=z/\iP (QF z)=0:=by
 have hz:=LX.1 h;obtain⟨i1,i2,_,_⟩:=iM (z/2147483648).toNat;obtain⟨_,j2,_,_⟩:=iM (z%2147483648).toNat;obtain⟨c1,c2⟩:=AT7 (b:=EJ (z%2147483648).toNat) (BW5 i1);rw[(iQ h).1];obtain⟨r1,r2⟩:=tZ (l:=EJ (z/2147483648).toNat++46::EJ (z%2147483648).toNat) (by rw[c1];exact A64 (by omega)) (by rw[c2];exact A64 (by omega));rw[r1,r2,c1,c2,i2,j2];obtain⟨m1,m2⟩:=TP (e:=((z/2147483648).toNat:Int)) (c:=((z%2147483648).toNat:Int)) (PD.2 (by omega)) (PD.2 (by omega));rw[m1,m2,Int.toNat_of_nonneg (by omega),Int.toNat_of_nonneg (by omega)];exact⟨by omega,rfl⟩
theorem RZ{a b:Bool}(h:a=b):DV (.bool a)=.returned (.bool b):=by rw[h]
theorem JG(z:Int)(w:FU):
  FW prog 92 #[I0 z] w fun e w'=>e=.returned (.bool (KH z))/\w'=w:=by
 go_enter func92,ntmps92
 go_wp2
 go_ret;exact⟨RZ (by rw[Bool.eq_iff_iff,LX,beq_iff_eq];omega),rfl⟩
theorem U8(e c:Int)(w:FU):
  FW prog 91 #[I0 e,I0 c] w fun x w'=>x=.returned (.tuple #[I0 (KU e c),I0 (NG e c)])/\w'=w:=by
 by_cases h1:e<0
 .have H:=G6 (fD (e:=e) (c:=c) (.inl (A39 (by omega))));go_enter func91,ntmps91
  go_wp2
  go_ret2
  exact⟨OU (G5 H).1.symm (G5 H).2.symm,rfl⟩
 by_cases h2:2147483647<e
 .have H:=G6 (fD (e:=e) (c:=c) (.inl (A39 (by omega))));go_enter func91,ntmps91
  go_wp2
  go_ret2
  exact⟨OU (G5 H).1.symm (G5 H).2.symm,rfl⟩
 by_cases h3:c<0
 .have H:=G6 (fD (e:=e) (c:=c) (.inr (A39 (by omega))));go_enter func91,ntmps91
  go_wp2
  go_ret2
  exact⟨OU (G5 H).1.symm (G5 H).2.symm,rfl⟩
 by_cases h4:2147483647<c
 .have H:=G6 (fD (e:=e) (c:=c) (.inr (A39 (by omega))));go_enter func91,ntmps91
  go_wp2
  go_ret2
  exact⟨OU (G5 H).1.symm (G5 H).2.symm,rfl⟩
 have H:=G6 (TP (e:=e) (c:=c) (PD.2 (by omega)) (PD.2 (by omega)));go_enter func91,ntmps91
 go_wp2
 go_ret2
 exact⟨OU ((BU0 (by omega) (by omega) (by omega) (by omega)).trans (G5 H).1.symm) (G5 H).2.symm,rfl⟩
theorem PS(z:Int)(w:FU):
  FW prog 61 #[I0 z] w fun e w'=>e=.returned (I0 (IW z))/\w'=w:=by
 cases hg:KH z
 .have H:=G6 (sD hg);have Hg:=G6 hg;clear hg;go_enter func61,ntmps61;go_wp2_with fail;refine(JG z _).mono ?_;rintro e w1 ⟨rfl,rfl⟩;rw[G5 Hg];go_wp2_with fail;go_ret;exact⟨oJ (G5 H).symm,rfl⟩
 .have H:=G6 (LY hg);have Hg:=G6 hg;clear hg;go_enter func61,ntmps61;go_wp2_with fail;refine(JG z _).mono ?_;rintro e w1 ⟨rfl,rfl⟩;rw[G5 Hg];go_wp2_with fail;go_ret;exact⟨oJ (G5 H).symm,rfl⟩
theorem bY(z:Int)(w:FU):
  FW prog 161 #[I0 z] w fun e w'=>e=.returned (I0 (lM z))/\w'=w:=by
 cases hg:KH z
 .have H:=G6 (AO4 hg);have Hg:=G6 hg;clear hg;go_enter func161,ntmps161;go_wp2_with fail;refine(JG z _).mono ?_;rintro e w1 ⟨rfl,rfl⟩;rw[G5 Hg];go_wp2_with fail;go_ret;exact⟨oJ (G5 H).symm,rfl⟩
 .have H:=G6 (XG hg);have Hg:=G6 hg;clear hg;go_enter func161,ntmps161;go_wp2_with fail;refine(JG z _).mono ?_;rintro e w1 ⟨rfl,rfl⟩;rw[G5 Hg];go_wp2_with fail;go_ret;have h:=LX.1 (G5 Hg);exact⟨oJ ((B94 h.1 h.2).trans (G5 H).symm),rfl⟩
theorem AJ7(s:ByteArray):s.data.toList.length=s.size:=by simp
theorem RG{i j:Int}{a b:Bool}(h:i=j)(h':a=b):DV (.tuple #[.int .i64 i,.bool a])=.returned (.tuple #[.int .i64 j,.bool b]):=by rw[h,h']
theorem CO6(s:ByteArray)(h:0<s.size):s.data.toList.head?=some s[0]:=by
 rw[List.head?_eq_getElem?,List.getElem?_eq_getElem (by simpa using h)];rfl
theorem A90(s:ByteArray)(k:Nat)(h:k<s.size):num (s.data.toList.take (k+1))=10*num (s.data.toList.take k)+(s[k].toNat-48):=by
 rw[gQ s k h,pF]
theorem vM(s:ByteArray)(k:Nat)(h:k<10)(ha:(s.data.toList.take k).all isD=true):num (s.data.toList.take k)<1000000000:=by
 have h1:=CB1 _ ha;have h2:(s.data.toList.take k).length<=9:=by rw[List.length_take];omega
 have h3:10^(s.data.toList.take k).length<=10^9:=Nat.pow_le_pow_right (by decide) h2;have h4:(10:Nat)^9=1000000000:=by decide
 omega
theorem XU(s:ByteArray)(w:FU)(hs:s.size<=140737488355328):
  FW prog 90 #[.string s] w fun e w'=>e=.returned (.tuple #[.int .i64 (iK s.data.toList),.bool (OQ s.data.toList)])/\w'=w:=by
 have hz:=AJ7 s;by_cases h1:s.size<1
 .have hp:OQ s.data.toList=false:=fK (by omega);have H:=G6 hp;clear hp;go_enter func90,ntmps90
  go_wp2
  go_ret2
  exact⟨RG (QY (G5 H)).symm (G5 H).symm,rfl⟩
 by_cases h2:10<s.size
 .have hp:OQ s.data.toList=false:=fK (by omega);have H:=G6 hp;clear hp;go_enter func90,ntmps90
  go_wp2
  go_ret2
  exact⟨RG (QY (G5 H)).symm (G5 H).symm,rfl⟩
 have hhd:=CO6 s (by omega);have h0:0<s.size:=by omega
 by_cases h3:1<s.size/\s[0]=48
 .have hp:OQ s.data.toList=false:=fK (by
   rintro⟨_,_,h,_⟩;exact h (by omega) (by rw[hhd,h3.2]))
  have H:=G6 hp;have h4:((s[0].toNat:Int)==48)=true:=by rw[h3.2];rfl
  have h5:=h3.1;clear hp h3 hhd;go_enter func90,ntmps90
  go_wp2
  go_ret2
  exact⟨RG (QY (G5 H)).symm (G5 H).symm,rfl⟩
 have Hok:Hid (s.data.toList.all isD=true->OQ s.data.toList=true):=G6 (fun h=>iL.2 ⟨by omega,by omega,fun hl e=>h3 ⟨by omega,by rw[hhd]at e;exact Option.some.inj e⟩,h⟩);have Hno:Hid (s.data.toList.all isD=false->OQ s.data.toList=false):=G6 (fun h=>fK (fun hh=>by rw[h]at hh;exact absurd hh.2.2.2 (by decide)));have h4:1<s.size->((s[0].toNat:Int)==48)=false:=fun hl=>by
  rw[beq_eq_false_iff_ne];intro e;exact h3 ⟨hl,UInt8.toNat_inj.1 (by show s[0].toNat=48;omega)⟩
 clear h3 hhd;by_cases h5:1<s.size
 .have h6:=h4 h5;clear h4;go_enter func90,ntmps90
  go_wp2
  clear h6
  go_loop [4,26] (fun n i=>∃k:Nat,k<=s.size/\i=.int .i64 k/\n=.int .i64 (num (s.data.toList.take k):Int)/\(s.data.toList.take k).all isD=true) (fun _ i=>s.size-(intOf i).toNat)
  case atStart=>exact⟨0,Nat.zero_le _,rfl,rfl,by simp⟩
  case round=>
   obtain⟨k,hk,rfl,rfl,hall⟩:=hrel;have yF:=G6 hall;by_cases hlt:k<s.size
   .have hsm:=vM s k (by omega) hall;have Hnt:=G6 (A90 s k hlt);clear hall;obtain⟨n,hn⟩:∃n,num (s.data.toList.take k)=n:=⟨_,rfl⟩;rw[hn]at hsm Hnt⊢;clear hn;by_cases hd:isD s[k]=true
    .have hd1:=(WA.1 hd).1;have hd2:=(WA.1 hd).2;have Hd:=G6 hd;clear hd
     go_wp2
     go_round
     case rel=>exact⟨k+1,by omega,by go_num,by rw[G5 Hnt];go_num,UK s k hlt isD (G5 yF) (G5 Hd)⟩
     case measure=>simp[intOf];omega
    .have hd':isD s[k]=false:=by simpa using hd
     have hp:=G5 Hno (bD s k hlt isD hd');have hq:s[k].toNat<48\/57<s[k].toNat:=by
      by_cases hc:48<=s[k].toNat/\s[k].toNat<=57
      .exact absurd (WA.2 hc) hd
      .omega
     have H:=G6 hp;clear hp hd hd';rcases hq with hq|hq
     .go_wp2
      go_ret2
      exact⟨RG (QY (G5 H)).symm (G5 H).symm,rfl⟩
     .go_wp2
      go_ret2
      exact⟨RG (QY (G5 H)).symm (G5 H).symm,rfl⟩
   .have hp:=G5 Hok (YH s k (by omega) isD hall);have H:=G6 hp;have hkk:s.data.toList.take k=s.data.toList:=BL (by omega);rw[hkk];clear hp hall yF hkk
    go_wp2
    go_ret2
    exact⟨RG (WC (G5 H)).symm (G5 H).symm,rfl⟩
 .clear h4;go_enter func90,ntmps90
  go_wp2
  go_loop [4,26] (fun n i=>∃k:Nat,k<=s.size/\i=.int .i64 k/\n=.int .i64 (num (s.data.toList.take k):Int)/\(s.data.toList.take k).all isD=true) (fun _ i=>s.size-(intOf i).toNat)
  case atStart=>exact⟨0,Nat.zero_le _,rfl,rfl,by simp⟩
  case round=>
   obtain⟨k,hk,rfl,rfl,hall⟩:=hrel;have yF:=G6 hall;by_cases hlt:k<s.size
   .have hsm:=vM s k (by omega) hall;have Hnt:=G6 (A90 s k hlt);clear hall;obtain⟨n,hn⟩:∃n,num (s.data.toList.take k)=n:=⟨_,rfl⟩;rw[hn]at hsm Hnt⊢;clear hn;by_cases hd:isD s[k]=true
    .have hd1:=(WA.1 hd).1;have hd2:=(WA.1 hd).2;have Hd:=G6 hd;clear hd
     go_wp2
     go_round
     case rel=>exact⟨k+1,by omega,by go_num,by rw[G5 Hnt];go_num,UK s k hlt isD (G5 yF) (G5 Hd)⟩
     case measure=>simp[intOf];omega
    .have hd':isD s[k]=false:=by simpa using hd
     have hp:=G5 Hno (bD s k hlt isD hd');have hq:s[k].toNat<48\/57<s[k].toNat:=by
      by_cases hc:48<=s[k].toNat/\s[k].toNat<=57
      .exact absurd (WA.2 hc) hd
      .omega
     have H:=G6 hp;clear hp hd hd';rcases hq with hq|hq
     .go_wp2
      go_ret2
      exact⟨RG (QY (G5 H)).symm (G5 H).symm,rfl⟩
     .go_wp2
      go_ret2
      exact⟨RG (QY (G5 H)).symm (G5 H).symm,rfl⟩
   .have hp:=G5 Hok (YH s k (by omega) isD hall);have H:=G6 hp;have hkk:s.data.toList.take k=s.data.toList:=BL (by omega);rw[hkk];clear hp hall yF hkk
    go_wp2
    go_ret2
    exact⟨RG (WC (G5 H)).symm (G5 H).symm,rfl⟩
theorem AZ6{a b:List UInt8}(h:∀c∈a,c≠46):EZ (a++46::b) 46=(a.length:Int):=by
 induction a with
 |nil=>rfl
 |cons x a ih=>
  have hx:(x==46)=false:=by simpa using h x (by simp)
  have ih':=ih (fun c hc=>h c (by simp[hc]));show EZ (x::(a++46::b)) 46=_;rw[EZ,if_neg (by simp[hx]),ih',if_neg (by simp)];simp
theorem AJ8(h:∀c∈l,c≠46):EZ l 46=-1:=by
 induction l with
 |nil=>rfl
 |cons x a ih=>
  have hx:(x==46)=false:=by simpa using h x (by simp)
  have ih':=ih (fun c hc=>h c (by simp[hc]));rw[EZ,if_neg (by simp[hx]),ih'];rfl
theorem BR9(h:a.data.toList=l):a=⟨l.toArray⟩:=by rw[<-h]
theorem AZ7(a b:List UInt8):(AQ (a++46::b).toArray).extract 0 a.length=⟨a.toArray⟩:=by
 apply BR9
 rw[<-Lib.toList_data,Lib.extract_toList];show ((a++46::b).drop 0).take (a.length-0)=a;simp
theorem BI0(a b:List UInt8)(n:Nat)(hn:n=(a++46::b).length):(AQ (a++46::b).toArray).extract (a.length+1) n=⟨b.toArray⟩:=by
 subst hn
 apply BR9
 rw[<-Lib.toList_data,Lib.extract_toList];show ((a++46::b).drop (a.length+1)).take ((a++46::b).length-(a.length+1))=b;rw[show (a++46::b).drop (a.length+1)=b from by simp];exact BL (by simp;omega)
theorem AZ8{b c d:ByteArray}{x:Bool}(h:a=b)(h':c=d):DV (.tuple #[.string a,.string c,.bool x])=.returned (.tuple #[.string b,.string d,.bool x]):=by rw[h,h']
theorem A03(l:List UInt8)(w:FU)(hl:l.length<=140737488355328):
  FW prog 126 #[.string ⟨l.toArray⟩,.string ⟨#[46]⟩] w fun e w'=>∃b,e=.returned (.tuple #[.string ⟨(VE l).toArray⟩,.string ⟨(VF l).toArray⟩,.bool b])/\Below w.heap.size w w':=by
 have hz:(AQ l.toArray).size=l.length:=DK ⟨l.toArray⟩;rcases AT8 l with hd|⟨a,b,rfl,hd⟩
 .have H:=G6 (BD2 hd);have HI:=G6 (AJ8 hd);clear hd;go_enter func126,ntmps126;go_wp2_with fail;refine(stringslite_Index_one ⟨l.toArray⟩ 46 _).mono ?_;rintro e w1 ⟨rfl,rfl⟩;rw[show EZ (AQ l.toArray).data.toList 46=-1 from G5 HI];go_wp2_with fail
  go_ret3
  exact⟨_,AZ8 (by rw[(G5 H).1]) (by rw[(G5 H).2]),Below.refl _ _⟩
 .have H:=G6 (AT7 (b:=b) hd);have HI:=G6 (AZ6 (b:=b) hd);have hlen:(a++46::b).length=a.length+1+b.length:=by simp;omega
  rw[hlen]at hz hl;have HL:=G6 hlen;have H1:=G6 (AZ7 a b);have H2:=G6 (BI0 a b _ rfl);clear hd hlen;obtain⟨S,hS⟩:∃S,(AQ (a++46::b).toArray)=S:=⟨_,rfl⟩;rw[hS]at hz H1 H2⊢;have HI':Hid (EZ S.data.toList 46=(a.length:Int)):=G6 (by rw[<-hS];exact G5 HI);have HE:Hid (S.extract (a.length+1) (a.length+1+b.length)=⟨b.toArray⟩):=G6 (by rw[<-G5 HL];exact G5 H2);clear hS HI H2;have c1:(0:Int)<=(a.length:Int):=by omega
  have c2:(a.length:Int)<=(S.size:Int):=by omega
  have c3:(0:Int)<=(a.length:Int)+1:=by omega
  have c4:(a.length:Int)+1<=(S.size:Int):=by omega
  go_enter func126,ntmps126;go_wp2_with fail;refine(stringslite_Index_one S 46 _).mono ?_;rintro e w1 ⟨rfl,rfl⟩;rw[G5 HI'];go_wp2_with fail;go_region
  go_wp2
  go_ret3
  exact⟨_,AZ8 (by rw[(G5 H).1];exact G5 H1) (by rw[(G5 H).2];exact G5 HE),(Below.refl _ _).drew⟩
theorem A04(l:List UInt8)(w:FU)(hl:l.length<=140737488355328):
  FW prog 89 #[.string ⟨l.toArray⟩,.string ⟨#[46]⟩] w fun e w'=>∃b,e=.returned (.tuple #[.string ⟨(VE l).toArray⟩,.string ⟨(VF l).toArray⟩,.bool b])/\Below w.heap.size w w':=by
 go_enter func89,ntmps89;go_wp2_with fail;refine(A03 l _ hl).mono ?_;rintro e w1 ⟨b,rfl,hb1⟩;go_wp2_with fail
 go_ret3
 exact⟨_,rfl,hb1⟩
theorem BZ2(l:List UInt8):(VE l).length<=l.length/\(VF l).length<=l.length:=by
 constructor
 .exact(List.takeWhile_prefix _).length_le
 .rw[VF,List.length_drop];have:=(List.dropWhile_suffix (l:=l) (fun c=>c !=46)).length_le;omega
theorem AZ9(l:List UInt8)(w:FU)(hl:l.length<=140737488355328):
  FW prog 60 #[.string ⟨l.toArray⟩] w fun e w'=>e=.returned (.tuple #[.int .i64 (eY l),.int .i64 (iP l)])/\Below w.heap.size w w':=by
 have hc:=BZ2 l;have c1:=hc.1;have c2:=hc.2;clear hc
 cases h1:OQ (VE l)
 .have H:=G6 (pG (.inl h1));have HA:Hid (iK (VE l)=0/\OQ (VE l)=false):=G6 ⟨QY h1,h1⟩;clear h1;go_enter func60,ntmps60;go_wp2_with fail;refine(A04 l _ hl).mono ?_;rintro e w1 ⟨b,rfl,hb1⟩;go_wp2_with fail;refine(XU ⟨(VE l).toArray⟩ _ (by rw[DK];show (VE l).length<=_;omega)).mono ?_;rintro e w2 ⟨rfl,rfl⟩;rw[show (AQ (VE l).toArray).data.toList=VE l from rfl,(G5 HA).1,(G5 HA).2];go_wp2_with fail;refine(XU ⟨(VF l).toArray⟩ _ (by rw[DK];show (VF l).length<=_;omega)).mono ?_;rintro e w2 ⟨rfl,rfl⟩;rw[show (AQ (VF l).toArray).data.toList=VF l from rfl];obtain⟨B,hB⟩:∃B,OQ (VF l)=B:=⟨_,rfl⟩;obtain⟨M,hM⟩:∃M,iK (VF l)=M:=⟨_,rfl⟩;rw[hB,hM];clear hB hM HA;go_wp2_with fail
  go_ret2
  exact⟨OU (G5 H).1.symm (G5 H).2.symm,hb1⟩
 cases h2:OQ (VF l)
 .have H:=G6 (pG (.inr h2));have HA:Hid (iK (VE l)=num (VE l)/\OQ (VE l)=true):=G6 ⟨WC h1,h1⟩;have HZ:Hid (iK (VF l)=0/\OQ (VF l)=false):=G6 ⟨QY h2,h2⟩;clear h1 h2;go_enter func60,ntmps60;go_wp2_with fail;refine(A04 l _ hl).mono ?_;rintro e w1 ⟨b,rfl,hb1⟩;go_wp2_with fail;refine(XU ⟨(VE l).toArray⟩ _ (by rw[DK];show (VE l).length<=_;omega)).mono ?_;rintro e w2 ⟨rfl,rfl⟩;rw[show (AQ (VE l).toArray).data.toList=VE l from rfl,(G5 HA).1,(G5 HA).2];go_wp2_with fail;refine(XU ⟨(VF l).toArray⟩ _ (by rw[DK];show (VF l).length<=_;omega)).mono ?_;rintro e w2 ⟨rfl,rfl⟩;rw[show (AQ (VF l).toArray).data.toList=VF l from rfl,(G5 HZ).1,(G5 HZ).2];go_wp2_with fail
  go_ret2
  exact⟨OU (G5 H).1.symm (G5 H).2.symm,hb1⟩
 have H:=G6 (tZ h1 h2);have HA:Hid (iK (VE l)=num (VE l)/\OQ (VE l)=true):=G6 ⟨WC h1,h1⟩;have HZ:Hid (iK (VF l)=num (VF l)/\OQ (VF l)=true):=G6 ⟨WC h2,h2⟩;clear h1 h2;go_enter func60,ntmps60;go_wp2_with fail;refine(A04 l _ hl).mono ?_;rintro e w1 ⟨b,rfl,hb1⟩;go_wp2_with fail;refine(XU ⟨(VE l).toArray⟩ _ (by rw[DK];show (VE l).length<=_;omega)).mono ?_;rintro e w2 ⟨rfl,rfl⟩;rw[show (AQ (VE l).toArray).data.toList=VE l from rfl,(G5 HA).1,(G5 HA).2];go_wp2_with fail;refine(XU ⟨(VF l).toArray⟩ _ (by rw[DK];show (VF l).length<=_;omega)).mono ?_;rintro e w2 ⟨rfl,rfl⟩;rw[show (AQ (VF l).toArray).data.toList=VF l from rfl,(G5 HZ).1,(G5 HZ).2];go_wp2_with fail;refine(U8 _ _ _).mono ?_;rintro e w3 ⟨rfl,rfl⟩;obtain⟨X,hX⟩:∃X,KU (num (VE l)) (num (VF l))=X:=⟨_,rfl⟩;obtain⟨E,hE⟩:∃E,NG (num (VE l)) (num (VF l))=E:=⟨_,rfl⟩;rw[hX,hE];rw[hX,hE]at H;clear hX hE HA HZ;go_wp2_with fail
 go_ret2
 exact⟨OU (G5 H).1.symm (G5 H).2.symm,hb1⟩
theorem jP(w:FU)(k:Nat)(os:Array Obj):B0 w (Sort.grow (w.drewN k) os):=
 ⟨rfl,rfl,rfl,by simp[Sort.grow,World.drewN],fun i hi=>by simp[Sort.grow,World.drewN,Array.getElem?_append_left hi]⟩
theorem vS{b:ByteArray}{i j:Int}(h:a=b)(h':i=j):DV (.tuple #[.string a,I0 i])=.returned (.tuple #[.string b,I0 j]):=by rw[h,h']
theorem A09{w1 w2:FU}(h:B0 w w1)(h':B0 w1 w2):B0 w w2:=h.trans (h'.mono h.size)
theorem BI7(d m:List UInt8):(AQ d.toArray)++(AQ #[46])++(AQ m.toArray)=⟨(d++46::m).toArray⟩:=by
 apply ByteArray.ext
 simp[ByteArray.data_append]
theorem B15:prog.globalNamed "internal/strconv.uint64pow10" =some 1:=by kernel_rfl
theorem B16(htab:Lib.TabIs prog w "internal/strconv.uint64pow10" .u64 Lib.pow10Tab):1<w.heap.size:=by
 have hc:=htab.cell B15 0 (by decide);unfold World.cell? at hc
 cases ho:w.heap[1]? with
 |none=>simp[ho]at hc
 |some o=>exact(Array.getElem?_eq_some_iff.1 ho).1
theorem vT{w':FU}(htab:Lib.TabIs prog w "internal/strconv.uint64pow10" .u64 Lib.pow10Tab)(hb:B0 w w'):Lib.TabIs prog w' "internal/strconv.uint64pow10" .u64 Lib.pow10Tab:=
 var?_below hb B15 (B16 htab) htab
theorem jQ(z:Int)(w:FU)(htab:Lib.TabIs prog w "internal/strconv.uint64pow10" .u64 Lib.pow10Tab):
  FW prog 146 #[I0 z] w (R0 w (.tuple #[S0 (QF z),I0 (dO z)])):=by
 cases hg:KH z
 .have H:=G6 (A65 hg);have Hg:=G6 hg;clear hg htab;go_enter func146,ntmps146;go_wp2_with fail;refine(JG z _).mono ?_;rintro e w1 ⟨rfl,rfl⟩;rw[G5 Hg];go_wp2_with fail
  go_ret2
  exact⟨vS (by rw[(G5 H).1]) (G5 H).2.symm,Below.refl _ _⟩
 have hz:=LX.1 hg;have H:=G6 (iQ hg);have Hg:=G6 hg;have q0:(z/2147483648)=((z/2147483648).toNat:Int):=by omega
 have r0:(z%2147483648)=((z%2147483648).toNat:Int):=by omega
 obtain⟨q,hq⟩:∃q,(z/2147483648).toNat=q:=⟨_,rfl⟩;obtain⟨r,hr⟩:∃r,(z%2147483648).toNat=r:=⟨_,rfl⟩;have q1:q<2147483648:=by omega
 have r1:r<2147483648:=by omega
 rw[hq]at q0;rw[hr]at r0;rw[hq,hr]at H;have Ez:Hid (IW z=(q:Int)):=G6 (by rw[LY hg];exact q0);have Cz:Hid (lM z=(r:Int)):=G6 (by rw[XG hg];exact r0);have Htab:=G6 htab;have Hiq:=G6 (Lib.itoa_nonneg q);have Hir:=G6 (Lib.itoa_nonneg r);have lq:=iO 9 q (by omega);have lr:=iO 9 r (by omega);clear hg hz q0 r0 hq hr htab;go_enter func146,ntmps146;go_wp2_with fail;refine(JG z _).mono ?_;rintro e w1 ⟨rfl,rfl⟩;rw[G5 Hg];go_wp2_with fail;refine(PS z _).mono ?_;rintro e w2 ⟨rfl,rfl⟩;rw[G5 Ez];go_wp2_with fail;refine(strconv_Itoa _ (by omega) (by omega) _ (G5 Htab)).mono ?_;rintro e w3 ⟨rfl,k,os,hw3⟩;have hb3:B0 w2 w3:=by rw[hw3];exact jP w2 k os
 clear hw3;rw[G5 Hiq];obtain⟨D,hD⟩:∃D,EJ q=D:=⟨_,rfl⟩;rw[hD]at lq H⊢;clear hD;go_wp2_with fail;refine(bY z _).mono ?_;rintro e w4 ⟨rfl,rfl⟩;rw[G5 Cz];go_wp2_with fail;refine(strconv_Itoa _ (by omega) (by omega) _ (vT (G5 Htab) hb3)).mono ?_;rintro e w5 ⟨rfl,k,os,hw5⟩;have hb5:B0 w2 w5:=A09 hb3 (by rw[hw5];exact jP w4 k os);clear hw5;rw[G5 Hir];obtain⟨R,hR⟩:∃R,EJ r=R:=⟨_,rfl⟩;rw[hR]at lr H⊢;clear hR Hiq Hir Ez Cz Hg hb3;have zD:(AQ D.toArray).size=D.length:=DK ⟨D.toArray⟩;have zR:(AQ R.toArray).size=R.length:=DK ⟨R.toArray⟩;go_wp2_with fail
 go_ret2
 exact⟨vS (by rw[(G5 H).1];exact BI7 D R) (G5 H).2.symm,hb5⟩
theorem wH(z:Int)(w:FU):
  FW prog 127 #[I0 z] w fun e w'=>e=.returned (.tuple #[I0 (gU z),I0 (VO z)])/\w'=w:=by
 cases hg:KH z
 .have H:=G6 (AO5 hg);have Hg:=G6 hg;clear hg;go_enter func127,ntmps127;go_wp2_with fail;refine(JG z _).mono ?_;rintro e w1 ⟨rfl,rfl⟩;rw[G5 Hg];go_wp2_with fail
  go_ret2
  exact⟨OU (G5 H).1.symm (G5 H).2.symm,rfl⟩
 have hz:=LX.1 hg;have h0:=hz.1;have h1:=hz.2;clear hz
 cases hi:zIn (z%2147483648+1)
 .have H:=G6 (AD1 hg hi);have Hg:=G6 hg;have hf:(z%2147483648==2147483647)=true:=by
   rw[beq_iff_eq];have:=Int.emod_nonneg z (show (2147483648:Int)≠0 by decide);have:=Int.emod_lt_of_pos z (show (0:Int)<2147483648 by decide);by_cases h:z%2147483648=2147483647
   .exact h
   .rw[PD.2 (by omega)]at hi;exact absurd hi (by decide)
  clear hg hi;go_enter func127,ntmps127;go_wp2_with fail;refine(JG z _).mono ?_;rintro e w1 ⟨rfl,rfl⟩;rw[G5 Hg];go_wp2_with fail;refine(bY z _).mono ?_;rintro e w2 ⟨rfl,rfl⟩;rw[XG (G5 Hg)];go_wp2_with fail
  go_ret2
  exact⟨OU (G5 H).1.symm (G5 H).2.symm,rfl⟩
 .have H:=G6 (oI hg hi);have Hg:=G6 hg;have hf:(z%2147483648==2147483647)=false:=by
   rw[beq_eq_false_iff_ne];have:=(PD.1 hi).2;omega
  clear hg hi;go_enter func127,ntmps127;go_wp2_with fail;refine(JG z _).mono ?_;rintro e w1 ⟨rfl,rfl⟩;rw[G5 Hg];go_wp2_with fail;refine(bY z _).mono ?_;rintro e w2 ⟨rfl,rfl⟩;rw[XG (G5 Hg)];go_wp2_with fail
  go_ret2
  exact⟨OU (G5 H).1.symm (G5 H).2.symm,rfl⟩
