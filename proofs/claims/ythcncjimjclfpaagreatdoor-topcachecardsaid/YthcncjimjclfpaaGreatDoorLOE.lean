/-
  Part.
-/
import Derived.Test.YthcncjimjclfpaaGreatDoorLOA
import Derived.Test.YthcncjimjclfpaaGreatDoorRows
import Derived.WalkSpells
import Derived.WalkLawsBesides
import Derived.Test.YthcncjimjclfpaaGreatDoorShelf
set_option maxRecDepth 20000
set_option maxHeartbeats 8000000
namespace Go.Proofs.YthcncjimjclfpaaGreatDoor
open Go.RowKit Go.Proofs.Tryz
open _root_.ByteArray renaming mk->AQ
open _root_.List renaming take_of_length_le->BL
open Go.Lib renaming size_eq->DK,decDigits->EJ,indexByte->EZ
open Go.Ending renaming returned->DV
open Go renaming World->FU,Calls->FW
variable{l:List UInt8}{u:Nat}{a:ByteArray}{z:Int}{w:FU}
def isD(c:UInt8):Bool:=decide (48<=c.toNat)&&decide (c.toNat<=57)
theorem WR{c:UInt8}:isD c=true↔48<=c.toNat/\c.toNat<=57:=by simp[isD]
def num(l:List UInt8):Nat:=l.foldl (fun n c=>10*n+(c.toNat-48)) 0
theorem qM(l:List UInt8)(c:UInt8):num (l++[c])=10*num l+(c.toNat-48):=by simp[num]
theorem AJ6(l:List UInt8):l=[]\/∃a c,l=a++[c]:=by
 cases h:l.reverse with
 |nil=>exact .inl (by simpa using h)
 |cons c r=>exact .inr ⟨r.reverse,c,by have:=congrArg List.reverse h;simpa using this⟩
theorem CI9(l:List UInt8)(h:l.all isD=true):num l<10^l.length:=by
 obtain⟨n,hn⟩:∃n,l.length=n:=⟨_,rfl⟩
 induction n generalizing l with
 |zero=>rw[List.length_eq_zero_iff.1 hn];decide
 |succ n ih=>
  rcases AJ6 l with rfl|⟨a,c,rfl⟩
  .simp at hn
  .simp only[List.all_append,Bool.and_eq_true,List.all_cons,List.all_nil,Bool.and_true]at h;have h1:=ih a h.1 (by simpa using hn);have h2:=WR.1 h.2;rw[qM,List.length_append,List.length_singleton,Nat.pow_succ];omega
def OU(l:List UInt8):Bool:=decide (1<=l.length)&&decide (l.length<=10)&& !(decide (1<l.length)&&l.head?==some 48)&&l.all isD
def jM(l:List UInt8):Int:=if OU l then(num l:Int)else 0
theorem WS(h:OU l=true):jM l=num l:=by rw[jM,if_pos h]
theorem RP(h:OU l=false):jM l=0:=by rw[jM,h];rfl
theorem jO:OU l=true↔1<=l.length/\l.length<=10/\(1<l.length->l.head? ≠some 48)/\l.all isD=true:=by
 simp only[OU,Bool.and_eq_true,decide_eq_true_eq,Bool.not_eq_true',Bool.and_eq_false_imp,beq_eq_false_iff_ne,ne_eq];constructor
 .rintro⟨⟨⟨a,b⟩,c⟩,d⟩;exact⟨a,b,c,d⟩
 .rintro⟨a,b,c,d⟩;exact⟨⟨⟨a,b⟩,c⟩,d⟩
theorem iG(h:¬ (1<=l.length/\l.length<=10/\(1<l.length->l.head? ≠some 48)/\l.all isD=true)):OU l=false:=by
 cases hp:OU l with
 |false=>rfl
 |true=>exact absurd (jO.1 hp) h
theorem CT6(h:u<10):EJ u=[UInt8.ofNat (48+u)]:=by rw[EJ,dif_pos h]
theorem decb(h:¬u<10):EJ u=EJ (u/10)++[UInt8.ofNat (48+u%10)]:=by rw[EJ,dif_neg h]
theorem aH{d:Nat}(h:d<10):(UInt8.ofNat (48+d)).toNat=48+d:=by rw[UInt8.toNat_ofNat'];omega
theorem AY5{d:Nat}(h:d<10):isD (UInt8.ofNat (48+d))=true:=WR.2 (by rw[aH h];omega)
theorem jP(u:Nat):(EJ u).all isD=true/\num (EJ u)=u/\1<=(EJ u).length/\(u≠0->(EJ u).head? ≠some 48):=by
 induction u using Nat.strongRecOn with
 |_ u ih=>
  by_cases h:u<10
  .rw[CT6 h];refine⟨by rw[List.all_cons,List.all_nil,AY5 h];rfl,?_,by simp,?_⟩
   .show 10*0+((UInt8.ofNat (48+u)).toNat-48)=u;rw[aH h];omega
   .intro h0 e;have h1:=congrArg UInt8.toNat (Option.some.inj e);rw[aH h]at h1;have h2:(48:UInt8).toNat=48:=rfl;omega
  .rw[decb h];obtain⟨i1,i2,i3,i4⟩:=ih (u/10) (by omega);refine⟨by rw[List.all_append,i1,List.all_cons,AY5 (Nat.mod_lt u (by decide:0<10)),List.all_nil];rfl,?_,by simp,?_⟩
   .rw[qM,i2,aH (Nat.mod_lt u (by decide))];omega
   .intro _;have i5:=i4 (by omega)
    cases hd:EJ (u/10)with
    |nil=>rw[hd]at i3;simp at i3
    |cons c r=>rw[hd]at i5;simpa using i5
theorem jQ(k:Nat):∀u,u<10^(k+1)->(EJ u).length<=k+1:=by
 induction k with
 |zero=>intro u hu;rw[CT6 (by simpa using hu)];simp
 |succ k ih=>
  intro u hu;by_cases h:u<10
  .rw[CT6 h];simp
  .rw[decb h];have:=ih (u/10) (by rw[Nat.pow_succ]at hu;omega);simp;omega
theorem C33(h:1<(EJ u).length):u≠0:=by
 rintro rfl;rw[CT6 (by decide)]at h;simp at h
theorem AA0(h:u<10000000000):OU (EJ u)=true:=by
 obtain⟨i1,i2,i3,i4⟩:=jP u;exact jO.2 ⟨i3,jQ 9 u h,fun hl=>i4 (C33 hl),i1⟩
def VP(l:List UInt8):List UInt8:=l.takeWhile (fun c=>c !=46)
def VQ(l:List UInt8):List UInt8:=(l.dropWhile (fun c=>c !=46)).drop 1
theorem AY6{a b:List UInt8}(h:∀c∈a,c≠46):VP (a++46::b)=a/\VQ (a++46::b)=b:=by
 have hp:∀c∈a,(c !=46)=true:=fun c hc=>by simpa using h c hc
 constructor
 .rw[VP,List.takeWhile_append_of_pos hp];simp
 .rw[VQ,List.dropWhile_append_of_pos hp];simp
theorem BJ2(h:∀c∈l,c≠46):VP l=l/\VQ l=[]:=by
 have hp:∀c∈l,(c !=46)=true:=fun c hc=>by simpa using h c hc
 constructor
 .have:=List.takeWhile_append_of_pos (l₂:=[]) hp;rw[VP];simpa using this
 .have:=List.dropWhile_append_of_pos (l₂:=[]) hp;rw[VQ];simp at this;rw[this];rfl
theorem AY7(l:List UInt8):(∀c∈l,c≠46)\/∃a b,l=a++46::b/\∀c∈a,c≠46:=by
 induction l with
 |nil=>exact .inl (by simp)
 |cons x l ih=>
  by_cases hx:x=46
  .subst hx;exact .inr ⟨[],l,rfl,by simp⟩
  .rcases ih with h|⟨a,b,rfl,h⟩
   .exact .inl (by simpa [hx]using h)
   .exact .inr ⟨x::a,b,rfl,by simpa [hx]using h⟩
theorem C34(h:l.all isD=true):∀c∈l,c≠46:=by
 intro c hc e;subst e;exact absurd (List.all_eq_true.1 h 46 hc) (by decide)
def gQ(l:List UInt8):Int:=if OU (VP l)&&OU (VQ l)then L9 (num (VP l)) (num (VQ l))else 0
def jR(l:List UInt8):Int:=if OU (VP l)&&OU (VQ l)then NT (num (VP l)) (num (VQ l))else 2
theorem qN(h:OU (VP l)=false\/OU (VQ l)=false):gQ l=0/\jR l=2:=by
 rcases h with h|h<;>simp[gQ,jR,h]
theorem vI(h:OU (VP l)=true)(h':OU (VQ l)=true):gQ l=L9 (num (VP l)) (num (VQ l))/\jR l=NT (num (VP l)) (num (VQ l)):=by
 simp[gQ,jR,h,h']
def QK(z:Int):List UInt8:=if KL z then EJ (z/2147483648).toNat++46::EJ (z%2147483648).toNat else []
def fK(z:Int):Int:=if KL z then 0 else 3
theorem AA1(h:KL z=false):QK z=[]/\fK z=3:=by simp[QK,fK,h]
theorem jS(h:KL z=true):QK z=EJ (z/2147483648).toNat++46::EJ (z%2147483648).toNat/\fK z=0:=by simp[QK,fK,h]
theorem AY8(h:KL z=true):gQ (QK z)=z/\jR (QK z)=0:=by
 have hz:=LZ.1 h;obtain⟨i1,i2,_,_⟩:=jP (z/2147483648).toNat;obtain⟨_,j2,_,_⟩:=jP (z%2147483648).toNat;obtain⟨c1,c2⟩:=AY6 (b:=EJ (z%2147483648).toNat) (C34 i1);rw[(jS h).1];obtain⟨r1,r2⟩:=vI (l:=EJ (z/2147483648).toNat++46::EJ (z%2147483648).toNat) (by rw[c1];exact AA0 (by omega)) (by rw[c2];exact AA0 (by omega));rw[r1,r2,c1,c2,i2,j2];obtain⟨m1,m2⟩:=U1 (e:=((z/2147483648).toNat:Int)) (c:=((z%2147483648).toNat:Int)) (PK.2 (by omega)) (PK.2 (by omega));rw[m1,m2,Int.toNat_of_nonneg (by omega),Int.toNat_of_nonneg (by omega)];exact⟨by omega,rfl⟩
theorem SI{a b:Bool}(h:a=b):DV (.bool a)=.returned (.bool b):=by rw[h]
theorem JI(z:Int)(w:FU):
  FW prog 90 #[I0 z] w fun e w'=>e=.returned (.bool (KL z))/\w'=w:=by
 go_enter func90,ntmps90
 go_wp2
 go_ret;exact⟨SI (by rw[Bool.eq_iff_iff,LZ,beq_iff_eq];omega),rfl⟩
theorem UJ(e c:Int)(w:FU):
  FW prog 89 #[I0 e,I0 c] w fun x w'=>x=.returned (.tuple #[I0 (L9 e c),I0 (NT e c)])/\w'=w:=by
 by_cases h1:e<0
 .have H:=G6 (gW (e:=e) (c:=c) (.inl (A71 (by omega))));go_enter func89,ntmps89
  go_wp2
  go_ret2
  exact⟨OX (G5 H).1.symm (G5 H).2.symm,rfl⟩
 by_cases h2:2147483647<e
 .have H:=G6 (gW (e:=e) (c:=c) (.inl (A71 (by omega))));go_enter func89,ntmps89
  go_wp2
  go_ret2
  exact⟨OX (G5 H).1.symm (G5 H).2.symm,rfl⟩
 by_cases h3:c<0
 .have H:=G6 (gW (e:=e) (c:=c) (.inr (A71 (by omega))));go_enter func89,ntmps89
  go_wp2
  go_ret2
  exact⟨OX (G5 H).1.symm (G5 H).2.symm,rfl⟩
 by_cases h4:2147483647<c
 .have H:=G6 (gW (e:=e) (c:=c) (.inr (A71 (by omega))));go_enter func89,ntmps89
  go_wp2
  go_ret2
  exact⟨OX (G5 H).1.symm (G5 H).2.symm,rfl⟩
 have H:=G6 (U1 (e:=e) (c:=c) (PK.2 (by omega)) (PK.2 (by omega)));go_enter func89,ntmps89
 go_wp2
 go_ret2
 exact⟨OX ((C07 (by omega) (by omega) (by omega) (by omega)).trans (G5 H).1.symm) (G5 H).2.symm,rfl⟩
theorem PX(z:Int)(w:FU):
  FW prog 59 #[I0 z] w fun e w'=>e=.returned (I0 (IZ z))/\w'=w:=by
 cases hg:KL z
 .have H:=G6 (uH hg);have Hg:=G6 hg;clear hg;go_enter func59,ntmps59;go_wp2_with fail;refine(JI z _).mono ?_;rintro e w1 ⟨rfl,rfl⟩;rw[G5 Hg];go_wp2_with fail;go_ret;exact⟨qC (G5 H).symm,rfl⟩
 .have H:=G6 (MB hg);have Hg:=G6 hg;clear hg;go_enter func59,ntmps59;go_wp2_with fail;refine(JI z _).mono ?_;rintro e w1 ⟨rfl,rfl⟩;rw[G5 Hg];go_wp2_with fail;go_ret;exact⟨qC (G5 H).symm,rfl⟩
theorem dZ(z:Int)(w:FU):
  FW prog 159 #[I0 z] w fun e w'=>e=.returned (I0 (nH z))/\w'=w:=by
 cases hg:KL z
 .have H:=G6 (AT1 hg);have Hg:=G6 hg;clear hg;go_enter func159,ntmps159;go_wp2_with fail;refine(JI z _).mono ?_;rintro e w1 ⟨rfl,rfl⟩;rw[G5 Hg];go_wp2_with fail;go_ret;exact⟨qC (G5 H).symm,rfl⟩
 .have H:=G6 (XW hg);have Hg:=G6 hg;clear hg;go_enter func159,ntmps159;go_wp2_with fail;refine(JI z _).mono ?_;rintro e w1 ⟨rfl,rfl⟩;rw[G5 Hg];go_wp2_with fail;go_ret;have h:=LZ.1 (G5 Hg);exact⟨qC ((BF5 h.1 h.2).trans (G5 H).symm),rfl⟩
theorem AN8(s:ByteArray):s.data.toList.length=s.size:=by simp
theorem RU{i j:Int}{a b:Bool}(h:i=j)(h':a=b):DV (.tuple #[.int .i64 i,.bool a])=.returned (.tuple #[.int .i64 j,.bool b]):=by rw[h,h']
theorem CW5(s:ByteArray)(h:0<s.size):s.data.toList.head?=some s[0]:=by
 rw[List.head?_eq_getElem?,List.getElem?_eq_getElem (by simpa using h)];rfl
theorem AC6(s:ByteArray)(k:Nat)(h:k<s.size):num (s.data.toList.take (k+1))=10*num (s.data.toList.take k)+(s[k].toNat-48):=by
 rw[iR s k h,qM]
theorem wW(s:ByteArray)(k:Nat)(h:k<10)(ha:(s.data.toList.take k).all isD=true):num (s.data.toList.take k)<1000000000:=by
 have h1:=CI9 _ ha;have h2:(s.data.toList.take k).length<=9:=by rw[List.length_take];omega
 have h3:10^(s.data.toList.take k).length<=10^9:=Nat.pow_le_pow_right (by decide) h2;have h4:(10:Nat)^9=1000000000:=by decide
 omega
theorem YD(s:ByteArray)(w:FU)(hs:s.size<=140737488355328):
  FW prog 88 #[.string s] w fun e w'=>e=.returned (.tuple #[.int .i64 (jM s.data.toList),.bool (OU s.data.toList)])/\w'=w:=by
 have hz:=AN8 s;by_cases h1:s.size<1
 .have hp:OU s.data.toList=false:=iG (by omega);have H:=G6 hp;clear hp;go_enter func88,ntmps88
  go_wp2
  go_ret2
  exact⟨RU (RP (G5 H)).symm (G5 H).symm,rfl⟩
 by_cases h2:10<s.size
 .have hp:OU s.data.toList=false:=iG (by omega);have H:=G6 hp;clear hp;go_enter func88,ntmps88
  go_wp2
  go_ret2
  exact⟨RU (RP (G5 H)).symm (G5 H).symm,rfl⟩
 have hhd:=CW5 s (by omega);have h0:0<s.size:=by omega
 by_cases h3:1<s.size/\s[0]=48
 .have hp:OU s.data.toList=false:=iG (by
   rintro⟨_,_,h,_⟩;exact h (by omega) (by rw[hhd,h3.2]))
  have H:=G6 hp;have h4:((s[0].toNat:Int)==48)=true:=by rw[h3.2];rfl
  have h5:=h3.1;clear hp h3 hhd;go_enter func88,ntmps88
  go_wp2
  go_ret2
  exact⟨RU (RP (G5 H)).symm (G5 H).symm,rfl⟩
 have Hok:Hid (s.data.toList.all isD=true->OU s.data.toList=true):=G6 (fun h=>jO.2 ⟨by omega,by omega,fun hl e=>h3 ⟨by omega,by rw[hhd]at e;exact Option.some.inj e⟩,h⟩);have Hno:Hid (s.data.toList.all isD=false->OU s.data.toList=false):=G6 (fun h=>iG (fun hh=>by rw[h]at hh;exact absurd hh.2.2.2 (by decide)));have h4:1<s.size->((s[0].toNat:Int)==48)=false:=fun hl=>by
  rw[beq_eq_false_iff_ne];intro e;exact h3 ⟨hl,UInt8.toNat_inj.1 (by show s[0].toNat=48;omega)⟩
 clear h3 hhd;by_cases h5:1<s.size
 .have h6:=h4 h5;clear h4;go_enter func88,ntmps88
  go_wp2
  clear h6
  go_loop [4,26] (fun n i=>∃k:Nat,k<=s.size/\i=.int .i64 k/\n=.int .i64 (num (s.data.toList.take k):Int)/\(s.data.toList.take k).all isD=true) (fun _ i=>s.size-(intOf i).toNat)
  case atStart=>exact⟨0,Nat.zero_le _,rfl,rfl,by simp⟩
  case round=>
   obtain⟨k,hk,rfl,rfl,hall⟩:=hrel;have zJ:=G6 hall;by_cases hlt:k<s.size
   .have hsm:=wW s k (by omega) hall;have Hnt:=G6 (AC6 s k hlt);clear hall;obtain⟨n,hn⟩:∃n,num (s.data.toList.take k)=n:=⟨_,rfl⟩;rw[hn]at hsm Hnt⊢;clear hn;by_cases hd:isD s[k]=true
    .have hd1:=(WR.1 hd).1;have hd2:=(WR.1 hd).2;have Hd:=G6 hd;clear hd
     go_wp2
     go_round
     case rel=>exact⟨k+1,by omega,by go_num,by rw[G5 Hnt];go_num,UO s k hlt isD (G5 zJ) (G5 Hd)⟩
     case measure=>simp[intOf];omega
    .have hd':isD s[k]=false:=by simpa using hd
     have hp:=G5 Hno (dJ s k hlt isD hd');have hq:s[k].toNat<48\/57<s[k].toNat:=by
      by_cases hc:48<=s[k].toNat/\s[k].toNat<=57
      .exact absurd (WR.2 hc) hd
      .omega
     have H:=G6 hp;clear hp hd hd';rcases hq with hq|hq
     .go_wp2
      go_ret2
      exact⟨RU (RP (G5 H)).symm (G5 H).symm,rfl⟩
     .go_wp2
      go_ret2
      exact⟨RU (RP (G5 H)).symm (G5 H).symm,rfl⟩
   .have hp:=G5 Hok (YW s k (by omega) isD hall);have H:=G6 hp;have hkk:s.data.toList.take k=s.data.toList:=BL (by omega);rw[hkk];clear hp hall zJ hkk
    go_wp2
    go_ret2
    exact⟨RU (WS (G5 H)).symm (G5 H).symm,rfl⟩
 .clear h4;go_enter func88,ntmps88
  go_wp2
  go_loop [4,26] (fun n i=>∃k:Nat,k<=s.size/\i=.int .i64 k/\n=.int .i64 (num (s.data.toList.take k):Int)/\(s.data.toList.take k).all isD=true) (fun _ i=>s.size-(intOf i).toNat)
  case atStart=>exact⟨0,Nat.zero_le _,rfl,rfl,by simp⟩
  case round=>
   obtain⟨k,hk,rfl,rfl,hall⟩:=hrel;have zJ:=G6 hall;by_cases hlt:k<s.size
   .have hsm:=wW s k (by omega) hall;have Hnt:=G6 (AC6 s k hlt);clear hall;obtain⟨n,hn⟩:∃n,num (s.data.toList.take k)=n:=⟨_,rfl⟩;rw[hn]at hsm Hnt⊢;clear hn;by_cases hd:isD s[k]=true
    .have hd1:=(WR.1 hd).1;have hd2:=(WR.1 hd).2;have Hd:=G6 hd;clear hd
     go_wp2
     go_round
     case rel=>exact⟨k+1,by omega,by go_num,by rw[G5 Hnt];go_num,UO s k hlt isD (G5 zJ) (G5 Hd)⟩
     case measure=>simp[intOf];omega
    .have hd':isD s[k]=false:=by simpa using hd
     have hp:=G5 Hno (dJ s k hlt isD hd');have hq:s[k].toNat<48\/57<s[k].toNat:=by
      by_cases hc:48<=s[k].toNat/\s[k].toNat<=57
      .exact absurd (WR.2 hc) hd
      .omega
     have H:=G6 hp;clear hp hd hd';rcases hq with hq|hq
     .go_wp2
      go_ret2
      exact⟨RU (RP (G5 H)).symm (G5 H).symm,rfl⟩
     .go_wp2
      go_ret2
      exact⟨RU (RP (G5 H)).symm (G5 H).symm,rfl⟩
   .have hp:=G5 Hok (YW s k (by omega) isD hall);have H:=G6 hp;have hkk:s.data.toList.take k=s.data.toList:=BL (by omega);rw[hkk];clear hp hall zJ hkk
    go_wp2
    go_ret2
    exact⟨RU (WS (G5 H)).symm (G5 H).symm,rfl⟩
theorem B43{a b:List UInt8}(h:∀c∈a,c≠46):EZ (a++46::b) 46=(a.length:Int):=by
 induction a with
 |nil=>rfl
 |cons x a ih=>
  have hx:(x==46)=false:=by simpa using h x (by simp)
  have ih':=ih (fun c hc=>h c (by simp[hc]));show EZ (x::(a++46::b)) 46=_;rw[EZ,if_neg (by simp[hx]),ih',if_neg (by simp)];simp
theorem AN9(h:∀c∈l,c≠46):EZ l 46=-1:=by
 induction l with
 |nil=>rfl
 |cons x a ih=>
  have hx:(x==46)=false:=by simpa using h x (by simp)
  have ih':=ih (fun c hc=>h c (by simp[hc]));rw[EZ,if_neg (by simp[hx]),ih'];rfl
theorem BY3(h:a.data.toList=l):a=⟨l.toArray⟩:=by rw[<-h]
theorem B44(a b:List UInt8):(AQ (a++46::b).toArray).extract 0 a.length=⟨a.toArray⟩:=by
 apply BY3
 rw[<-Lib.toList_data,Lib.extract_toList];show ((a++46::b).drop 0).take (a.length-0)=a;simp
theorem BO0(a b:List UInt8)(n:Nat)(hn:n=(a++46::b).length):(AQ (a++46::b).toArray).extract (a.length+1) n=⟨b.toArray⟩:=by
 subst hn
 apply BY3
 rw[<-Lib.toList_data,Lib.extract_toList];show ((a++46::b).drop (a.length+1)).take ((a++46::b).length-(a.length+1))=b;rw[show (a++46::b).drop (a.length+1)=b from by simp];exact BL (by simp;omega)
theorem B45{b c d:ByteArray}{x:Bool}(h:a=b)(h':c=d):DV (.tuple #[.string a,.string c,.bool x])=.returned (.tuple #[.string b,.string d,.bool x]):=by rw[h,h']
theorem A28(l:List UInt8)(w:FU)(hl:l.length<=140737488355328):
  FW prog 124 #[.string ⟨l.toArray⟩,.string ⟨#[46]⟩] w fun e w'=>∃b,e=.returned (.tuple #[.string ⟨(VP l).toArray⟩,.string ⟨(VQ l).toArray⟩,.bool b])/\Below w.heap.size w w':=by
 have hz:(AQ l.toArray).size=l.length:=DK ⟨l.toArray⟩;rcases AY7 l with hd|⟨a,b,rfl,hd⟩
 .have H:=G6 (BJ2 hd);have HI:=G6 (AN9 hd);clear hd;go_enter func124,ntmps124;go_wp2_with fail;refine(stringslite_Index_one ⟨l.toArray⟩ 46 _).mono ?_;rintro e w1 ⟨rfl,rfl⟩;rw[show EZ (AQ l.toArray).data.toList 46=-1 from G5 HI];go_wp2_with fail
  go_ret3
  exact⟨_,B45 (by rw[(G5 H).1]) (by rw[(G5 H).2]),Below.refl _ _⟩
 .have H:=G6 (AY6 (b:=b) hd);have HI:=G6 (B43 (b:=b) hd);have hlen:(a++46::b).length=a.length+1+b.length:=by simp;omega
  rw[hlen]at hz hl;have HL:=G6 hlen;have H1:=G6 (B44 a b);have H2:=G6 (BO0 a b _ rfl);clear hd hlen;obtain⟨S,hS⟩:∃S,(AQ (a++46::b).toArray)=S:=⟨_,rfl⟩;rw[hS]at hz H1 H2⊢;have HI':Hid (EZ S.data.toList 46=(a.length:Int)):=G6 (by rw[<-hS];exact G5 HI);have HE:Hid (S.extract (a.length+1) (a.length+1+b.length)=⟨b.toArray⟩):=G6 (by rw[<-G5 HL];exact G5 H2);clear hS HI H2;have c1:(0:Int)<=(a.length:Int):=by omega
  have c2:(a.length:Int)<=(S.size:Int):=by omega
  have c3:(0:Int)<=(a.length:Int)+1:=by omega
  have c4:(a.length:Int)+1<=(S.size:Int):=by omega
  go_enter func124,ntmps124;go_wp2_with fail;refine(stringslite_Index_one S 46 _).mono ?_;rintro e w1 ⟨rfl,rfl⟩;rw[G5 HI'];go_wp2_with fail;go_region
  go_wp2
  go_ret3
  exact⟨_,B45 (by rw[(G5 H).1];exact G5 H1) (by rw[(G5 H).2];exact G5 HE),(Below.refl _ _).drew⟩
theorem A29(l:List UInt8)(w:FU)(hl:l.length<=140737488355328):
  FW prog 87 #[.string ⟨l.toArray⟩,.string ⟨#[46]⟩] w fun e w'=>∃b,e=.returned (.tuple #[.string ⟨(VP l).toArray⟩,.string ⟨(VQ l).toArray⟩,.bool b])/\Below w.heap.size w w':=by
 go_enter func87,ntmps87;go_wp2_with fail;refine(A28 l _ hl).mono ?_;rintro e w1 ⟨b,rfl,hb1⟩;go_wp2_with fail
 go_ret3
 exact⟨_,rfl,hb1⟩
theorem C61(l:List UInt8):(VP l).length<=l.length/\(VQ l).length<=l.length:=by
 constructor
 .exact(List.takeWhile_prefix _).length_le
 .rw[VQ,List.length_drop];have:=(List.dropWhile_suffix (l:=l) (fun c=>c !=46)).length_le;omega
theorem B46(l:List UInt8)(w:FU)(hl:l.length<=140737488355328):
  FW prog 58 #[.string ⟨l.toArray⟩] w fun e w'=>e=.returned (.tuple #[.int .i64 (gQ l),.int .i64 (jR l)])/\Below w.heap.size w w':=by
 have hc:=C61 l;have c1:=hc.1;have c2:=hc.2;clear hc
 cases h1:OU (VP l)
 .have H:=G6 (qN (.inl h1));have HA:Hid (jM (VP l)=0/\OU (VP l)=false):=G6 ⟨RP h1,h1⟩;clear h1;go_enter func58,ntmps58;go_wp2_with fail;refine(A29 l _ hl).mono ?_;rintro e w1 ⟨b,rfl,hb1⟩;go_wp2_with fail;refine(YD ⟨(VP l).toArray⟩ _ (by rw[DK];show (VP l).length<=_;omega)).mono ?_;rintro e w2 ⟨rfl,rfl⟩;rw[show (AQ (VP l).toArray).data.toList=VP l from rfl,(G5 HA).1,(G5 HA).2];go_wp2_with fail;refine(YD ⟨(VQ l).toArray⟩ _ (by rw[DK];show (VQ l).length<=_;omega)).mono ?_;rintro e w2 ⟨rfl,rfl⟩;rw[show (AQ (VQ l).toArray).data.toList=VQ l from rfl];obtain⟨B,hB⟩:∃B,OU (VQ l)=B:=⟨_,rfl⟩;obtain⟨M,hM⟩:∃M,jM (VQ l)=M:=⟨_,rfl⟩;rw[hB,hM];clear hB hM HA;go_wp2_with fail
  go_ret2
  exact⟨OX (G5 H).1.symm (G5 H).2.symm,hb1⟩
 cases h2:OU (VQ l)
 .have H:=G6 (qN (.inr h2));have HA:Hid (jM (VP l)=num (VP l)/\OU (VP l)=true):=G6 ⟨WS h1,h1⟩;have HZ:Hid (jM (VQ l)=0/\OU (VQ l)=false):=G6 ⟨RP h2,h2⟩;clear h1 h2;go_enter func58,ntmps58;go_wp2_with fail;refine(A29 l _ hl).mono ?_;rintro e w1 ⟨b,rfl,hb1⟩;go_wp2_with fail;refine(YD ⟨(VP l).toArray⟩ _ (by rw[DK];show (VP l).length<=_;omega)).mono ?_;rintro e w2 ⟨rfl,rfl⟩;rw[show (AQ (VP l).toArray).data.toList=VP l from rfl,(G5 HA).1,(G5 HA).2];go_wp2_with fail;refine(YD ⟨(VQ l).toArray⟩ _ (by rw[DK];show (VQ l).length<=_;omega)).mono ?_;rintro e w2 ⟨rfl,rfl⟩;rw[show (AQ (VQ l).toArray).data.toList=VQ l from rfl,(G5 HZ).1,(G5 HZ).2];go_wp2_with fail
  go_ret2
  exact⟨OX (G5 H).1.symm (G5 H).2.symm,hb1⟩
 have H:=G6 (vI h1 h2);have HA:Hid (jM (VP l)=num (VP l)/\OU (VP l)=true):=G6 ⟨WS h1,h1⟩;have HZ:Hid (jM (VQ l)=num (VQ l)/\OU (VQ l)=true):=G6 ⟨WS h2,h2⟩;clear h1 h2;go_enter func58,ntmps58;go_wp2_with fail;refine(A29 l _ hl).mono ?_;rintro e w1 ⟨b,rfl,hb1⟩;go_wp2_with fail;refine(YD ⟨(VP l).toArray⟩ _ (by rw[DK];show (VP l).length<=_;omega)).mono ?_;rintro e w2 ⟨rfl,rfl⟩;rw[show (AQ (VP l).toArray).data.toList=VP l from rfl,(G5 HA).1,(G5 HA).2];go_wp2_with fail;refine(YD ⟨(VQ l).toArray⟩ _ (by rw[DK];show (VQ l).length<=_;omega)).mono ?_;rintro e w2 ⟨rfl,rfl⟩;rw[show (AQ (VQ l).toArray).data.toList=VQ l from rfl,(G5 HZ).1,(G5 HZ).2];go_wp2_with fail;refine(UJ _ _ _).mono ?_;rintro e w3 ⟨rfl,rfl⟩;obtain⟨X,hX⟩:∃X,L9 (num (VP l)) (num (VQ l))=X:=⟨_,rfl⟩;obtain⟨E,hE⟩:∃E,NT (num (VP l)) (num (VQ l))=E:=⟨_,rfl⟩;rw[hX,hE];rw[hX,hE]at H;clear hX hE HA HZ;go_wp2_with fail
 go_ret2
 exact⟨OX (G5 H).1.symm (G5 H).2.symm,hb1⟩
theorem kS(w:FU)(k:Nat)(os:Array Obj):B0 w (Sort.grow (w.drewN k) os):=
 ⟨rfl,rfl,rfl,by simp[Sort.grow,World.drewN],fun i hi=>by simp[Sort.grow,World.drewN,Array.getElem?_append_left hi]⟩
theorem xB{b:ByteArray}{i j:Int}(h:a=b)(h':i=j):DV (.tuple #[.string a,I0 i])=.returned (.tuple #[.string b,I0 j]):=by rw[h,h']
theorem A34{w1 w2:FU}(h:B0 w w1)(h':B0 w1 w2):B0 w w2:=h.trans (h'.mono h.size)
theorem BO7(d m:List UInt8):(AQ d.toArray)++(AQ #[46])++(AQ m.toArray)=⟨(d++46::m).toArray⟩:=by
 apply ByteArray.ext
 simp[ByteArray.data_append]
theorem B60:prog.globalNamed "internal/strconv.uint64pow10" =some 1:=by kernel_rfl
theorem A35(htab:Lib.TabIs prog w "internal/strconv.uint64pow10" .u64 Lib.pow10Tab):1<w.heap.size:=by
 have hc:=htab.cell B60 0 (by decide);unfold World.cell? at hc
 cases ho:w.heap[1]? with
 |none=>simp[ho]at hc
 |some o=>exact(Array.getElem?_eq_some_iff.1 ho).1
theorem xC{w':FU}(htab:Lib.TabIs prog w "internal/strconv.uint64pow10" .u64 Lib.pow10Tab)(hb:B0 w w'):Lib.TabIs prog w' "internal/strconv.uint64pow10" .u64 Lib.pow10Tab:=
 var?_below hb B60 (A35 htab) htab
theorem kT(z:Int)(w:FU)(htab:Lib.TabIs prog w "internal/strconv.uint64pow10" .u64 Lib.pow10Tab):
  FW prog 144 #[I0 z] w (R0 w (.tuple #[S0 (QK z),I0 (fK z)])):=by
 cases hg:KL z
 .have H:=G6 (AA1 hg);have Hg:=G6 hg;clear hg htab;go_enter func144,ntmps144;go_wp2_with fail;refine(JI z _).mono ?_;rintro e w1 ⟨rfl,rfl⟩;rw[G5 Hg];go_wp2_with fail
  go_ret2
  exact⟨xB (by rw[(G5 H).1]) (G5 H).2.symm,Below.refl _ _⟩
 have hz:=LZ.1 hg;have H:=G6 (jS hg);have Hg:=G6 hg;have q0:(z/2147483648)=((z/2147483648).toNat:Int):=by omega
 have r0:(z%2147483648)=((z%2147483648).toNat:Int):=by omega
 obtain⟨q,hq⟩:∃q,(z/2147483648).toNat=q:=⟨_,rfl⟩;obtain⟨r,hr⟩:∃r,(z%2147483648).toNat=r:=⟨_,rfl⟩;have q1:q<2147483648:=by omega
 have r1:r<2147483648:=by omega
 rw[hq]at q0;rw[hr]at r0;rw[hq,hr]at H;have Ez:Hid (IZ z=(q:Int)):=G6 (by rw[MB hg];exact q0);have Cz:Hid (nH z=(r:Int)):=G6 (by rw[XW hg];exact r0);have Htab:=G6 htab;have Hiq:=G6 (Lib.itoa_nonneg q);have Hir:=G6 (Lib.itoa_nonneg r);have lq:=jQ 9 q (by omega);have lr:=jQ 9 r (by omega);clear hg hz q0 r0 hq hr htab;go_enter func144,ntmps144;go_wp2_with fail;refine(JI z _).mono ?_;rintro e w1 ⟨rfl,rfl⟩;rw[G5 Hg];go_wp2_with fail;refine(PX z _).mono ?_;rintro e w2 ⟨rfl,rfl⟩;rw[G5 Ez];go_wp2_with fail;refine(strconv_Itoa _ (by omega) (by omega) _ (G5 Htab)).mono ?_;rintro e w3 ⟨rfl,k,os,hw3⟩;have hb3:B0 w2 w3:=by rw[hw3];exact kS w2 k os
 clear hw3;rw[G5 Hiq];obtain⟨D,hD⟩:∃D,EJ q=D:=⟨_,rfl⟩;rw[hD]at lq H⊢;clear hD;go_wp2_with fail;refine(dZ z _).mono ?_;rintro e w4 ⟨rfl,rfl⟩;rw[G5 Cz];go_wp2_with fail;refine(strconv_Itoa _ (by omega) (by omega) _ (xC (G5 Htab) hb3)).mono ?_;rintro e w5 ⟨rfl,k,os,hw5⟩;have hb5:B0 w2 w5:=A34 hb3 (by rw[hw5];exact kS w4 k os);clear hw5;rw[G5 Hir];obtain⟨R,hR⟩:∃R,EJ r=R:=⟨_,rfl⟩;rw[hR]at lr H⊢;clear hR Hiq Hir Ez Cz Hg hb3;have zD:(AQ D.toArray).size=D.length:=DK ⟨D.toArray⟩;have zR:(AQ R.toArray).size=R.length:=DK ⟨R.toArray⟩;go_wp2_with fail
 go_ret2
 exact⟨xB (by rw[(G5 H).1];exact BO7 D R) (G5 H).2.symm,hb5⟩
theorem xU(z:Int)(w:FU):
  FW prog 125 #[I0 z] w fun e w'=>e=.returned (.tuple #[I0 (iT z),I0 (VZ z)])/\w'=w:=by
 cases hg:KL z
 .have H:=G6 (AT2 hg);have Hg:=G6 hg;clear hg;go_enter func125,ntmps125;go_wp2_with fail;refine(JI z _).mono ?_;rintro e w1 ⟨rfl,rfl⟩;rw[G5 Hg];go_wp2_with fail
  go_ret2
  exact⟨OX (G5 H).1.symm (G5 H).2.symm,rfl⟩
 have hz:=LZ.1 hg;have h0:=hz.1;have h1:=hz.2;clear hz
 cases hi:zIn (z%2147483648+1)
 .have H:=G6 (AH2 hg hi);have Hg:=G6 hg;have hf:(z%2147483648==2147483647)=true:=by
   rw[beq_iff_eq];have:=Int.emod_nonneg z (show (2147483648:Int)≠0 by decide);have:=Int.emod_lt_of_pos z (show (0:Int)<2147483648 by decide);by_cases h:z%2147483648=2147483647
   .exact h
   .rw[PK.2 (by omega)]at hi;exact absurd hi (by decide)
  clear hg hi;go_enter func125,ntmps125;go_wp2_with fail;refine(JI z _).mono ?_;rintro e w1 ⟨rfl,rfl⟩;rw[G5 Hg];go_wp2_with fail;refine(dZ z _).mono ?_;rintro e w2 ⟨rfl,rfl⟩;rw[XW (G5 Hg)];go_wp2_with fail
  go_ret2
  exact⟨OX (G5 H).1.symm (G5 H).2.symm,rfl⟩
 .have H:=G6 (qB hg hi);have Hg:=G6 hg;have hf:(z%2147483648==2147483647)=false:=by
   rw[beq_eq_false_iff_ne];have:=(PK.1 hi).2;omega
  clear hg hi;go_enter func125,ntmps125;go_wp2_with fail;refine(JI z _).mono ?_;rintro e w1 ⟨rfl,rfl⟩;rw[G5 Hg];go_wp2_with fail;refine(dZ z _).mono ?_;rintro e w2 ⟨rfl,rfl⟩;rw[XW (G5 Hg)];go_wp2_with fail
  go_ret2
  exact⟨OX (G5 H).1.symm (G5 H).2.symm,rfl⟩
