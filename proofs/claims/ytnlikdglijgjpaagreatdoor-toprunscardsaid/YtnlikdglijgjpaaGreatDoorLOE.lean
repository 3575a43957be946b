/-
  Part.
-/
import Derived.Test.YtnlikdglijgjpaaGreatDoorLOA
import Derived.Test.YtnlikdglijgjpaaGreatDoorRows
import Derived.WalkSpells
import Derived.WalkLawsBesides
import Derived.Test.YtnlikdglijgjpaaGreatDoorShelf
set_option maxRecDepth 20000
set_option maxHeartbeats 8000000
namespace Go.Proofs.YtnlikdglijgjpaaGreatDoor
open Go.RowKit Go.Proofs.Tryz
open _root_.ByteArray renaming mk->AQ
open _root_.List renaming take_of_length_le->BM
open Go.Lib renaming size_eq->DL,decDigits->EK,indexByte->F5
open Go.Ending renaming returned->DW
open Go renaming World->FV,Calls->FX
variable{l:List UInt8}{u:Nat}{a:ByteArray}{z:Int}{w:FV}
def isD(c:UInt8):Bool:=decide (48<=c.toNat)&&decide (c.toNat<=57)
theorem WE{c:UInt8}:isD c=true↔48<=c.toNat/\c.toNat<=57:=by simp[isD]
def num(l:List UInt8):Nat:=l.foldl (fun n c=>10*n+(c.toNat-48)) 0
theorem pR(l:List UInt8)(c:UInt8):num (l++[c])=10*num l+(c.toNat-48):=by simp[num]
theorem AI0(l:List UInt8):l=[]\/∃a c,l=a++[c]:=by
 cases h:l.reverse with
 |nil=>exact .inl (by simpa using h)
 |cons c r=>exact .inr ⟨r.reverse,c,by have:=congrArg List.reverse h;simpa using this⟩
theorem CG7(l:List UInt8)(h:l.all isD=true):num l<10^l.length:=by
 obtain⟨n,hn⟩:∃n,l.length=n:=⟨_,rfl⟩
 induction n generalizing l with
 |zero=>rw[List.length_eq_zero_iff.1 hn];decide
 |succ n ih=>
  rcases AI0 l with rfl|⟨a,c,rfl⟩
  .simp at hn
  .simp only[List.all_append,Bool.and_eq_true,List.all_cons,List.all_nil,Bool.and_true]at h;have h1:=ih a h.1 (by simpa using hn);have h2:=WE.1 h.2;rw[pR,List.length_append,List.length_singleton,Nat.pow_succ];omega
def OT(l:List UInt8):Bool:=decide (1<=l.length)&&decide (l.length<=10)&& !(decide (1<l.length)&&l.head?==some 48)&&l.all isD
def iV(l:List UInt8):Int:=if OT l then(num l:Int)else 0
theorem WG(h:OT l=true):iV l=num l:=by rw[iV,if_pos h]
theorem RH(h:OT l=false):iV l=0:=by rw[iV,h];rfl
theorem iW:OT l=true↔1<=l.length/\l.length<=10/\(1<l.length->l.head? ≠some 48)/\l.all isD=true:=by
 simp only[OT,Bool.and_eq_true,decide_eq_true_eq,Bool.not_eq_true',Bool.and_eq_false_imp,beq_eq_false_iff_ne,ne_eq];constructor
 .rintro⟨⟨⟨a,b⟩,c⟩,d⟩;exact⟨a,b,c,d⟩
 .rintro⟨a,b,c,d⟩;exact⟨⟨⟨a,b⟩,c⟩,d⟩
theorem fZ(h:¬ (1<=l.length/\l.length<=10/\(1<l.length->l.head? ≠some 48)/\l.all isD=true)):OT l=false:=by
 cases hp:OT l with
 |false=>rfl
 |true=>exact absurd (iW.1 hp) h
theorem CR2(h:u<10):EK u=[UInt8.ofNat (48+u)]:=by rw[EK,dif_pos h]
theorem decb(h:¬u<10):EK u=EK (u/10)++[UInt8.ofNat (48+u%10)]:=by rw[EK,dif_neg h]
theorem ZW{d:Nat}(h:d<10):(UInt8.ofNat (48+d)).toNat=48+d:=by rw[UInt8.toNat_ofNat'];omega
theorem AX1{d:Nat}(h:d<10):isD (UInt8.ofNat (48+d))=true:=WE.2 (by rw[ZW h];omega)
theorem iY(u:Nat):(EK u).all isD=true/\num (EK u)=u/\1<=(EK u).length/\(u≠0->(EK u).head? ≠some 48):=by
 induction u using Nat.strongRecOn with
 |_ u ih=>
  by_cases h:u<10
  .rw[CR2 h];refine⟨by rw[List.all_cons,List.all_nil,AX1 h];rfl,?_,by simp,?_⟩
   .show 10*0+((UInt8.ofNat (48+u)).toNat-48)=u;rw[ZW h];omega
   .intro h0 e;have h1:=congrArg UInt8.toNat (Option.some.inj e);rw[ZW h]at h1;have h2:(48:UInt8).toNat=48:=rfl;omega
  .rw[decb h];obtain⟨i1,i2,i3,i4⟩:=ih (u/10) (by omega);refine⟨by rw[List.all_append,i1,List.all_cons,AX1 (Nat.mod_lt u (by decide:0<10)),List.all_nil];rfl,?_,by simp,?_⟩
   .rw[pR,i2,ZW (Nat.mod_lt u (by decide))];omega
   .intro _;have i5:=i4 (by omega)
    cases hd:EK (u/10)with
    |nil=>rw[hd]at i3;simp at i3
    |cons c r=>rw[hd]at i5;simpa using i5
theorem iZ(k:Nat):∀u,u<10^(k+1)->(EK u).length<=k+1:=by
 induction k with
 |zero=>intro u hu;rw[CR2 (by simpa using hu)];simp
 |succ k ih=>
  intro u hu;by_cases h:u<10
  .rw[CR2 h];simp
  .rw[decb h];have:=ih (u/10) (by rw[Nat.pow_succ]at hu;omega);simp;omega
theorem C08(h:1<(EK u).length):u≠0:=by
 rintro rfl;rw[CR2 (by decide)]at h;simp at h
theorem A84(h:u<10000000000):OT (EK u)=true:=by
 obtain⟨i1,i2,i3,i4⟩:=iY u;exact iW.2 ⟨i3,iZ 9 u h,fun hl=>i4 (C08 hl),i1⟩
def VE(l:List UInt8):List UInt8:=l.takeWhile (fun c=>c !=46)
def VF(l:List UInt8):List UInt8:=(l.dropWhile (fun c=>c !=46)).drop 1
theorem AX2{a b:List UInt8}(h:∀c∈a,c≠46):VE (a++46::b)=a/\VF (a++46::b)=b:=by
 have hp:∀c∈a,(c !=46)=true:=fun c hc=>by simpa using h c hc
 constructor
 .rw[VE,List.takeWhile_append_of_pos hp];simp
 .rw[VF,List.dropWhile_append_of_pos hp];simp
theorem BH2(h:∀c∈l,c≠46):VE l=l/\VF l=[]:=by
 have hp:∀c∈l,(c !=46)=true:=fun c hc=>by simpa using h c hc
 constructor
 .have:=List.takeWhile_append_of_pos (l₂:=[]) hp;rw[VE];simpa using this
 .have:=List.dropWhile_append_of_pos (l₂:=[]) hp;rw[VF];simp at this;rw[this];rfl
theorem AX3(l:List UInt8):(∀c∈l,c≠46)\/∃a b,l=a++46::b/\∀c∈a,c≠46:=by
 induction l with
 |nil=>exact .inl (by simp)
 |cons x l ih=>
  by_cases hx:x=46
  .subst hx;exact .inr ⟨[],l,rfl,by simp⟩
  .rcases ih with h|⟨a,b,rfl,h⟩
   .exact .inl (by simpa [hx]using h)
   .exact .inr ⟨x::a,b,rfl,by simpa [hx]using h⟩
theorem C09(h:l.all isD=true):∀c∈l,c≠46:=by
 intro c hc e;subst e;exact absurd (List.all_eq_true.1 h 46 hc) (by decide)
def fH(l:List UInt8):Int:=if OT (VE l)&&OT (VF l)then KY (num (VE l)) (num (VF l))else 0
def jA(l:List UInt8):Int:=if OT (VE l)&&OT (VF l)then NM (num (VE l)) (num (VF l))else 2
theorem pU(h:OT (VE l)=false\/OT (VF l)=false):fH l=0/\jA l=2:=by
 rcases h with h|h<;>simp[fH,jA,h]
theorem uJ(h:OT (VE l)=true)(h':OT (VF l)=true):fH l=KY (num (VE l)) (num (VF l))/\jA l=NM (num (VE l)) (num (VF l)):=by
 simp[fH,jA,h,h']
def QJ(z:Int):List UInt8:=if KL z then EK (z/2147483648).toNat++46::EK (z%2147483648).toNat else []
def dX(z:Int):Int:=if KL z then 0 else 3
theorem A85(h:KL z=false):QJ z=[]/\dX z=3:=by simp[QJ,dX,h]
theorem jB(h:KL z=true):QJ z=EK (z/2147483648).toNat++46::EK (z%2147483648).toNat/\dX z=0:=by simp[QJ,dX,h]
theorem AX4(h:KL z=true):fH (QJ z)=z/\jA (QJ z)=0:=by
 have hz:=LY.1 h;obtain⟨i1,i2,_,_⟩:=iY (z/2147483648).toNat;obtain⟨_,j2,_,_⟩:=iY (z%2147483648).toNat;obtain⟨c1,c2⟩:=AX2 (b:=EK (z%2147483648).toNat) (C09 i1);rw[(jB h).1];obtain⟨r1,r2⟩:=uJ (l:=EK (z/2147483648).toNat++46::EK (z%2147483648).toNat) (by rw[c1];exact A84 (by omega)) (by rw[c2];exact A84 (by omega));rw[r1,r2,c1,c2,i2,j2];obtain⟨m1,m2⟩:=TP (e:=((z/2147483648).toNat:Int)) (c:=((z%2147483648).toNat:Int)) (PK.2 (by omega)) (PK.2 (by omega));rw[m1,m2,Int.toNat_of_nonneg (by omega),Int.toNat_of_nonneg (by omega)];exact⟨by omega,rfl⟩
theorem SC{a b:Bool}(h:a=b):DW (.bool a)=.returned (.bool b):=by rw[h]
theorem JH(z:Int)(w:FV):
  FX prog 79 #[I0 z] w fun e w'=>e=.returned (.bool (KL z))/\w'=w:=by
 go_enter func79,ntmps79
 go_wp2
 go_ret;exact⟨SC (by rw[Bool.eq_iff_iff,LY,beq_iff_eq];omega),rfl⟩
theorem U6(e c:Int)(w:FV):
  FX prog 78 #[I0 e,I0 c] w fun x w'=>x=.returned (.tuple #[I0 (KY e c),I0 (NM e c)])/\w'=w:=by
 by_cases h1:e<0
 .have H:=G7 (fM (e:=e) (c:=c) (.inl (A58 (by omega))));go_enter func78,ntmps78
  go_wp2
  go_ret2
  exact⟨OV (G6 H).1.symm (G6 H).2.symm,rfl⟩
 by_cases h2:2147483647<e
 .have H:=G7 (fM (e:=e) (c:=c) (.inl (A58 (by omega))));go_enter func78,ntmps78
  go_wp2
  go_ret2
  exact⟨OV (G6 H).1.symm (G6 H).2.symm,rfl⟩
 by_cases h3:c<0
 .have H:=G7 (fM (e:=e) (c:=c) (.inr (A58 (by omega))));go_enter func78,ntmps78
  go_wp2
  go_ret2
  exact⟨OV (G6 H).1.symm (G6 H).2.symm,rfl⟩
 by_cases h4:2147483647<c
 .have H:=G7 (fM (e:=e) (c:=c) (.inr (A58 (by omega))));go_enter func78,ntmps78
  go_wp2
  go_ret2
  exact⟨OV (G6 H).1.symm (G6 H).2.symm,rfl⟩
 have H:=G7 (TP (e:=e) (c:=c) (PK.2 (by omega)) (PK.2 (by omega)));go_enter func78,ntmps78
 go_wp2
 go_ret2
 exact⟨OV ((BY4 (by omega) (by omega) (by omega) (by omega)).trans (G6 H).1.symm) (G6 H).2.symm,rfl⟩
theorem PW(z:Int)(w:FV):
  FX prog 47 #[I0 z] w fun e w'=>e=.returned (I0 (IY z))/\w'=w:=by
 cases hg:KL z
 .have H:=G7 (sK hg);have Hg:=G7 hg;clear hg;go_enter func47,ntmps47;go_wp2_with fail;refine(JH z _).mono ?_;rintro e w1 ⟨rfl,rfl⟩;rw[G6 Hg];go_wp2_with fail;go_ret;exact⟨oP (G6 H).symm,rfl⟩
 .have H:=G7 (LZ hg);have Hg:=G7 hg;clear hg;go_enter func47,ntmps47;go_wp2_with fail;refine(JH z _).mono ?_;rintro e w1 ⟨rfl,rfl⟩;rw[G6 Hg];go_wp2_with fail;go_ret;exact⟨oP (G6 H).symm,rfl⟩
theorem dG(z:Int)(w:FV):
  FX prog 159 #[I0 z] w fun e w'=>e=.returned (I0 (lW z))/\w'=w:=by
 cases hg:KL z
 .have H:=G7 (AR5 hg);have Hg:=G7 hg;clear hg;go_enter func159,ntmps159;go_wp2_with fail;refine(JH z _).mono ?_;rintro e w1 ⟨rfl,rfl⟩;rw[G6 Hg];go_wp2_with fail;go_ret;exact⟨oP (G6 H).symm,rfl⟩
 .have H:=G7 (XI hg);have Hg:=G7 hg;clear hg;go_enter func159,ntmps159;go_wp2_with fail;refine(JH z _).mono ?_;rintro e w1 ⟨rfl,rfl⟩;rw[G6 Hg];go_wp2_with fail;go_ret;have h:=LY.1 (G6 Hg);exact⟨oP ((BD4 h.1 h.2).trans (G6 H).symm),rfl⟩
theorem AM2(s:ByteArray):s.data.toList.length=s.size:=by simp
theorem RN{i j:Int}{a b:Bool}(h:i=j)(h':a=b):DW (.tuple #[.int .i64 i,.bool a])=.returned (.tuple #[.int .i64 j,.bool b]):=by rw[h,h']
theorem CU0(s:ByteArray)(h:0<s.size):s.data.toList.head?=some s[0]:=by
 rw[List.head?_eq_getElem?,List.getElem?_eq_getElem (by simpa using h)];rfl
theorem AB0(s:ByteArray)(k:Nat)(h:k<s.size):num (s.data.toList.take (k+1))=10*num (s.data.toList.take k)+(s[k].toNat-48):=by
 rw[iF s k h,pR]
theorem vV(s:ByteArray)(k:Nat)(h:k<10)(ha:(s.data.toList.take k).all isD=true):num (s.data.toList.take k)<1000000000:=by
 have h1:=CG7 _ ha;have h2:(s.data.toList.take k).length<=9:=by rw[List.length_take];omega
 have h3:10^(s.data.toList.take k).length<=10^9:=Nat.pow_le_pow_right (by decide) h2;have h4:(10:Nat)^9=1000000000:=by decide
 omega
theorem XW(s:ByteArray)(w:FV)(hs:s.size<=140737488355328):
  FX prog 77 #[.string s] w fun e w'=>e=.returned (.tuple #[.int .i64 (iV s.data.toList),.bool (OT s.data.toList)])/\w'=w:=by
 have hz:=AM2 s;by_cases h1:s.size<1
 .have hp:OT s.data.toList=false:=fZ (by omega);have H:=G7 hp;clear hp;go_enter func77,ntmps77
  go_wp2
  go_ret2
  exact⟨RN (RH (G6 H)).symm (G6 H).symm,rfl⟩
 by_cases h2:10<s.size
 .have hp:OT s.data.toList=false:=fZ (by omega);have H:=G7 hp;clear hp;go_enter func77,ntmps77
  go_wp2
  go_ret2
  exact⟨RN (RH (G6 H)).symm (G6 H).symm,rfl⟩
 have hhd:=CU0 s (by omega);have h0:0<s.size:=by omega
 by_cases h3:1<s.size/\s[0]=48
 .have hp:OT s.data.toList=false:=fZ (by
   rintro⟨_,_,h,_⟩;exact h (by omega) (by rw[hhd,h3.2]))
  have H:=G7 hp;have h4:((s[0].toNat:Int)==48)=true:=by rw[h3.2];rfl
  have h5:=h3.1;clear hp h3 hhd;go_enter func77,ntmps77
  go_wp2
  go_ret2
  exact⟨RN (RH (G6 H)).symm (G6 H).symm,rfl⟩
 have Hok:Hid (s.data.toList.all isD=true->OT s.data.toList=true):=G7 (fun h=>iW.2 ⟨by omega,by omega,fun hl e=>h3 ⟨by omega,by rw[hhd]at e;exact Option.some.inj e⟩,h⟩);have Hno:Hid (s.data.toList.all isD=false->OT s.data.toList=false):=G7 (fun h=>fZ (fun hh=>by rw[h]at hh;exact absurd hh.2.2.2 (by decide)));have h4:1<s.size->((s[0].toNat:Int)==48)=false:=fun hl=>by
  rw[beq_eq_false_iff_ne];intro e;exact h3 ⟨hl,UInt8.toNat_inj.1 (by show s[0].toNat=48;omega)⟩
 clear h3 hhd;by_cases h5:1<s.size
 .have h6:=h4 h5;clear h4;go_enter func77,ntmps77
  go_wp2
  clear h6
  go_loop [4,26] (fun n i=>∃k:Nat,k<=s.size/\i=.int .i64 k/\n=.int .i64 (num (s.data.toList.take k):Int)/\(s.data.toList.take k).all isD=true) (fun _ i=>s.size-(intOf i).toNat)
  case atStart=>exact⟨0,Nat.zero_le _,rfl,rfl,by simp⟩
  case round=>
   obtain⟨k,hk,rfl,rfl,hall⟩:=hrel;have yQ:=G7 hall;by_cases hlt:k<s.size
   .have hsm:=vV s k (by omega) hall;have Hnt:=G7 (AB0 s k hlt);clear hall;obtain⟨n,hn⟩:∃n,num (s.data.toList.take k)=n:=⟨_,rfl⟩;rw[hn]at hsm Hnt⊢;clear hn;by_cases hd:isD s[k]=true
    .have hd1:=(WE.1 hd).1;have hd2:=(WE.1 hd).2;have Hd:=G7 hd;clear hd
     go_wp2
     go_round
     case rel=>exact⟨k+1,by omega,by go_num,by rw[G6 Hnt];go_num,UG s k hlt isD (G6 yQ) (G6 Hd)⟩
     case measure=>simp[intOf];omega
    .have hd':isD s[k]=false:=by simpa using hd
     have hp:=G6 Hno (bP s k hlt isD hd');have hq:s[k].toNat<48\/57<s[k].toNat:=by
      by_cases hc:48<=s[k].toNat/\s[k].toNat<=57
      .exact absurd (WE.2 hc) hd
      .omega
     have H:=G7 hp;clear hp hd hd';rcases hq with hq|hq
     .go_wp2
      go_ret2
      exact⟨RN (RH (G6 H)).symm (G6 H).symm,rfl⟩
     .go_wp2
      go_ret2
      exact⟨RN (RH (G6 H)).symm (G6 H).symm,rfl⟩
   .have hp:=G6 Hok (YM s k (by omega) isD hall);have H:=G7 hp;have hkk:s.data.toList.take k=s.data.toList:=BM (by omega);rw[hkk];clear hp hall yQ hkk
    go_wp2
    go_ret2
    exact⟨RN (WG (G6 H)).symm (G6 H).symm,rfl⟩
 .clear h4;go_enter func77,ntmps77
  go_wp2
  go_loop [4,26] (fun n i=>∃k:Nat,k<=s.size/\i=.int .i64 k/\n=.int .i64 (num (s.data.toList.take k):Int)/\(s.data.toList.take k).all isD=true) (fun _ i=>s.size-(intOf i).toNat)
  case atStart=>exact⟨0,Nat.zero_le _,rfl,rfl,by simp⟩
  case round=>
   obtain⟨k,hk,rfl,rfl,hall⟩:=hrel;have yQ:=G7 hall;by_cases hlt:k<s.size
   .have hsm:=vV s k (by omega) hall;have Hnt:=G7 (AB0 s k hlt);clear hall;obtain⟨n,hn⟩:∃n,num (s.data.toList.take k)=n:=⟨_,rfl⟩;rw[hn]at hsm Hnt⊢;clear hn;by_cases hd:isD s[k]=true
    .have hd1:=(WE.1 hd).1;have hd2:=(WE.1 hd).2;have Hd:=G7 hd;clear hd
     go_wp2
     go_round
     case rel=>exact⟨k+1,by omega,by go_num,by rw[G6 Hnt];go_num,UG s k hlt isD (G6 yQ) (G6 Hd)⟩
     case measure=>simp[intOf];omega
    .have hd':isD s[k]=false:=by simpa using hd
     have hp:=G6 Hno (bP s k hlt isD hd');have hq:s[k].toNat<48\/57<s[k].toNat:=by
      by_cases hc:48<=s[k].toNat/\s[k].toNat<=57
      .exact absurd (WE.2 hc) hd
      .omega
     have H:=G7 hp;clear hp hd hd';rcases hq with hq|hq
     .go_wp2
      go_ret2
      exact⟨RN (RH (G6 H)).symm (G6 H).symm,rfl⟩
     .go_wp2
      go_ret2
      exact⟨RN (RH (G6 H)).symm (G6 H).symm,rfl⟩
   .have hp:=G6 Hok (YM s k (by omega) isD hall);have H:=G7 hp;have hkk:s.data.toList.take k=s.data.toList:=BM (by omega);rw[hkk];clear hp hall yQ hkk
    go_wp2
    go_ret2
    exact⟨RN (WG (G6 H)).symm (G6 H).symm,rfl⟩
theorem B26{a b:List UInt8}(h:∀c∈a,c≠46):F5 (a++46::b) 46=(a.length:Int):=by
 induction a with
 |nil=>rfl
 |cons x a ih=>
  have hx:(x==46)=false:=by simpa using h x (by simp)
  have ih':=ih (fun c hc=>h c (by simp[hc]));show F5 (x::(a++46::b)) 46=_;rw[F5,if_neg (by simp[hx]),ih',if_neg (by simp)];simp
theorem AM3(h:∀c∈l,c≠46):F5 l 46=-1:=by
 induction l with
 |nil=>rfl
 |cons x a ih=>
  have hx:(x==46)=false:=by simpa using h x (by simp)
  have ih':=ih (fun c hc=>h c (by simp[hc]));rw[F5,if_neg (by simp[hx]),ih'];rfl
theorem BW2(h:a.data.toList=l):a=⟨l.toArray⟩:=by rw[<-h]
theorem B27(a b:List UInt8):(AQ (a++46::b).toArray).extract 0 a.length=⟨a.toArray⟩:=by
 apply BW2
 rw[<-Lib.toList_data,Lib.extract_toList];show ((a++46::b).drop 0).take (a.length-0)=a;simp
theorem BM0(a b:List UInt8)(n:Nat)(hn:n=(a++46::b).length):(AQ (a++46::b).toArray).extract (a.length+1) n=⟨b.toArray⟩:=by
 subst hn
 apply BW2
 rw[<-Lib.toList_data,Lib.extract_toList];show ((a++46::b).drop (a.length+1)).take ((a++46::b).length-(a.length+1))=b;rw[show (a++46::b).drop (a.length+1)=b from by simp];exact BM (by simp;omega)
theorem B28{b c d:ByteArray}{x:Bool}(h:a=b)(h':c=d):DW (.tuple #[.string a,.string c,.bool x])=.returned (.tuple #[.string b,.string d,.bool x]):=by rw[h,h']
theorem A13(l:List UInt8)(w:FV)(hl:l.length<=140737488355328):
  FX prog 119 #[.string ⟨l.toArray⟩,.string ⟨#[46]⟩] w fun e w'=>∃b,e=.returned (.tuple #[.string ⟨(VE l).toArray⟩,.string ⟨(VF l).toArray⟩,.bool b])/\Below w.heap.size w w':=by
 have hz:(AQ l.toArray).size=l.length:=DL ⟨l.toArray⟩;rcases AX3 l with hd|⟨a,b,rfl,hd⟩
 .have H:=G7 (BH2 hd);have HI:=G7 (AM3 hd);clear hd;go_enter func119,ntmps119;go_wp2_with fail;refine(stringslite_Index_one ⟨l.toArray⟩ 46 _).mono ?_;rintro e w1 ⟨rfl,rfl⟩;rw[show F5 (AQ l.toArray).data.toList 46=-1 from G6 HI];go_wp2_with fail
  go_ret3
  exact⟨_,B28 (by rw[(G6 H).1]) (by rw[(G6 H).2]),Below.refl _ _⟩
 .have H:=G7 (AX2 (b:=b) hd);have HI:=G7 (B26 (b:=b) hd);have hlen:(a++46::b).length=a.length+1+b.length:=by simp;omega
  rw[hlen]at hz hl;have HL:=G7 hlen;have H1:=G7 (B27 a b);have H2:=G7 (BM0 a b _ rfl);clear hd hlen;obtain⟨S,hS⟩:∃S,(AQ (a++46::b).toArray)=S:=⟨_,rfl⟩;rw[hS]at hz H1 H2⊢;have HI':Hid (F5 S.data.toList 46=(a.length:Int)):=G7 (by rw[<-hS];exact G6 HI);have HE:Hid (S.extract (a.length+1) (a.length+1+b.length)=⟨b.toArray⟩):=G7 (by rw[<-G6 HL];exact G6 H2);clear hS HI H2;have c1:(0:Int)<=(a.length:Int):=by omega
  have c2:(a.length:Int)<=(S.size:Int):=by omega
  have c3:(0:Int)<=(a.length:Int)+1:=by omega
  have c4:(a.length:Int)+1<=(S.size:Int):=by omega
  go_enter func119,ntmps119;go_wp2_with fail;refine(stringslite_Index_one S 46 _).mono ?_;rintro e w1 ⟨rfl,rfl⟩;rw[G6 HI'];go_wp2_with fail;go_region
  go_wp2
  go_ret3
  exact⟨_,B28 (by rw[(G6 H).1];exact G6 H1) (by rw[(G6 H).2];exact G6 HE),(Below.refl _ _).drew⟩
theorem A14(l:List UInt8)(w:FV)(hl:l.length<=140737488355328):
  FX prog 76 #[.string ⟨l.toArray⟩,.string ⟨#[46]⟩] w fun e w'=>∃b,e=.returned (.tuple #[.string ⟨(VE l).toArray⟩,.string ⟨(VF l).toArray⟩,.bool b])/\Below w.heap.size w w':=by
 go_enter func76,ntmps76;go_wp2_with fail;refine(A13 l _ hl).mono ?_;rintro e w1 ⟨b,rfl,hb1⟩;go_wp2_with fail
 go_ret3
 exact⟨_,rfl,hb1⟩
theorem C43(l:List UInt8):(VE l).length<=l.length/\(VF l).length<=l.length:=by
 constructor
 .exact(List.takeWhile_prefix _).length_le
 .rw[VF,List.length_drop];have:=(List.dropWhile_suffix (l:=l) (fun c=>c !=46)).length_le;omega
theorem B29(l:List UInt8)(w:FV)(hl:l.length<=140737488355328):
  FX prog 46 #[.string ⟨l.toArray⟩] w fun e w'=>e=.returned (.tuple #[.int .i64 (fH l),.int .i64 (jA l)])/\Below w.heap.size w w':=by
 have hc:=C43 l;have c1:=hc.1;have c2:=hc.2;clear hc
 cases h1:OT (VE l)
 .have H:=G7 (pU (.inl h1));have HA:Hid (iV (VE l)=0/\OT (VE l)=false):=G7 ⟨RH h1,h1⟩;clear h1;go_enter func46,ntmps46;go_wp2_with fail;refine(A14 l _ hl).mono ?_;rintro e w1 ⟨b,rfl,hb1⟩;go_wp2_with fail;refine(XW ⟨(VE l).toArray⟩ _ (by rw[DL];show (VE l).length<=_;omega)).mono ?_;rintro e w2 ⟨rfl,rfl⟩;rw[show (AQ (VE l).toArray).data.toList=VE l from rfl,(G6 HA).1,(G6 HA).2];go_wp2_with fail;refine(XW ⟨(VF l).toArray⟩ _ (by rw[DL];show (VF l).length<=_;omega)).mono ?_;rintro e w2 ⟨rfl,rfl⟩;rw[show (AQ (VF l).toArray).data.toList=VF l from rfl];obtain⟨B,hB⟩:∃B,OT (VF l)=B:=⟨_,rfl⟩;obtain⟨M,hM⟩:∃M,iV (VF l)=M:=⟨_,rfl⟩;rw[hB,hM];clear hB hM HA;go_wp2_with fail
  go_ret2
  exact⟨OV (G6 H).1.symm (G6 H).2.symm,hb1⟩
 cases h2:OT (VF l)
 .have H:=G7 (pU (.inr h2));have HA:Hid (iV (VE l)=num (VE l)/\OT (VE l)=true):=G7 ⟨WG h1,h1⟩;have HZ:Hid (iV (VF l)=0/\OT (VF l)=false):=G7 ⟨RH h2,h2⟩;clear h1 h2;go_enter func46,ntmps46;go_wp2_with fail;refine(A14 l _ hl).mono ?_;rintro e w1 ⟨b,rfl,hb1⟩;go_wp2_with fail;refine(XW ⟨(VE l).toArray⟩ _ (by rw[DL];show (VE l).length<=_;omega)).mono ?_;rintro e w2 ⟨rfl,rfl⟩;rw[show (AQ (VE l).toArray).data.toList=VE l from rfl,(G6 HA).1,(G6 HA).2];go_wp2_with fail;refine(XW ⟨(VF l).toArray⟩ _ (by rw[DL];show (VF l).length<=_;omega)).mono ?_;rintro e w2 ⟨rfl,rfl⟩;rw[show (AQ (VF l).toArray).data.toList=VF l from rfl,(G6 HZ).1,(G6 HZ).2];go_wp2_with fail
  go_ret2
  exact⟨OV (G6 H).1.symm (G6 H).2.symm,hb1⟩
 have H:=G7 (uJ h1 h2);have HA:Hid (iV (VE l)=num (VE l)/\OT (VE l)=true):=G7 ⟨WG h1,h1⟩;have HZ:Hid (iV (VF l)=num (VF l)/\OT (VF l)=true):=G7 ⟨WG h2,h2⟩;clear h1 h2;go_enter func46,ntmps46;go_wp2_with fail;refine(A14 l _ hl).mono ?_;rintro e w1 ⟨b,rfl,hb1⟩;go_wp2_with fail;refine(XW ⟨(VE l).toArray⟩ _ (by rw[DL];show (VE l).length<=_;omega)).mono ?_;rintro e w2 ⟨rfl,rfl⟩;rw[show (AQ (VE l).toArray).data.toList=VE l from rfl,(G6 HA).1,(G6 HA).2];go_wp2_with fail;refine(XW ⟨(VF l).toArray⟩ _ (by rw[DL];show (VF l).length<=_;omega)).mono ?_;rintro e w2 ⟨rfl,rfl⟩;rw[show (AQ (VF l).toArray).data.toList=VF l from rfl,(G6 HZ).1,(G6 HZ).2];go_wp2_with fail;refine(U6 _ _ _).mono ?_;rintro e w3 ⟨rfl,rfl⟩;obtain⟨X,hX⟩:∃X,KY (num (VE l)) (num (VF l))=X:=⟨_,rfl⟩;obtain⟨E,hE⟩:∃E,NM (num (VE l)) (num (VF l))=E:=⟨_,rfl⟩;rw[hX,hE];rw[hX,hE]at H;clear hX hE HA HZ;go_wp2_with fail
 go_ret2
 exact⟨OV (G6 H).1.symm (G6 H).2.symm,hb1⟩
theorem jY(w:FV)(k:Nat)(os:Array Obj):B0 w (Sort.grow (w.drewN k) os):=
 ⟨rfl,rfl,rfl,by simp[Sort.grow,World.drewN],fun i hi=>by simp[Sort.grow,World.drewN,Array.getElem?_append_left hi]⟩
theorem vY{b:ByteArray}{i j:Int}(h:a=b)(h':i=j):DW (.tuple #[.string a,I0 i])=.returned (.tuple #[.string b,I0 j]):=by rw[h,h']
theorem A19{w1 w2:FV}(h:B0 w w1)(h':B0 w1 w2):B0 w w2:=h.trans (h'.mono h.size)
theorem BM7(d m:List UInt8):(AQ d.toArray)++(AQ #[46])++(AQ m.toArray)=⟨(d++46::m).toArray⟩:=by
 apply ByteArray.ext
 simp[ByteArray.data_append]
theorem B43:prog.globalNamed "internal/strconv.uint64pow10" =some 1:=by kernel_rfl
theorem A20(htab:Lib.TabIs prog w "internal/strconv.uint64pow10" .u64 Lib.pow10Tab):1<w.heap.size:=by
 have hc:=htab.cell B43 0 (by decide);unfold World.cell? at hc
 cases ho:w.heap[1]? with
 |none=>simp[ho]at hc
 |some o=>exact(Array.getElem?_eq_some_iff.1 ho).1
theorem vZ{w':FV}(htab:Lib.TabIs prog w "internal/strconv.uint64pow10" .u64 Lib.pow10Tab)(hb:B0 w w'):Lib.TabIs prog w' "internal/strconv.uint64pow10" .u64 Lib.pow10Tab:=
 var?_below hb B43 (A20 htab) htab
theorem jZ(z:Int)(w:FV)(htab:Lib.TabIs prog w "internal/strconv.uint64pow10" .u64 Lib.pow10Tab):
  FX prog 143 #[I0 z] w (R0 w (.tuple #[S0 (QJ z),I0 (dX z)])):=by
 cases hg:KL z
 .have H:=G7 (A85 hg);have Hg:=G7 hg;clear hg htab;go_enter func143,ntmps143;go_wp2_with fail;refine(JH z _).mono ?_;rintro e w1 ⟨rfl,rfl⟩;rw[G6 Hg];go_wp2_with fail
  go_ret2
  exact⟨vY (by rw[(G6 H).1]) (G6 H).2.symm,Below.refl _ _⟩
 have hz:=LY.1 hg;have H:=G7 (jB hg);have Hg:=G7 hg;have q0:(z/2147483648)=((z/2147483648).toNat:Int):=by omega
 have r0:(z%2147483648)=((z%2147483648).toNat:Int):=by omega
 obtain⟨q,hq⟩:∃q,(z/2147483648).toNat=q:=⟨_,rfl⟩;obtain⟨r,hr⟩:∃r,(z%2147483648).toNat=r:=⟨_,rfl⟩;have q1:q<2147483648:=by omega
 have r1:r<2147483648:=by omega
 rw[hq]at q0;rw[hr]at r0;rw[hq,hr]at H;have Ez:Hid (IY z=(q:Int)):=G7 (by rw[LZ hg];exact q0);have Cz:Hid (lW z=(r:Int)):=G7 (by rw[XI hg];exact r0);have Htab:=G7 htab;have Hiq:=G7 (Lib.itoa_nonneg q);have Hir:=G7 (Lib.itoa_nonneg r);have lq:=iZ 9 q (by omega);have lr:=iZ 9 r (by omega);clear hg hz q0 r0 hq hr htab;go_enter func143,ntmps143;go_wp2_with fail;refine(JH z _).mono ?_;rintro e w1 ⟨rfl,rfl⟩;rw[G6 Hg];go_wp2_with fail;refine(PW z _).mono ?_;rintro e w2 ⟨rfl,rfl⟩;rw[G6 Ez];go_wp2_with fail;refine(strconv_Itoa _ (by omega) (by omega) _ (G6 Htab)).mono ?_;rintro e w3 ⟨rfl,k,os,hw3⟩;have hb3:B0 w2 w3:=by rw[hw3];exact jY w2 k os
 clear hw3;rw[G6 Hiq];obtain⟨D,hD⟩:∃D,EK q=D:=⟨_,rfl⟩;rw[hD]at lq H⊢;clear hD;go_wp2_with fail;refine(dG z _).mono ?_;rintro e w4 ⟨rfl,rfl⟩;rw[G6 Cz];go_wp2_with fail;refine(strconv_Itoa _ (by omega) (by omega) _ (vZ (G6 Htab) hb3)).mono ?_;rintro e w5 ⟨rfl,k,os,hw5⟩;have hb5:B0 w2 w5:=A19 hb3 (by rw[hw5];exact jY w4 k os);clear hw5;rw[G6 Hir];obtain⟨R,hR⟩:∃R,EK r=R:=⟨_,rfl⟩;rw[hR]at lr H⊢;clear hR Hiq Hir Ez Cz Hg hb3;have zD:(AQ D.toArray).size=D.length:=DL ⟨D.toArray⟩;have zR:(AQ R.toArray).size=R.length:=DL ⟨R.toArray⟩;go_wp2_with fail
 go_ret2
 exact⟨vY (by rw[(G6 H).1];exact BM7 D R) (G6 H).2.symm,hb5⟩
theorem wR(z:Int)(w:FV):
  FX prog 120 #[I0 z] w fun e w'=>e=.returned (.tuple #[I0 (iG z),I0 (VP z)])/\w'=w:=by
 cases hg:KL z
 .have H:=G7 (AR6 hg);have Hg:=G7 hg;clear hg;go_enter func120,ntmps120;go_wp2_with fail;refine(JH z _).mono ?_;rintro e w1 ⟨rfl,rfl⟩;rw[G6 Hg];go_wp2_with fail
  go_ret2
  exact⟨OV (G6 H).1.symm (G6 H).2.symm,rfl⟩
 have hz:=LY.1 hg;have h0:=hz.1;have h1:=hz.2;clear hz
 cases hi:zIn (z%2147483648+1)
 .have H:=G7 (AF6 hg hi);have Hg:=G7 hg;have hf:(z%2147483648==2147483647)=true:=by
   rw[beq_iff_eq];have:=Int.emod_nonneg z (show (2147483648:Int)≠0 by decide);have:=Int.emod_lt_of_pos z (show (0:Int)<2147483648 by decide);by_cases h:z%2147483648=2147483647
   .exact h
   .rw[PK.2 (by omega)]at hi;exact absurd hi (by decide)
  clear hg hi;go_enter func120,ntmps120;go_wp2_with fail;refine(JH z _).mono ?_;rintro e w1 ⟨rfl,rfl⟩;rw[G6 Hg];go_wp2_with fail;refine(dG z _).mono ?_;rintro e w2 ⟨rfl,rfl⟩;rw[XI (G6 Hg)];go_wp2_with fail
  go_ret2
  exact⟨OV (G6 H).1.symm (G6 H).2.symm,rfl⟩
 .have H:=G7 (oO hg hi);have Hg:=G7 hg;have hf:(z%2147483648==2147483647)=false:=by
   rw[beq_eq_false_iff_ne];have:=(PK.1 hi).2;omega
  clear hg hi;go_enter func120,ntmps120;go_wp2_with fail;refine(JH z _).mono ?_;rintro e w1 ⟨rfl,rfl⟩;rw[G6 Hg];go_wp2_with fail;refine(dG z _).mono ?_;rintro e w2 ⟨rfl,rfl⟩;rw[XI (G6 Hg)];go_wp2_with fail
  go_ret2
  exact⟨OV (G6 H).1.symm (G6 H).2.symm,rfl⟩
