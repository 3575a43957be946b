/-
  Part.
-/
import Derived.Test.YtkpojhhfjddegaaGreatDoorLOA
import Derived.Test.YtkpojhhfjddegaaGreatDoorRows
import Derived.WalkSpells
import Derived.WalkLawsBesides
import Derived.Test.YtkpojhhfjddegaaGreatDoorShelf
set_option maxRecDepth 20000
set_option maxHeartbeats 8000000
namespace Go.Proofs.YtkpojhhfjddegaaGreatDoor
open Go.RowKit Go.Proofs.Tryz
open _root_.ByteArray renaming mk->AU
open _root_.List renaming take_of_length_le->BO
open Go.Lib renaming size_eq->DU,decDigits->EN,indexByte->F7
open Go.Ending renaming returned->DY
open Go renaming World->FX,Calls->G5
variable{l:List UInt8}{u:Nat}{a:ByteArray}{z:Int}{w:FX}
def isD(c:UInt8):Bool:=decide (48<=c.toNat)&&decide (c.toNat<=57)
theorem XL{c:UInt8}:isD c=true↔48<=c.toNat/\c.toNat<=57:=by simp[isD]
def num(l:List UInt8):Nat:=l.foldl (fun n c=>10*n+(c.toNat-48)) 0
theorem rM(l:List UInt8)(c:UInt8):num (l++[c])=10*num l+(c.toNat-48):=by simp[num]
theorem AM1(l:List UInt8):l=[]\/∃a c,l=a++[c]:=by
 cases h:l.reverse with
 |nil=>exact .inl (by simpa using h)
 |cons c r=>exact .inr ⟨r.reverse,c,by have:=congrArg List.reverse h;simpa using this⟩
theorem CL2(l:List UInt8)(h:l.all isD=true):num l<10^l.length:=by
 obtain⟨n,hn⟩:∃n,l.length=n:=⟨_,rfl⟩
 induction n generalizing l with
 |zero=>rw[List.length_eq_zero_iff.1 hn];decide
 |succ n ih=>
  rcases AM1 l with rfl|⟨a,c,rfl⟩
  .simp at hn
  .simp only[List.all_append,Bool.and_eq_true,List.all_cons,List.all_nil,Bool.and_true]at h;have h1:=ih a h.1 (by simpa using hn);have h2:=XL.1 h.2;rw[rM,List.length_append,List.length_singleton,Nat.pow_succ];omega
def PL(l:List UInt8):Bool:=decide (1<=l.length)&&decide (l.length<=10)&& !(decide (1<l.length)&&l.head?==some 48)&&l.all isD
def kF(l:List UInt8):Int:=if PL l then(num l:Int)else 0
theorem XM(h:PL l=true):kF l=num l:=by rw[kF,if_pos h]
theorem SX(h:PL l=false):kF l=0:=by rw[kF,h];rfl
theorem kG:PL l=true↔1<=l.length/\l.length<=10/\(1<l.length->l.head? ≠some 48)/\l.all isD=true:=by
 simp only[PL,Bool.and_eq_true,decide_eq_true_eq,Bool.not_eq_true',Bool.and_eq_false_imp,beq_eq_false_iff_ne,ne_eq];constructor
 .rintro⟨⟨⟨a,b⟩,c⟩,d⟩;exact⟨a,b,c,d⟩
 .rintro⟨a,b,c,d⟩;exact⟨⟨⟨a,b⟩,c⟩,d⟩
theorem iY(h:¬ (1<=l.length/\l.length<=10/\(1<l.length->l.head? ≠some 48)/\l.all isD=true)):PL l=false:=by
 cases hp:PL l with
 |false=>rfl
 |true=>exact absurd (kG.1 hp) h
theorem CV8(h:u<10):EN u=[UInt8.ofNat (48+u)]:=by rw[EN,dif_pos h]
theorem decb(h:¬u<10):EN u=EN (u/10)++[UInt8.ofNat (48+u%10)]:=by rw[EN,dif_neg h]
theorem bJ{d:Nat}(h:d<10):(UInt8.ofNat (48+d)).toNat=48+d:=by rw[UInt8.toNat_ofNat'];omega
theorem B08{d:Nat}(h:d<10):isD (UInt8.ofNat (48+d))=true:=XL.2 (by rw[bJ h];omega)
theorem kH(u:Nat):(EN u).all isD=true/\num (EN u)=u/\1<=(EN u).length/\(u≠0->(EN u).head? ≠some 48):=by
 induction u using Nat.strongRecOn with
 |_ u ih=>
  by_cases h:u<10
  .rw[CV8 h];refine⟨by rw[List.all_cons,List.all_nil,B08 h];rfl,?_,by simp,?_⟩
   .show 10*0+((UInt8.ofNat (48+u)).toNat-48)=u;rw[bJ h];omega
   .intro h0 e;have h1:=congrArg UInt8.toNat (Option.some.inj e);rw[bJ h]at h1;have h2:(48:UInt8).toNat=48:=rfl;omega
  .rw[decb h];obtain⟨i1,i2,i3,i4⟩:=ih (u/10) (by omega);refine⟨by rw[List.all_append,i1,List.all_cons,B08 (Nat.mod_lt u (by decide:0<10)),List.all_nil];rfl,?_,by simp,?_⟩
   .rw[rM,i2,bJ (Nat.mod_lt u (by decide))];omega
   .intro _;have i5:=i4 (by omega)
    cases hd:EN (u/10)with
    |nil=>rw[hd]at i3;simp at i3
    |cons c r=>rw[hd]at i5;simpa using i5
theorem kJ(k:Nat):∀u,u<10^(k+1)->(EN u).length<=k+1:=by
 induction k with
 |zero=>intro u hu;rw[CV8 (by simpa using hu)];simp
 |succ k ih=>
  intro u hu;by_cases h:u<10
  .rw[CV8 h];simp
  .rw[decb h];have:=ih (u/10) (by rw[Nat.pow_succ]at hu;omega);simp;omega
theorem C54(h:1<(EN u).length):u≠0:=by
 rintro rfl;rw[CV8 (by decide)]at h;simp at h
theorem AC1(h:u<10000000000):PL (EN u)=true:=by
 obtain⟨i1,i2,i3,i4⟩:=kH u;exact kG.2 ⟨i3,kJ 9 u h,fun hl=>i4 (C54 hl),i1⟩
def WM(l:List UInt8):List UInt8:=l.takeWhile (fun c=>c !=46)
def WO(l:List UInt8):List UInt8:=(l.dropWhile (fun c=>c !=46)).drop 1
theorem B09{a b:List UInt8}(h:∀c∈a,c≠46):WM (a++46::b)=a/\WO (a++46::b)=b:=by
 have hp:∀c∈a,(c !=46)=true:=fun c hc=>by simpa using h c hc
 constructor
 .rw[WM,List.takeWhile_append_of_pos hp];simp
 .rw[WO,List.dropWhile_append_of_pos hp];simp
theorem BL2(h:∀c∈l,c≠46):WM l=l/\WO l=[]:=by
 have hp:∀c∈l,(c !=46)=true:=fun c hc=>by simpa using h c hc
 constructor
 .have:=List.takeWhile_append_of_pos (l₂:=[]) hp;rw[WM];simpa using this
 .have:=List.dropWhile_append_of_pos (l₂:=[]) hp;rw[WO];simp at this;rw[this];rfl
theorem B12(l:List UInt8):(∀c∈l,c≠46)\/∃a b,l=a++46::b/\∀c∈a,c≠46:=by
 induction l with
 |nil=>exact .inl (by simp)
 |cons x l ih=>
  by_cases hx:x=46
  .subst hx;exact .inr ⟨[],l,rfl,by simp⟩
  .rcases ih with h|⟨a,b,rfl,h⟩
   .exact .inl (by simpa [hx]using h)
   .exact .inr ⟨x::a,b,rfl,by simpa [hx]using h⟩
theorem C55(h:l.all isD=true):∀c∈l,c≠46:=by
 intro c hc e;subst e;exact absurd (List.all_eq_true.1 h 46 hc) (by decide)
def iM(l:List UInt8):Int:=if PL (WM l)&&PL (WO l)then L6 (num (WM l)) (num (WO l))else 0
def kK(l:List UInt8):Int:=if PL (WM l)&&PL (WO l)then O7 (num (WM l)) (num (WO l))else 2
theorem rO(h:PL (WM l)=false\/PL (WO l)=false):iM l=0/\kK l=2:=by
 rcases h with h|h<;>simp[iM,kK,h]
theorem wH(h:PL (WM l)=true)(h':PL (WO l)=true):iM l=L6 (num (WM l)) (num (WO l))/\kK l=O7 (num (WM l)) (num (WO l)):=by
 simp[iM,kK,h,h']
def RI(z:Int):List UInt8:=if KP z then EN (z/2147483648).toNat++46::EN (z%2147483648).toNat else []
def gV(z:Int):Int:=if KP z then 0 else 3
theorem AC2(h:KP z=false):RI z=[]/\gV z=3:=by simp[RI,gV,h]
theorem kL(h:KP z=true):RI z=EN (z/2147483648).toNat++46::EN (z%2147483648).toNat/\gV z=0:=by simp[RI,gV,h]
theorem B13(h:KP z=true):iM (RI z)=z/\kK (RI z)=0:=by
 have hz:=MC.1 h;obtain⟨i1,i2,_,_⟩:=kH (z/2147483648).toNat;obtain⟨_,j2,_,_⟩:=kH (z%2147483648).toNat;obtain⟨c1,c2⟩:=B09 (b:=EN (z%2147483648).toNat) (C55 i1);rw[(kL h).1];obtain⟨r1,r2⟩:=wH (l:=EN (z/2147483648).toNat++46::EN (z%2147483648).toNat) (by rw[c1];exact AC1 (by omega)) (by rw[c2];exact AC1 (by omega));rw[r1,r2,c1,c2,i2,j2];obtain⟨m1,m2⟩:=UR (e:=((z/2147483648).toNat:Int)) (c:=((z%2147483648).toNat:Int)) (QF.2 (by omega)) (QF.2 (by omega));rw[m1,m2,Int.toNat_of_nonneg (by omega),Int.toNat_of_nonneg (by omega)];exact⟨by omega,rfl⟩
theorem TQ{a b:Bool}(h:a=b):DY (.bool a)=.returned (.bool b):=by rw[h]
theorem JJ(z:Int)(w:FX):
  G5 prog 106 #[I0 z] w fun e w'=>e=.returned (.bool (KP z))/\w'=w:=by
 go_enter func106,ntmps106
 go_wp2
 go_ret;exact⟨TQ (by rw[Bool.eq_iff_iff,MC,beq_iff_eq];omega),rfl⟩
theorem VF(e c:Int)(w:FX):
  G5 prog 105 #[I0 e,I0 c] w fun x w'=>x=.returned (.tuple #[I0 (L6 e c),I0 (O7 e c)])/\w'=w:=by
 by_cases h1:e<0
 .have H:=G9 (iQ (e:=e) (c:=c) (.inl (A96 (by omega))));go_enter func105,ntmps105
  go_wp2
  go_ret2
  exact⟨PU (G8 H).1.symm (G8 H).2.symm,rfl⟩
 by_cases h2:2147483647<e
 .have H:=G9 (iQ (e:=e) (c:=c) (.inl (A96 (by omega))));go_enter func105,ntmps105
  go_wp2
  go_ret2
  exact⟨PU (G8 H).1.symm (G8 H).2.symm,rfl⟩
 by_cases h3:c<0
 .have H:=G9 (iQ (e:=e) (c:=c) (.inr (A96 (by omega))));go_enter func105,ntmps105
  go_wp2
  go_ret2
  exact⟨PU (G8 H).1.symm (G8 H).2.symm,rfl⟩
 by_cases h4:2147483647<c
 .have H:=G9 (iQ (e:=e) (c:=c) (.inr (A96 (by omega))));go_enter func105,ntmps105
  go_wp2
  go_ret2
  exact⟨PU (G8 H).1.symm (G8 H).2.symm,rfl⟩
 have H:=G9 (UR (e:=e) (c:=c) (QF.2 (by omega)) (QF.2 (by omega)));go_enter func105,ntmps105
 go_wp2
 go_ret2
 exact⟨PU ((C30 (by omega) (by omega) (by omega) (by omega)).trans (G8 H).1.symm) (G8 H).2.symm,rfl⟩
theorem QM(z:Int)(w:FX):
  G5 prog 65 #[I0 z] w fun e w'=>e=.returned (I0 (J4 z))/\w'=w:=by
 cases hg:KP z
 .have H:=G9 (vC hg);have Hg:=G9 hg;clear hg;go_enter func65,ntmps65;go_wp2_with fail;refine(JJ z _).mono ?_;rintro e w1 ⟨rfl,rfl⟩;rw[G8 Hg];go_wp2_with fail;go_ret;exact⟨qV (G8 H).symm,rfl⟩
 .have H:=G9 (MF hg);have Hg:=G9 hg;clear hg;go_enter func65,ntmps65;go_wp2_with fail;refine(JJ z _).mono ?_;rintro e w1 ⟨rfl,rfl⟩;rw[G8 Hg];go_wp2_with fail;go_ret;exact⟨qV (G8 H).symm,rfl⟩
theorem fG(z:Int)(w:FX):
  G5 prog 157 #[I0 z] w fun e w'=>e=.returned (I0 (o9 z))/\w'=w:=by
 cases hg:KP z
 .have H:=G9 (AV2 hg);have Hg:=G9 hg;clear hg;go_enter func157,ntmps157;go_wp2_with fail;refine(JJ z _).mono ?_;rintro e w1 ⟨rfl,rfl⟩;rw[G8 Hg];go_wp2_with fail;go_ret;exact⟨qV (G8 H).symm,rfl⟩
 .have H:=G9 (YM hg);have Hg:=G9 hg;clear hg;go_enter func157,ntmps157;go_wp2_with fail;refine(JJ z _).mono ?_;rintro e w1 ⟨rfl,rfl⟩;rw[G8 Hg];go_wp2_with fail;go_ret;have h:=MC.1 (G8 Hg);exact⟨qV ((BH3 h.1 h.2).trans (G8 H).symm),rfl⟩
theorem AQ3(s:ByteArray):s.data.toList.length=s.size:=by simp
theorem TB{i j:Int}{a b:Bool}(h:i=j)(h':a=b):DY (.tuple #[.int .i64 i,.bool a])=.returned (.tuple #[.int .i64 j,.bool b]):=by rw[h,h']
theorem CY7(s:ByteArray)(h:0<s.size):s.data.toList.head?=some s[0]:=by
 rw[List.head?_eq_getElem?,List.getElem?_eq_getElem (by simpa using h)];rfl
theorem AE7(s:ByteArray)(k:Nat)(h:k<s.size):num (s.data.toList.take (k+1))=10*num (s.data.toList.take k)+(s[k].toNat-48):=by
 rw[jO s k h,rM]
theorem xX(s:ByteArray)(k:Nat)(h:k<10)(ha:(s.data.toList.take k).all isD=true):num (s.data.toList.take k)<1000000000:=by
 have h1:=CL2 _ ha;have h2:(s.data.toList.take k).length<=9:=by rw[List.length_take];omega
 have h3:10^(s.data.toList.take k).length<=10^9:=Nat.pow_le_pow_right (by decide) h2;have h4:(10:Nat)^9=1000000000:=by decide
 omega
theorem YX(s:ByteArray)(w:FX)(hs:s.size<=140737488355328):
  G5 prog 104 #[.string s] w fun e w'=>e=.returned (.tuple #[.int .i64 (kF s.data.toList),.bool (PL s.data.toList)])/\w'=w:=by
 have hz:=AQ3 s;by_cases h1:s.size<1
 .have hp:PL s.data.toList=false:=iY (by omega);have H:=G9 hp;clear hp;go_enter func104,ntmps104
  go_wp2
  go_ret2
  exact⟨TB (SX (G8 H)).symm (G8 H).symm,rfl⟩
 by_cases h2:10<s.size
 .have hp:PL s.data.toList=false:=iY (by omega);have H:=G9 hp;clear hp;go_enter func104,ntmps104
  go_wp2
  go_ret2
  exact⟨TB (SX (G8 H)).symm (G8 H).symm,rfl⟩
 have hhd:=CY7 s (by omega);have h0:0<s.size:=by omega
 by_cases h3:1<s.size/\s[0]=48
 .have hp:PL s.data.toList=false:=iY (by
   rintro⟨_,_,h,_⟩;exact h (by omega) (by rw[hhd,h3.2]))
  have H:=G9 hp;have h4:((s[0].toNat:Int)==48)=true:=by rw[h3.2];rfl
  have h5:=h3.1;clear hp h3 hhd;go_enter func104,ntmps104
  go_wp2
  go_ret2
  exact⟨TB (SX (G8 H)).symm (G8 H).symm,rfl⟩
 have Hok:Hid (s.data.toList.all isD=true->PL s.data.toList=true):=G9 (fun h=>kG.2 ⟨by omega,by omega,fun hl e=>h3 ⟨by omega,by rw[hhd]at e;exact Option.some.inj e⟩,h⟩);have Hno:Hid (s.data.toList.all isD=false->PL s.data.toList=false):=G9 (fun h=>iY (fun hh=>by rw[h]at hh;exact absurd hh.2.2.2 (by decide)));have h4:1<s.size->((s[0].toNat:Int)==48)=false:=fun hl=>by
  rw[beq_eq_false_iff_ne];intro e;exact h3 ⟨hl,UInt8.toNat_inj.1 (by show s[0].toNat=48;omega)⟩
 clear h3 hhd;by_cases h5:1<s.size
 .have h6:=h4 h5;clear h4;go_enter func104,ntmps104
  go_wp2
  clear h6
  go_loop [4,26] (fun n i=>∃k:Nat,k<=s.size/\i=.int .i64 k/\n=.int .i64 (num (s.data.toList.take k):Int)/\(s.data.toList.take k).all isD=true) (fun _ i=>s.size-(intOf i).toNat)
  case atStart=>exact⟨0,Nat.zero_le _,rfl,rfl,by simp⟩
  case round=>
   obtain⟨k,hk,rfl,rfl,hall⟩:=hrel;have A09:=G9 hall;by_cases hlt:k<s.size
   .have hsm:=xX s k (by omega) hall;have Hnt:=G9 (AE7 s k hlt);clear hall;obtain⟨n,hn⟩:∃n,num (s.data.toList.take k)=n:=⟨_,rfl⟩;rw[hn]at hsm Hnt⊢;clear hn;by_cases hd:isD s[k]=true
    .have hd1:=(XL.1 hd).1;have hd2:=(XL.1 hd).2;have Hd:=G9 hd;clear hd
     go_wp2
     go_round
     case rel=>exact⟨k+1,by omega,by go_num,by rw[G8 Hnt];go_num,VP s k hlt isD (G8 A09) (G8 Hd)⟩
     case measure=>simp[intOf];omega
    .have hd':isD s[k]=false:=by simpa using hd
     have hp:=G8 Hno (dY s k hlt isD hd');have hq:s[k].toNat<48\/57<s[k].toNat:=by
      by_cases hc:48<=s[k].toNat/\s[k].toNat<=57
      .exact absurd (XL.2 hc) hd
      .omega
     have H:=G9 hp;clear hp hd hd';rcases hq with hq|hq
     .go_wp2
      go_ret2
      exact⟨TB (SX (G8 H)).symm (G8 H).symm,rfl⟩
     .go_wp2
      go_ret2
      exact⟨TB (SX (G8 H)).symm (G8 H).symm,rfl⟩
   .have hp:=G8 Hok (ZN s k (by omega) isD hall);have H:=G9 hp;have hkk:s.data.toList.take k=s.data.toList:=BO (by omega);rw[hkk];clear hp hall A09 hkk
    go_wp2
    go_ret2
    exact⟨TB (XM (G8 H)).symm (G8 H).symm,rfl⟩
 .clear h4;go_enter func104,ntmps104
  go_wp2
  go_loop [4,26] (fun n i=>∃k:Nat,k<=s.size/\i=.int .i64 k/\n=.int .i64 (num (s.data.toList.take k):Int)/\(s.data.toList.take k).all isD=true) (fun _ i=>s.size-(intOf i).toNat)
  case atStart=>exact⟨0,Nat.zero_le _,rfl,rfl,by simp⟩
  case round=>
   obtain⟨k,hk,rfl,rfl,hall⟩:=hrel;have A09:=G9 hall;by_cases hlt:k<s.size
   .have hsm:=xX s k (by omega) hall;have Hnt:=G9 (AE7 s k hlt);clear hall;obtain⟨n,hn⟩:∃n,num (s.data.toList.take k)=n:=⟨_,rfl⟩;rw[hn]at hsm Hnt⊢;clear hn;by_cases hd:isD s[k]=true
    .have hd1:=(XL.1 hd).1;have hd2:=(XL.1 hd).2;have Hd:=G9 hd;clear hd
     go_wp2
     go_round
     case rel=>exact⟨k+1,by omega,by go_num,by rw[G8 Hnt];go_num,VP s k hlt isD (G8 A09) (G8 Hd)⟩
     case measure=>simp[intOf];omega
    .have hd':isD s[k]=false:=by simpa using hd
     have hp:=G8 Hno (dY s k hlt isD hd');have hq:s[k].toNat<48\/57<s[k].toNat:=by
      by_cases hc:48<=s[k].toNat/\s[k].toNat<=57
      .exact absurd (XL.2 hc) hd
      .omega
     have H:=G9 hp;clear hp hd hd';rcases hq with hq|hq
     .go_wp2
      go_ret2
      exact⟨TB (SX (G8 H)).symm (G8 H).symm,rfl⟩
     .go_wp2
      go_ret2
      exact⟨TB (SX (G8 H)).symm (G8 H).symm,rfl⟩
   .have hp:=G8 Hok (ZN s k (by omega) isD hall);have H:=G9 hp;have hkk:s.data.toList.take k=s.data.toList:=BO (by omega);rw[hkk];clear hp hall A09 hkk
    go_wp2
    go_ret2
    exact⟨TB (XM (G8 H)).symm (G8 H).symm,rfl⟩
theorem B66{a b:List UInt8}(h:∀c∈a,c≠46):F7 (a++46::b) 46=(a.length:Int):=by
 induction a with
 |nil=>rfl
 |cons x a ih=>
  have hx:(x==46)=false:=by simpa using h x (by simp)
  have ih':=ih (fun c hc=>h c (by simp[hc]));show F7 (x::(a++46::b)) 46=_;rw[F7,if_neg (by simp[hx]),ih',if_neg (by simp)];simp
theorem AQ4(h:∀c∈l,c≠46):F7 l 46=-1:=by
 induction l with
 |nil=>rfl
 |cons x a ih=>
  have hx:(x==46)=false:=by simpa using h x (by simp)
  have ih':=ih (fun c hc=>h c (by simp[hc]));rw[F7,if_neg (by simp[hx]),ih'];rfl
theorem C05(h:a.data.toList=l):a=⟨l.toArray⟩:=by rw[<-h]
theorem B67(a b:List UInt8):(AU (a++46::b).toArray).extract 0 a.length=⟨a.toArray⟩:=by
 apply C05
 rw[<-Lib.toList_data,Lib.extract_toList];show ((a++46::b).drop 0).take (a.length-0)=a;simp
theorem BQ0(a b:List UInt8)(n:Nat)(hn:n=(a++46::b).length):(AU (a++46::b).toArray).extract (a.length+1) n=⟨b.toArray⟩:=by
 subst hn
 apply C05
 rw[<-Lib.toList_data,Lib.extract_toList];show ((a++46::b).drop (a.length+1)).take ((a++46::b).length-(a.length+1))=b;rw[show (a++46::b).drop (a.length+1)=b from by simp];exact BO (by simp;omega)
theorem B68{b c d:ByteArray}{x:Bool}(h:a=b)(h':c=d):DY (.tuple #[.string a,.string c,.bool x])=.returned (.tuple #[.string b,.string d,.bool x]):=by rw[h,h']
theorem A52(l:List UInt8)(w:FX)(hl:l.length<=140737488355328):
  G5 prog 156 #[.string ⟨l.toArray⟩,.string ⟨#[46]⟩] w fun e w'=>∃b,e=.returned (.tuple #[.string ⟨(WM l).toArray⟩,.string ⟨(WO l).toArray⟩,.bool b])/\Below w.heap.size w w':=by
 have hz:(AU l.toArray).size=l.length:=DU ⟨l.toArray⟩;rcases B12 l with hd|⟨a,b,rfl,hd⟩
 .have H:=G9 (BL2 hd);have HI:=G9 (AQ4 hd);clear hd;go_enter func156,ntmps156;go_wp2_with fail;refine(stringslite_Index_one ⟨l.toArray⟩ 46 _).mono ?_;rintro e w1 ⟨rfl,rfl⟩;rw[show F7 (AU l.toArray).data.toList 46=-1 from G8 HI];go_wp2_with fail
  go_ret3
  exact⟨_,B68 (by rw[(G8 H).1]) (by rw[(G8 H).2]),Below.refl _ _⟩
 .have H:=G9 (B09 (b:=b) hd);have HI:=G9 (B66 (b:=b) hd);have hlen:(a++46::b).length=a.length+1+b.length:=by simp;omega
  rw[hlen]at hz hl;have HL:=G9 hlen;have H1:=G9 (B67 a b);have H2:=G9 (BQ0 a b _ rfl);clear hd hlen;obtain⟨S,hS⟩:∃S,(AU (a++46::b).toArray)=S:=⟨_,rfl⟩;rw[hS]at hz H1 H2⊢;have HI':Hid (F7 S.data.toList 46=(a.length:Int)):=G9 (by rw[<-hS];exact G8 HI);have HE:Hid (S.extract (a.length+1) (a.length+1+b.length)=⟨b.toArray⟩):=G9 (by rw[<-G8 HL];exact G8 H2);clear hS HI H2;have c1:(0:Int)<=(a.length:Int):=by omega
  have c2:(a.length:Int)<=(S.size:Int):=by omega
  have c3:(0:Int)<=(a.length:Int)+1:=by omega
  have c4:(a.length:Int)+1<=(S.size:Int):=by omega
  go_enter func156,ntmps156;go_wp2_with fail;refine(stringslite_Index_one S 46 _).mono ?_;rintro e w1 ⟨rfl,rfl⟩;rw[G8 HI'];go_wp2_with fail;go_region
  go_wp2
  go_ret3
  exact⟨_,B68 (by rw[(G8 H).1];exact G8 H1) (by rw[(G8 H).2];exact G8 HE),(Below.refl _ _).drew⟩
theorem A53(l:List UInt8)(w:FX)(hl:l.length<=140737488355328):
  G5 prog 103 #[.string ⟨l.toArray⟩,.string ⟨#[46]⟩] w fun e w'=>∃b,e=.returned (.tuple #[.string ⟨(WM l).toArray⟩,.string ⟨(WO l).toArray⟩,.bool b])/\Below w.heap.size w w':=by
 go_enter func103,ntmps103;go_wp2_with fail;refine(A52 l _ hl).mono ?_;rintro e w1 ⟨b,rfl,hb1⟩;go_wp2_with fail
 go_ret3
 exact⟨_,rfl,hb1⟩
theorem C83(l:List UInt8):(WM l).length<=l.length/\(WO l).length<=l.length:=by
 constructor
 .exact(List.takeWhile_prefix _).length_le
 .rw[WO,List.length_drop];have:=(List.dropWhile_suffix (l:=l) (fun c=>c !=46)).length_le;omega
theorem B69(l:List UInt8)(w:FX)(hl:l.length<=140737488355328):
  G5 prog 64 #[.string ⟨l.toArray⟩] w fun e w'=>e=.returned (.tuple #[.int .i64 (iM l),.int .i64 (kK l)])/\Below w.heap.size w w':=by
 have hc:=C83 l;have c1:=hc.1;have c2:=hc.2;clear hc
 cases h1:PL (WM l)
 .have H:=G9 (rO (.inl h1));have HA:Hid (kF (WM l)=0/\PL (WM l)=false):=G9 ⟨SX h1,h1⟩;clear h1;go_enter func64,ntmps64;go_wp2_with fail;refine(A53 l _ hl).mono ?_;rintro e w1 ⟨b,rfl,hb1⟩;go_wp2_with fail;refine(YX ⟨(WM l).toArray⟩ _ (by rw[DU];show (WM l).length<=_;omega)).mono ?_;rintro e w2 ⟨rfl,rfl⟩;rw[show (AU (WM l).toArray).data.toList=WM l from rfl,(G8 HA).1,(G8 HA).2];go_wp2_with fail;refine(YX ⟨(WO l).toArray⟩ _ (by rw[DU];show (WO l).length<=_;omega)).mono ?_;rintro e w2 ⟨rfl,rfl⟩;rw[show (AU (WO l).toArray).data.toList=WO l from rfl];obtain⟨B,hB⟩:∃B,PL (WO l)=B:=⟨_,rfl⟩;obtain⟨M,hM⟩:∃M,kF (WO l)=M:=⟨_,rfl⟩;rw[hB,hM];clear hB hM HA;go_wp2_with fail
  go_ret2
  exact⟨PU (G8 H).1.symm (G8 H).2.symm,hb1⟩
 cases h2:PL (WO l)
 .have H:=G9 (rO (.inr h2));have HA:Hid (kF (WM l)=num (WM l)/\PL (WM l)=true):=G9 ⟨XM h1,h1⟩;have HZ:Hid (kF (WO l)=0/\PL (WO l)=false):=G9 ⟨SX h2,h2⟩;clear h1 h2;go_enter func64,ntmps64;go_wp2_with fail;refine(A53 l _ hl).mono ?_;rintro e w1 ⟨b,rfl,hb1⟩;go_wp2_with fail;refine(YX ⟨(WM l).toArray⟩ _ (by rw[DU];show (WM l).length<=_;omega)).mono ?_;rintro e w2 ⟨rfl,rfl⟩;rw[show (AU (WM l).toArray).data.toList=WM l from rfl,(G8 HA).1,(G8 HA).2];go_wp2_with fail;refine(YX ⟨(WO l).toArray⟩ _ (by rw[DU];show (WO l).length<=_;omega)).mono ?_;rintro e w2 ⟨rfl,rfl⟩;rw[show (AU (WO l).toArray).data.toList=WO l from rfl,(G8 HZ).1,(G8 HZ).2];go_wp2_with fail
  go_ret2
  exact⟨PU (G8 H).1.symm (G8 H).2.symm,hb1⟩
 have H:=G9 (wH h1 h2);have HA:Hid (kF (WM l)=num (WM l)/\PL (WM l)=true):=G9 ⟨XM h1,h1⟩;have HZ:Hid (kF (WO l)=num (WO l)/\PL (WO l)=true):=G9 ⟨XM h2,h2⟩;clear h1 h2;go_enter func64,ntmps64;go_wp2_with fail;refine(A53 l _ hl).mono ?_;rintro e w1 ⟨b,rfl,hb1⟩;go_wp2_with fail;refine(YX ⟨(WM l).toArray⟩ _ (by rw[DU];show (WM l).length<=_;omega)).mono ?_;rintro e w2 ⟨rfl,rfl⟩;rw[show (AU (WM l).toArray).data.toList=WM l from rfl,(G8 HA).1,(G8 HA).2];go_wp2_with fail;refine(YX ⟨(WO l).toArray⟩ _ (by rw[DU];show (WO l).length<=_;omega)).mono ?_;rintro e w2 ⟨rfl,rfl⟩;rw[show (AU (WO l).toArray).data.toList=WO l from rfl,(G8 HZ).1,(G8 HZ).2];go_wp2_with fail;refine(VF _ _ _).mono ?_;rintro e w3 ⟨rfl,rfl⟩;obtain⟨X,hX⟩:∃X,L6 (num (WM l)) (num (WO l))=X:=⟨_,rfl⟩;obtain⟨E,hE⟩:∃E,O7 (num (WM l)) (num (WO l))=E:=⟨_,rfl⟩;rw[hX,hE];rw[hX,hE]at H;clear hX hE HA HZ;go_wp2_with fail
 go_ret2
 exact⟨PU (G8 H).1.symm (G8 H).2.symm,hb1⟩
theorem lM(w:FX)(k:Nat)(os:Array Obj):B0 w (Sort.grow (w.drewN k) os):=
 ⟨rfl,rfl,rfl,by simp[Sort.grow,World.drewN],fun i hi=>by simp[Sort.grow,World.drewN,Array.getElem?_append_left hi]⟩
theorem yA{b:ByteArray}{i j:Int}(h:a=b)(h':i=j):DY (.tuple #[.string a,I0 i])=.returned (.tuple #[.string b,I0 j]):=by rw[h,h']
theorem A58{w1 w2:FX}(h:B0 w w1)(h':B0 w1 w2):B0 w w2:=h.trans (h'.mono h.size)
theorem BQ7(d m:List UInt8):(AU d.toArray)++(AU #[46])++(AU m.toArray)=⟨(d++46::m).toArray⟩:=by
 apply ByteArray.ext
 simp[ByteArray.data_append]
theorem A59:prog.globalNamed "internal/strconv.uint64pow10" =some 1:=by kernel_rfl
theorem A60(htab:Lib.TabIs prog w "internal/strconv.uint64pow10" .u64 Lib.pow10Tab):1<w.heap.size:=by
 have hc:=htab.cell A59 0 (by decide);unfold World.cell? at hc
 cases ho:w.heap[1]? with
 |none=>simp[ho]at hc
 |some o=>exact(Array.getElem?_eq_some_iff.1 ho).1
theorem yB{w':FX}(htab:Lib.TabIs prog w "internal/strconv.uint64pow10" .u64 Lib.pow10Tab)(hb:B0 w w'):Lib.TabIs prog w' "internal/strconv.uint64pow10" .u64 Lib.pow10Tab:=
 var?_below hb A59 (A60 htab) htab
theorem lN(z:Int)(w:FX)(htab:Lib.TabIs prog w "internal/strconv.uint64pow10" .u64 Lib.pow10Tab):
  G5 prog 131 #[I0 z] w (R0 w (.tuple #[S0 (RI z),I0 (gV z)])):=by
 cases hg:KP z
 .have H:=G9 (AC2 hg);have Hg:=G9 hg;clear hg htab;go_enter func131,ntmps131;go_wp2_with fail;refine(JJ z _).mono ?_;rintro e w1 ⟨rfl,rfl⟩;rw[G8 Hg];go_wp2_with fail
  go_ret2
  exact⟨yA (by rw[(G8 H).1]) (G8 H).2.symm,Below.refl _ _⟩
 have hz:=MC.1 hg;have H:=G9 (kL hg);have Hg:=G9 hg;have q0:(z/2147483648)=((z/2147483648).toNat:Int):=by omega
 have r0:(z%2147483648)=((z%2147483648).toNat:Int):=by omega
 obtain⟨q,hq⟩:∃q,(z/2147483648).toNat=q:=⟨_,rfl⟩;obtain⟨r,hr⟩:∃r,(z%2147483648).toNat=r:=⟨_,rfl⟩;have q1:q<2147483648:=by omega
 have r1:r<2147483648:=by omega
 rw[hq]at q0;rw[hr]at r0;rw[hq,hr]at H;have Ez:Hid (J4 z=(q:Int)):=G9 (by rw[MF hg];exact q0);have Cz:Hid (o9 z=(r:Int)):=G9 (by rw[YM hg];exact r0);have Htab:=G9 htab;have Hiq:=G9 (Lib.itoa_nonneg q);have Hir:=G9 (Lib.itoa_nonneg r);have lq:=kJ 9 q (by omega);have lr:=kJ 9 r (by omega);clear hg hz q0 r0 hq hr htab;go_enter func131,ntmps131;go_wp2_with fail;refine(JJ z _).mono ?_;rintro e w1 ⟨rfl,rfl⟩;rw[G8 Hg];go_wp2_with fail;refine(QM z _).mono ?_;rintro e w2 ⟨rfl,rfl⟩;rw[G8 Ez];go_wp2_with fail;refine(strconv_Itoa _ (by omega) (by omega) _ (G8 Htab)).mono ?_;rintro e w3 ⟨rfl,k,os,hw3⟩;have hb3:B0 w2 w3:=by rw[hw3];exact lM w2 k os
 clear hw3;rw[G8 Hiq];obtain⟨D,hD⟩:∃D,EN q=D:=⟨_,rfl⟩;rw[hD]at lq H⊢;clear hD;go_wp2_with fail;refine(fG z _).mono ?_;rintro e w4 ⟨rfl,rfl⟩;rw[G8 Cz];go_wp2_with fail;refine(strconv_Itoa _ (by omega) (by omega) _ (yB (G8 Htab) hb3)).mono ?_;rintro e w5 ⟨rfl,k,os,hw5⟩;have hb5:B0 w2 w5:=A58 hb3 (by rw[hw5];exact lM w4 k os);clear hw5;rw[G8 Hir];obtain⟨R,hR⟩:∃R,EN r=R:=⟨_,rfl⟩;rw[hR]at lr H⊢;clear hR Hiq Hir Ez Cz Hg hb3;have zD:(AU D.toArray).size=D.length:=DU ⟨D.toArray⟩;have zR:(AU R.toArray).size=R.length:=DU ⟨R.toArray⟩;go_wp2_with fail
 go_ret2
 exact⟨yA (by rw[(G8 H).1];exact BQ7 D R) (G8 H).2.symm,hb5⟩
theorem yM(z:Int)(w:FX):
  G5 prog 107 #[I0 z] w fun e w'=>e=.returned (.tuple #[I0 (jP z),I0 (XA z)])/\w'=w:=by
 cases hg:KP z
 .have H:=G9 (AV3 hg);have Hg:=G9 hg;clear hg;go_enter func107,ntmps107;go_wp2_with fail;refine(JJ z _).mono ?_;rintro e w1 ⟨rfl,rfl⟩;rw[G8 Hg];go_wp2_with fail
  go_ret2
  exact⟨PU (G8 H).1.symm (G8 H).2.symm,rfl⟩
 have hz:=MC.1 hg;have h0:=hz.1;have h1:=hz.2;clear hz
 cases hi:zIn (z%2147483648+1)
 .have H:=G9 (AJ7 hg hi);have Hg:=G9 hg;have hf:(z%2147483648==2147483647)=true:=by
   rw[beq_iff_eq];have:=Int.emod_nonneg z (show (2147483648:Int)≠0 by decide);have:=Int.emod_lt_of_pos z (show (0:Int)<2147483648 by decide);by_cases h:z%2147483648=2147483647
   .exact h
   .rw[QF.2 (by omega)]at hi;exact absurd hi (by decide)
  clear hg hi;go_enter func107,ntmps107;go_wp2_with fail;refine(JJ z _).mono ?_;rintro e w1 ⟨rfl,rfl⟩;rw[G8 Hg];go_wp2_with fail;refine(fG z _).mono ?_;rintro e w2 ⟨rfl,rfl⟩;rw[YM (G8 Hg)];go_wp2_with fail
  go_ret2
  exact⟨PU (G8 H).1.symm (G8 H).2.symm,rfl⟩
 .have H:=G9 (qU hg hi);have Hg:=G9 hg;have hf:(z%2147483648==2147483647)=false:=by
   rw[beq_eq_false_iff_ne];have:=(QF.1 hi).2;omega
  clear hg hi;go_enter func107,ntmps107;go_wp2_with fail;refine(JJ z _).mono ?_;rintro e w1 ⟨rfl,rfl⟩;rw[G8 Hg];go_wp2_with fail;refine(fG z _).mono ?_;rintro e w2 ⟨rfl,rfl⟩;rw[YM (G8 Hg)];go_wp2_with fail
  go_ret2
  exact⟨PU (G8 H).1.symm (G8 H).2.symm,rfl⟩
