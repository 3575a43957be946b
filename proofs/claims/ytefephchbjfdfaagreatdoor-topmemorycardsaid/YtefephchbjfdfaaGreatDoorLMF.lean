/-
  Part.
-/
import Derived.Test.YtefephchbjfdfaaGreatDoorLMA
import Derived.Test.YtefephchbjfdfaaGreatDoorRows
import Derived.WalkSpells
import Derived.WalkLawsBesides
import Derived.Test.YtefephchbjfdfaaGreatDoorShelf
set_option maxRecDepth 20000
set_option maxHeartbeats 8000000
namespace Go.Proofs.YtefephchbjfdfaaGreatDoor
open Go.RowKit Go.Proofs.Tryz
open _root_.ByteArray renaming mk->AU
open _root_.List renaming take_of_length_le->BO
open Go.Lib renaming size_eq->DU,decDigits->EN,indexByte->F7
open Go.Ending renaming returned->DY
open Go renaming World->FX,Calls->G5
variable{l:List UInt8}{u:Nat}{a:ByteArray}{z:Int}{w:FX}
def isD(c:UInt8):Bool:=decide (48<=c.toNat)&&decide (c.toNat<=57)
theorem XA{c:UInt8}:isD c=true↔48<=c.toNat/\c.toNat<=57:=by simp[isD]
def num(l:List UInt8):Nat:=l.foldl (fun n c=>10*n+(c.toNat-48)) 0
theorem qO(l:List UInt8)(c:UInt8):num (l++[c])=10*num l+(c.toNat-48):=by simp[num]
theorem AI8(l:List UInt8):l=[]\/∃a c,l=a++[c]:=by
 cases h:l.reverse with
 |nil=>exact .inl (by simpa using h)
 |cons c r=>exact .inr ⟨r.reverse,c,by have:=congrArg List.reverse h;simpa using this⟩
theorem CH7(l:List UInt8)(h:l.all isD=true):num l<10^l.length:=by
 obtain⟨n,hn⟩:∃n,l.length=n:=⟨_,rfl⟩
 induction n generalizing l with
 |zero=>rw[List.length_eq_zero_iff.1 hn];decide
 |succ n ih=>
  rcases AI8 l with rfl|⟨a,c,rfl⟩
  .simp at hn
  .simp only[List.all_append,Bool.and_eq_true,List.all_cons,List.all_nil,Bool.and_true]at h;have h1:=ih a h.1 (by simpa using hn);have h2:=XA.1 h.2;rw[qO,List.length_append,List.length_singleton,Nat.pow_succ];omega
def PK(l:List UInt8):Bool:=decide (1<=l.length)&&decide (l.length<=10)&& !(decide (1<l.length)&&l.head?==some 48)&&l.all isD
def jL(l:List UInt8):Int:=if PK l then(num l:Int)else 0
theorem XB(h:PK l=true):jL l=num l:=by rw[jL,if_pos h]
theorem S9(h:PK l=false):jL l=0:=by rw[jL,h];rfl
theorem jM:PK l=true↔1<=l.length/\l.length<=10/\(1<l.length->l.head? ≠some 48)/\l.all isD=true:=by
 simp only[PK,Bool.and_eq_true,decide_eq_true_eq,Bool.not_eq_true',Bool.and_eq_false_imp,beq_eq_false_iff_ne,ne_eq];constructor
 .rintro⟨⟨⟨a,b⟩,c⟩,d⟩;exact⟨a,b,c,d⟩
 .rintro⟨a,b,c,d⟩;exact⟨⟨⟨a,b⟩,c⟩,d⟩
theorem iF(h:¬ (1<=l.length/\l.length<=10/\(1<l.length->l.head? ≠some 48)/\l.all isD=true)):PK l=false:=by
 cases hp:PK l with
 |false=>rfl
 |true=>exact absurd (jM.1 hp) h
theorem CS3(h:u<10):EN u=[UInt8.ofNat (48+u)]:=by rw[EN,dif_pos h]
theorem decb(h:¬u<10):EN u=EN (u/10)++[UInt8.ofNat (48+u%10)]:=by rw[EN,dif_neg h]
theorem aW{d:Nat}(h:d<10):(UInt8.ofNat (48+d)).toNat=48+d:=by rw[UInt8.toNat_ofNat'];omega
theorem AY0{d:Nat}(h:d<10):isD (UInt8.ofNat (48+d))=true:=XA.2 (by rw[aW h];omega)
theorem jO(u:Nat):(EN u).all isD=true/\num (EN u)=u/\1<=(EN u).length/\(u≠0->(EN u).head? ≠some 48):=by
 induction u using Nat.strongRecOn with
 |_ u ih=>
  by_cases h:u<10
  .rw[CS3 h];refine⟨by rw[List.all_cons,List.all_nil,AY0 h];rfl,?_,by simp,?_⟩
   .show 10*0+((UInt8.ofNat (48+u)).toNat-48)=u;rw[aW h];omega
   .intro h0 e;have h1:=congrArg UInt8.toNat (Option.some.inj e);rw[aW h]at h1;have h2:(48:UInt8).toNat=48:=rfl;omega
  .rw[decb h];obtain⟨i1,i2,i3,i4⟩:=ih (u/10) (by omega);refine⟨by rw[List.all_append,i1,List.all_cons,AY0 (Nat.mod_lt u (by decide:0<10)),List.all_nil];rfl,?_,by simp,?_⟩
   .rw[qO,i2,aW (Nat.mod_lt u (by decide))];omega
   .intro _;have i5:=i4 (by omega)
    cases hd:EN (u/10)with
    |nil=>rw[hd]at i3;simp at i3
    |cons c r=>rw[hd]at i5;simpa using i5
theorem jP(k:Nat):∀u,u<10^(k+1)->(EN u).length<=k+1:=by
 induction k with
 |zero=>intro u hu;rw[CS3 (by simpa using hu)];simp
 |succ k ih=>
  intro u hu;by_cases h:u<10
  .rw[CS3 h];simp
  .rw[decb h];have:=ih (u/10) (by rw[Nat.pow_succ]at hu;omega);simp;omega
theorem C22(h:1<(EN u).length):u≠0:=by
 rintro rfl;rw[CS3 (by decide)]at h;simp at h
theorem A95(h:u<10000000000):PK (EN u)=true:=by
 obtain⟨i1,i2,i3,i4⟩:=jO u;exact jM.2 ⟨i3,jP 9 u h,fun hl=>i4 (C22 hl),i1⟩
def VZ(l:List UInt8):List UInt8:=l.takeWhile (fun c=>c !=46)
def WA(l:List UInt8):List UInt8:=(l.dropWhile (fun c=>c !=46)).drop 1
theorem AY1{a b:List UInt8}(h:∀c∈a,c≠46):VZ (a++46::b)=a/\WA (a++46::b)=b:=by
 have hp:∀c∈a,(c !=46)=true:=fun c hc=>by simpa using h c hc
 constructor
 .rw[VZ,List.takeWhile_append_of_pos hp];simp
 .rw[WA,List.dropWhile_append_of_pos hp];simp
theorem BI1(h:∀c∈l,c≠46):VZ l=l/\WA l=[]:=by
 have hp:∀c∈l,(c !=46)=true:=fun c hc=>by simpa using h c hc
 constructor
 .have:=List.takeWhile_append_of_pos (l₂:=[]) hp;rw[VZ];simpa using this
 .have:=List.dropWhile_append_of_pos (l₂:=[]) hp;rw[WA];simp at this;rw[this];rfl
theorem AY2(l:List UInt8):(∀c∈l,c≠46)\/∃a b,l=a++46::b/\∀c∈a,c≠46:=by
 induction l with
 |nil=>exact .inl (by simp)
 |cons x l ih=>
  by_cases hx:x=46
  .subst hx;exact .inr ⟨[],l,rfl,by simp⟩
  .rcases ih with h|⟨a,b,rfl,h⟩
   .exact .inl (by simpa [hx]using h)
   .exact .inr ⟨x::a,b,rfl,by simpa [hx]using h⟩
theorem C23(h:l.all isD=true):∀c∈l,c≠46:=by
 intro c hc e;subst e;exact absurd (List.all_eq_true.1 h 46 hc) (by decide)
def gV(l:List UInt8):Int:=if PK (VZ l)&&PK (WA l)then L9 (num (VZ l)) (num (WA l))else 0
def jQ(l:List UInt8):Int:=if PK (VZ l)&&PK (WA l)then OC (num (VZ l)) (num (WA l))else 2
theorem qP(h:PK (VZ l)=false\/PK (WA l)=false):gV l=0/\jQ l=2:=by
 rcases h with h|h<;>simp[gV,jQ,h]
theorem vM(h:PK (VZ l)=true)(h':PK (WA l)=true):gV l=L9 (num (VZ l)) (num (WA l))/\jQ l=OC (num (VZ l)) (num (WA l)):=by
 simp[gV,jQ,h,h']
def QX(z:Int):List UInt8:=if KP z then EN (z/2147483648).toNat++46::EN (z%2147483648).toNat else []
def fJ(z:Int):Int:=if KP z then 0 else 3
theorem A96(h:KP z=false):QX z=[]/\fJ z=3:=by simp[QX,fJ,h]
theorem jR(h:KP z=true):QX z=EN (z/2147483648).toNat++46::EN (z%2147483648).toNat/\fJ z=0:=by simp[QX,fJ,h]
theorem AY3(h:KP z=true):gV (QX z)=z/\jQ (QX z)=0:=by
 have hz:=MC.1 h;obtain⟨i1,i2,_,_⟩:=jO (z/2147483648).toNat;obtain⟨_,j2,_,_⟩:=jO (z%2147483648).toNat;obtain⟨c1,c2⟩:=AY1 (b:=EN (z%2147483648).toNat) (C23 i1);rw[(jR h).1];obtain⟨r1,r2⟩:=vM (l:=EN (z/2147483648).toNat++46::EN (z%2147483648).toNat) (by rw[c1];exact A95 (by omega)) (by rw[c2];exact A95 (by omega));rw[r1,r2,c1,c2,i2,j2];obtain⟨m1,m2⟩:=UD (e:=((z/2147483648).toNat:Int)) (c:=((z%2147483648).toNat:Int)) (QA.2 (by omega)) (QA.2 (by omega));rw[m1,m2,Int.toNat_of_nonneg (by omega),Int.toNat_of_nonneg (by omega)];exact⟨by omega,rfl⟩
theorem TF{a b:Bool}(h:a=b):DY (.bool a)=.returned (.bool b):=by rw[h]
theorem JM(z:Int)(w:FX):
  G5 prog 77 #[I0 z] w fun e w'=>e=.returned (.bool (KP z))/\w'=w:=by
 go_enter func77,ntmps77
 go_wp2
 go_ret;exact⟨TF (by rw[Bool.eq_iff_iff,MC,beq_iff_eq];omega),rfl⟩
theorem UR(e c:Int)(w:FX):
  G5 prog 76 #[I0 e,I0 c] w fun x w'=>x=.returned (.tuple #[I0 (L9 e c),I0 (OC e c)])/\w'=w:=by
 by_cases h1:e<0
 .have H:=GH (gX (e:=e) (c:=c) (.inl (A69 (by omega))));go_enter func76,ntmps76
  go_wp2
  go_ret2
  exact⟨PO (G9 H).1.symm (G9 H).2.symm,rfl⟩
 by_cases h2:2147483647<e
 .have H:=GH (gX (e:=e) (c:=c) (.inl (A69 (by omega))));go_enter func76,ntmps76
  go_wp2
  go_ret2
  exact⟨PO (G9 H).1.symm (G9 H).2.symm,rfl⟩
 by_cases h3:c<0
 .have H:=GH (gX (e:=e) (c:=c) (.inr (A69 (by omega))));go_enter func76,ntmps76
  go_wp2
  go_ret2
  exact⟨PO (G9 H).1.symm (G9 H).2.symm,rfl⟩
 by_cases h4:2147483647<c
 .have H:=GH (gX (e:=e) (c:=c) (.inr (A69 (by omega))));go_enter func76,ntmps76
  go_wp2
  go_ret2
  exact⟨PO (G9 H).1.symm (G9 H).2.symm,rfl⟩
 have H:=GH (UD (e:=e) (c:=c) (QA.2 (by omega)) (QA.2 (by omega)));go_enter func76,ntmps76
 go_wp2
 go_ret2
 exact⟨PO ((BZ5 (by omega) (by omega) (by omega) (by omega)).trans (G9 H).1.symm) (G9 H).2.symm,rfl⟩
theorem QG(z:Int)(w:FX):
  G5 prog 44 #[I0 z] w fun e w'=>e=.returned (I0 (J6 z))/\w'=w:=by
 cases hg:KP z
 .have H:=GH (uI hg);have Hg:=GH hg;clear hg;go_enter func44,ntmps44;go_wp2_with fail;refine(JM z _).mono ?_;rintro e w1 ⟨rfl,rfl⟩;rw[G9 Hg];go_wp2_with fail;go_ret;exact⟨qB (G9 H).symm,rfl⟩
 .have H:=GH (MF hg);have Hg:=GH hg;clear hg;go_enter func44,ntmps44;go_wp2_with fail;refine(JM z _).mono ?_;rintro e w1 ⟨rfl,rfl⟩;rw[G9 Hg];go_wp2_with fail;go_ret;exact⟨qB (G9 H).symm,rfl⟩
theorem eG(z:Int)(w:FX):
  G5 prog 157 #[I0 z] w fun e w'=>e=.returned (I0 (nC z))/\w'=w:=by
 cases hg:KP z
 .have H:=GH (AS4 hg);have Hg:=GH hg;clear hg;go_enter func157,ntmps157;go_wp2_with fail;refine(JM z _).mono ?_;rintro e w1 ⟨rfl,rfl⟩;rw[G9 Hg];go_wp2_with fail;go_ret;exact⟨qB (G9 H).symm,rfl⟩
 .have H:=GH (YC hg);have Hg:=GH hg;clear hg;go_enter func157,ntmps157;go_wp2_with fail;refine(JM z _).mono ?_;rintro e w1 ⟨rfl,rfl⟩;rw[G9 Hg];go_wp2_with fail;go_ret;have h:=MC.1 (G9 Hg);exact⟨qB ((BE3 h.1 h.2).trans (G9 H).symm),rfl⟩
theorem AN1(s:ByteArray):s.data.toList.length=s.size:=by simp
theorem SE{i j:Int}{a b:Bool}(h:i=j)(h':a=b):DY (.tuple #[.int .i64 i,.bool a])=.returned (.tuple #[.int .i64 j,.bool b]):=by rw[h,h']
theorem CV2(s:ByteArray)(h:0<s.size):s.data.toList.head?=some s[0]:=by
 rw[List.head?_eq_getElem?,List.getElem?_eq_getElem (by simpa using h)];rfl
theorem AC1(s:ByteArray)(k:Nat)(h:k<s.size):num (s.data.toList.take (k+1))=10*num (s.data.toList.take k)+(s[k].toNat-48):=by
 rw[iV s k h,qO]
theorem xC(s:ByteArray)(k:Nat)(h:k<10)(ha:(s.data.toList.take k).all isD=true):num (s.data.toList.take k)<1000000000:=by
 have h1:=CH7 _ ha;have h2:(s.data.toList.take k).length<=9:=by rw[List.length_take];omega
 have h3:10^(s.data.toList.take k).length<=10^9:=Nat.pow_le_pow_right (by decide) h2;have h4:(10:Nat)^9=1000000000:=by decide
 omega
theorem YM(s:ByteArray)(w:FX)(hs:s.size<=140737488355328):
  G5 prog 75 #[.string s] w fun e w'=>e=.returned (.tuple #[.int .i64 (jL s.data.toList),.bool (PK s.data.toList)])/\w'=w:=by
 have hz:=AN1 s;by_cases h1:s.size<1
 .have hp:PK s.data.toList=false:=iF (by omega);have H:=GH hp;clear hp;go_enter func75,ntmps75
  go_wp2
  go_ret2
  exact⟨SE (S9 (G9 H)).symm (G9 H).symm,rfl⟩
 by_cases h2:10<s.size
 .have hp:PK s.data.toList=false:=iF (by omega);have H:=GH hp;clear hp;go_enter func75,ntmps75
  go_wp2
  go_ret2
  exact⟨SE (S9 (G9 H)).symm (G9 H).symm,rfl⟩
 have hhd:=CV2 s (by omega);have h0:0<s.size:=by omega
 by_cases h3:1<s.size/\s[0]=48
 .have hp:PK s.data.toList=false:=iF (by
   rintro⟨_,_,h,_⟩;exact h (by omega) (by rw[hhd,h3.2]))
  have H:=GH hp;have h4:((s[0].toNat:Int)==48)=true:=by rw[h3.2];rfl
  have h5:=h3.1;clear hp h3 hhd;go_enter func75,ntmps75
  go_wp2
  go_ret2
  exact⟨SE (S9 (G9 H)).symm (G9 H).symm,rfl⟩
 have Hok:Hid (s.data.toList.all isD=true->PK s.data.toList=true):=GH (fun h=>jM.2 ⟨by omega,by omega,fun hl e=>h3 ⟨by omega,by rw[hhd]at e;exact Option.some.inj e⟩,h⟩);have Hno:Hid (s.data.toList.all isD=false->PK s.data.toList=false):=GH (fun h=>iF (fun hh=>by rw[h]at hh;exact absurd hh.2.2.2 (by decide)));have h4:1<s.size->((s[0].toNat:Int)==48)=false:=fun hl=>by
  rw[beq_eq_false_iff_ne];intro e;exact h3 ⟨hl,UInt8.toNat_inj.1 (by show s[0].toNat=48;omega)⟩
 clear h3 hhd;by_cases h5:1<s.size
 .have h6:=h4 h5;clear h4;go_enter func75,ntmps75
  go_wp2
  clear h6
  go_loop [4,26] (fun n i=>∃k:Nat,k<=s.size/\i=.int .i64 k/\n=.int .i64 (num (s.data.toList.take k):Int)/\(s.data.toList.take k).all isD=true) (fun _ i=>s.size-(intOf i).toNat)
  case atStart=>exact⟨0,Nat.zero_le _,rfl,rfl,by simp⟩
  case round=>
   obtain⟨k,hk,rfl,rfl,hall⟩:=hrel;have zJ:=GH hall;by_cases hlt:k<s.size
   .have hsm:=xC s k (by omega) hall;have Hnt:=GH (AC1 s k hlt);clear hall;obtain⟨n,hn⟩:∃n,num (s.data.toList.take k)=n:=⟨_,rfl⟩;rw[hn]at hsm Hnt⊢;clear hn;by_cases hd:isD s[k]=true
    .have hd1:=(XA.1 hd).1;have hd2:=(XA.1 hd).2;have Hd:=GH hd;clear hd
     go_wp2
     go_round
     case rel=>exact⟨k+1,by omega,by go_num,by rw[G9 Hnt];go_num,VA s k hlt isD (G9 zJ) (G9 Hd)⟩
     case measure=>simp[intOf];omega
    .have hd':isD s[k]=false:=by simpa using hd
     have hp:=G9 Hno (dL s k hlt isD hd');have hq:s[k].toNat<48\/57<s[k].toNat:=by
      by_cases hc:48<=s[k].toNat/\s[k].toNat<=57
      .exact absurd (XA.2 hc) hd
      .omega
     have H:=GH hp;clear hp hd hd';rcases hq with hq|hq
     .go_wp2
      go_ret2
      exact⟨SE (S9 (G9 H)).symm (G9 H).symm,rfl⟩
     .go_wp2
      go_ret2
      exact⟨SE (S9 (G9 H)).symm (G9 H).symm,rfl⟩
   .have hp:=G9 Hok (ZE s k (by omega) isD hall);have H:=GH hp;have hkk:s.data.toList.take k=s.data.toList:=BO (by omega);rw[hkk];clear hp hall zJ hkk
    go_wp2
    go_ret2
    exact⟨SE (XB (G9 H)).symm (G9 H).symm,rfl⟩
 .clear h4;go_enter func75,ntmps75
  go_wp2
  go_loop [4,26] (fun n i=>∃k:Nat,k<=s.size/\i=.int .i64 k/\n=.int .i64 (num (s.data.toList.take k):Int)/\(s.data.toList.take k).all isD=true) (fun _ i=>s.size-(intOf i).toNat)
  case atStart=>exact⟨0,Nat.zero_le _,rfl,rfl,by simp⟩
  case round=>
   obtain⟨k,hk,rfl,rfl,hall⟩:=hrel;have zJ:=GH hall;by_cases hlt:k<s.size
   .have hsm:=xC s k (by omega) hall;have Hnt:=GH (AC1 s k hlt);clear hall;obtain⟨n,hn⟩:∃n,num (s.data.toList.take k)=n:=⟨_,rfl⟩;rw[hn]at hsm Hnt⊢;clear hn;by_cases hd:isD s[k]=true
    .have hd1:=(XA.1 hd).1;have hd2:=(XA.1 hd).2;have Hd:=GH hd;clear hd
     go_wp2
     go_round
     case rel=>exact⟨k+1,by omega,by go_num,by rw[G9 Hnt];go_num,VA s k hlt isD (G9 zJ) (G9 Hd)⟩
     case measure=>simp[intOf];omega
    .have hd':isD s[k]=false:=by simpa using hd
     have hp:=G9 Hno (dL s k hlt isD hd');have hq:s[k].toNat<48\/57<s[k].toNat:=by
      by_cases hc:48<=s[k].toNat/\s[k].toNat<=57
      .exact absurd (XA.2 hc) hd
      .omega
     have H:=GH hp;clear hp hd hd';rcases hq with hq|hq
     .go_wp2
      go_ret2
      exact⟨SE (S9 (G9 H)).symm (G9 H).symm,rfl⟩
     .go_wp2
      go_ret2
      exact⟨SE (S9 (G9 H)).symm (G9 H).symm,rfl⟩
   .have hp:=G9 Hok (ZE s k (by omega) isD hall);have H:=GH hp;have hkk:s.data.toList.take k=s.data.toList:=BO (by omega);rw[hkk];clear hp hall zJ hkk
    go_wp2
    go_ret2
    exact⟨SE (XB (G9 H)).symm (G9 H).symm,rfl⟩
theorem B37{a b:List UInt8}(h:∀c∈a,c≠46):F7 (a++46::b) 46=(a.length:Int):=by
 induction a with
 |nil=>rfl
 |cons x a ih=>
  have hx:(x==46)=false:=by simpa using h x (by simp)
  have ih':=ih (fun c hc=>h c (by simp[hc]));show F7 (x::(a++46::b)) 46=_;rw[F7,if_neg (by simp[hx]),ih',if_neg (by simp)];simp
theorem AN2(h:∀c∈l,c≠46):F7 l 46=-1:=by
 induction l with
 |nil=>rfl
 |cons x a ih=>
  have hx:(x==46)=false:=by simpa using h x (by simp)
  have ih':=ih (fun c hc=>h c (by simp[hc]));rw[F7,if_neg (by simp[hx]),ih'];rfl
theorem BX5(h:a.data.toList=l):a=⟨l.toArray⟩:=by rw[<-h]
theorem B38(a b:List UInt8):(AU (a++46::b).toArray).extract 0 a.length=⟨a.toArray⟩:=by
 apply BX5
 rw[<-Lib.toList_data,Lib.extract_toList];show ((a++46::b).drop 0).take (a.length-0)=a;simp
theorem BM9(a b:List UInt8)(n:Nat)(hn:n=(a++46::b).length):(AU (a++46::b).toArray).extract (a.length+1) n=⟨b.toArray⟩:=by
 subst hn
 apply BX5
 rw[<-Lib.toList_data,Lib.extract_toList];show ((a++46::b).drop (a.length+1)).take ((a++46::b).length-(a.length+1))=b;rw[show (a++46::b).drop (a.length+1)=b from by simp];exact BO (by simp;omega)
theorem B39{b c d:ByteArray}{x:Bool}(h:a=b)(h':c=d):DY (.tuple #[.string a,.string c,.bool x])=.returned (.tuple #[.string b,.string d,.bool x]):=by rw[h,h']
theorem A29(l:List UInt8)(w:FX)(hl:l.length<=140737488355328):
  G5 prog 117 #[.string ⟨l.toArray⟩,.string ⟨#[46]⟩] w fun e w'=>∃b,e=.returned (.tuple #[.string ⟨(VZ l).toArray⟩,.string ⟨(WA l).toArray⟩,.bool b])/\Below w.heap.size w w':=by
 have hz:(AU l.toArray).size=l.length:=DU ⟨l.toArray⟩;rcases AY2 l with hd|⟨a,b,rfl,hd⟩
 .have H:=GH (BI1 hd);have HI:=GH (AN2 hd);clear hd;go_enter func117,ntmps117;go_wp2_with fail;refine(stringslite_Index_one ⟨l.toArray⟩ 46 _).mono ?_;rintro e w1 ⟨rfl,rfl⟩;rw[show F7 (AU l.toArray).data.toList 46=-1 from G9 HI];go_wp2_with fail
  go_ret3
  exact⟨_,B39 (by rw[(G9 H).1]) (by rw[(G9 H).2]),Below.refl _ _⟩
 .have H:=GH (AY1 (b:=b) hd);have HI:=GH (B37 (b:=b) hd);have hlen:(a++46::b).length=a.length+1+b.length:=by simp;omega
  rw[hlen]at hz hl;have HL:=GH hlen;have H1:=GH (B38 a b);have H2:=GH (BM9 a b _ rfl);clear hd hlen;obtain⟨S,hS⟩:∃S,(AU (a++46::b).toArray)=S:=⟨_,rfl⟩;rw[hS]at hz H1 H2⊢;have HI':Hid (F7 S.data.toList 46=(a.length:Int)):=GH (by rw[<-hS];exact G9 HI);have HE:Hid (S.extract (a.length+1) (a.length+1+b.length)=⟨b.toArray⟩):=GH (by rw[<-G9 HL];exact G9 H2);clear hS HI H2;have c1:(0:Int)<=(a.length:Int):=by omega
  have c2:(a.length:Int)<=(S.size:Int):=by omega
  have c3:(0:Int)<=(a.length:Int)+1:=by omega
  have c4:(a.length:Int)+1<=(S.size:Int):=by omega
  go_enter func117,ntmps117;go_wp2_with fail;refine(stringslite_Index_one S 46 _).mono ?_;rintro e w1 ⟨rfl,rfl⟩;rw[G9 HI'];go_wp2_with fail;go_region
  go_wp2
  go_ret3
  exact⟨_,B39 (by rw[(G9 H).1];exact G9 H1) (by rw[(G9 H).2];exact G9 HE),(Below.refl _ _).drew⟩
theorem A30(l:List UInt8)(w:FX)(hl:l.length<=140737488355328):
  G5 prog 74 #[.string ⟨l.toArray⟩,.string ⟨#[46]⟩] w fun e w'=>∃b,e=.returned (.tuple #[.string ⟨(VZ l).toArray⟩,.string ⟨(WA l).toArray⟩,.bool b])/\Below w.heap.size w w':=by
 go_enter func74,ntmps74;go_wp2_with fail;refine(A29 l _ hl).mono ?_;rintro e w1 ⟨b,rfl,hb1⟩;go_wp2_with fail
 go_ret3
 exact⟨_,rfl,hb1⟩
theorem C50(l:List UInt8):(VZ l).length<=l.length/\(WA l).length<=l.length:=by
 constructor
 .exact(List.takeWhile_prefix _).length_le
 .rw[WA,List.length_drop];have:=(List.dropWhile_suffix (l:=l) (fun c=>c !=46)).length_le;omega
theorem B40(l:List UInt8)(w:FX)(hl:l.length<=140737488355328):
  G5 prog 43 #[.string ⟨l.toArray⟩] w fun e w'=>e=.returned (.tuple #[.int .i64 (gV l),.int .i64 (jQ l)])/\Below w.heap.size w w':=by
 have hc:=C50 l;have c1:=hc.1;have c2:=hc.2;clear hc
 cases h1:PK (VZ l)
 .have H:=GH (qP (.inl h1));have HA:Hid (jL (VZ l)=0/\PK (VZ l)=false):=GH ⟨S9 h1,h1⟩;clear h1;go_enter func43,ntmps43;go_wp2_with fail;refine(A30 l _ hl).mono ?_;rintro e w1 ⟨b,rfl,hb1⟩;go_wp2_with fail;refine(YM ⟨(VZ l).toArray⟩ _ (by rw[DU];show (VZ l).length<=_;omega)).mono ?_;rintro e w2 ⟨rfl,rfl⟩;rw[show (AU (VZ l).toArray).data.toList=VZ l from rfl,(G9 HA).1,(G9 HA).2];go_wp2_with fail;refine(YM ⟨(WA l).toArray⟩ _ (by rw[DU];show (WA l).length<=_;omega)).mono ?_;rintro e w2 ⟨rfl,rfl⟩;rw[show (AU (WA l).toArray).data.toList=WA l from rfl];obtain⟨B,hB⟩:∃B,PK (WA l)=B:=⟨_,rfl⟩;obtain⟨M,hM⟩:∃M,jL (WA l)=M:=⟨_,rfl⟩;rw[hB,hM];clear hB hM HA;go_wp2_with fail
  go_ret2
  exact⟨PO (G9 H).1.symm (G9 H).2.symm,hb1⟩
 cases h2:PK (WA l)
 .have H:=GH (qP (.inr h2));have HA:Hid (jL (VZ l)=num (VZ l)/\PK (VZ l)=true):=GH ⟨XB h1,h1⟩;have HZ:Hid (jL (WA l)=0/\PK (WA l)=false):=GH ⟨S9 h2,h2⟩;clear h1 h2;go_enter func43,ntmps43;go_wp2_with fail;refine(A30 l _ hl).mono ?_;rintro e w1 ⟨b,rfl,hb1⟩;go_wp2_with fail;refine(YM ⟨(VZ l).toArray⟩ _ (by rw[DU];show (VZ l).length<=_;omega)).mono ?_;rintro e w2 ⟨rfl,rfl⟩;rw[show (AU (VZ l).toArray).data.toList=VZ l from rfl,(G9 HA).1,(G9 HA).2];go_wp2_with fail;refine(YM ⟨(WA l).toArray⟩ _ (by rw[DU];show (WA l).length<=_;omega)).mono ?_;rintro e w2 ⟨rfl,rfl⟩;rw[show (AU (WA l).toArray).data.toList=WA l from rfl,(G9 HZ).1,(G9 HZ).2];go_wp2_with fail
  go_ret2
  exact⟨PO (G9 H).1.symm (G9 H).2.symm,hb1⟩
 have H:=GH (vM h1 h2);have HA:Hid (jL (VZ l)=num (VZ l)/\PK (VZ l)=true):=GH ⟨XB h1,h1⟩;have HZ:Hid (jL (WA l)=num (WA l)/\PK (WA l)=true):=GH ⟨XB h2,h2⟩;clear h1 h2;go_enter func43,ntmps43;go_wp2_with fail;refine(A30 l _ hl).mono ?_;rintro e w1 ⟨b,rfl,hb1⟩;go_wp2_with fail;refine(YM ⟨(VZ l).toArray⟩ _ (by rw[DU];show (VZ l).length<=_;omega)).mono ?_;rintro e w2 ⟨rfl,rfl⟩;rw[show (AU (VZ l).toArray).data.toList=VZ l from rfl,(G9 HA).1,(G9 HA).2];go_wp2_with fail;refine(YM ⟨(WA l).toArray⟩ _ (by rw[DU];show (WA l).length<=_;omega)).mono ?_;rintro e w2 ⟨rfl,rfl⟩;rw[show (AU (WA l).toArray).data.toList=WA l from rfl,(G9 HZ).1,(G9 HZ).2];go_wp2_with fail;refine(UR _ _ _).mono ?_;rintro e w3 ⟨rfl,rfl⟩;obtain⟨X,hX⟩:∃X,L9 (num (VZ l)) (num (WA l))=X:=⟨_,rfl⟩;obtain⟨E,hE⟩:∃E,OC (num (VZ l)) (num (WA l))=E:=⟨_,rfl⟩;rw[hX,hE];rw[hX,hE]at H;clear hX hE HA HZ;go_wp2_with fail
 go_ret2
 exact⟨PO (G9 H).1.symm (G9 H).2.symm,hb1⟩
theorem kR(w:FX)(k:Nat)(os:Array Obj):B0 w (Sort.grow (w.drewN k) os):=
 ⟨rfl,rfl,rfl,by simp[Sort.grow,World.drewN],fun i hi=>by simp[Sort.grow,World.drewN,Array.getElem?_append_left hi]⟩
theorem xH{b:ByteArray}{i j:Int}(h:a=b)(h':i=j):DY (.tuple #[.string a,I0 i])=.returned (.tuple #[.string b,I0 j]):=by rw[h,h']
theorem A35{w1 w2:FX}(h:B0 w w1)(h':B0 w1 w2):B0 w w2:=h.trans (h'.mono h.size)
theorem BN6(d m:List UInt8):(AU d.toArray)++(AU #[46])++(AU m.toArray)=⟨(d++46::m).toArray⟩:=by
 apply ByteArray.ext
 simp[ByteArray.data_append]
theorem AO1:prog.globalNamed "internal/strconv.uint64pow10" =some 1:=by kernel_rfl
theorem B54(htab:Lib.TabIs prog w "internal/strconv.uint64pow10" .u64 Lib.pow10Tab):1<w.heap.size:=by
 have hc:=htab.cell AO1 0 (by decide);unfold World.cell? at hc
 cases ho:w.heap[1]? with
 |none=>simp[ho]at hc
 |some o=>exact(Array.getElem?_eq_some_iff.1 ho).1
theorem xI{w':FX}(htab:Lib.TabIs prog w "internal/strconv.uint64pow10" .u64 Lib.pow10Tab)(hb:B0 w w'):Lib.TabIs prog w' "internal/strconv.uint64pow10" .u64 Lib.pow10Tab:=
 var?_below hb AO1 (B54 htab) htab
theorem kS(z:Int)(w:FX)(htab:Lib.TabIs prog w "internal/strconv.uint64pow10" .u64 Lib.pow10Tab):
  G5 prog 141 #[I0 z] w (R0 w (.tuple #[S0 (QX z),I0 (fJ z)])):=by
 cases hg:KP z
 .have H:=GH (A96 hg);have Hg:=GH hg;clear hg htab;go_enter func141,ntmps141;go_wp2_with fail;refine(JM z _).mono ?_;rintro e w1 ⟨rfl,rfl⟩;rw[G9 Hg];go_wp2_with fail
  go_ret2
  exact⟨xH (by rw[(G9 H).1]) (G9 H).2.symm,Below.refl _ _⟩
 have hz:=MC.1 hg;have H:=GH (jR hg);have Hg:=GH hg;have q0:(z/2147483648)=((z/2147483648).toNat:Int):=by omega
 have r0:(z%2147483648)=((z%2147483648).toNat:Int):=by omega
 obtain⟨q,hq⟩:∃q,(z/2147483648).toNat=q:=⟨_,rfl⟩;obtain⟨r,hr⟩:∃r,(z%2147483648).toNat=r:=⟨_,rfl⟩;have q1:q<2147483648:=by omega
 have r1:r<2147483648:=by omega
 rw[hq]at q0;rw[hr]at r0;rw[hq,hr]at H;have Ez:Hid (J6 z=(q:Int)):=GH (by rw[MF hg];exact q0);have Cz:Hid (nC z=(r:Int)):=GH (by rw[YC hg];exact r0);have Htab:=GH htab;have Hiq:=GH (Lib.itoa_nonneg q);have Hir:=GH (Lib.itoa_nonneg r);have lq:=jP 9 q (by omega);have lr:=jP 9 r (by omega);clear hg hz q0 r0 hq hr htab;go_enter func141,ntmps141;go_wp2_with fail;refine(JM z _).mono ?_;rintro e w1 ⟨rfl,rfl⟩;rw[G9 Hg];go_wp2_with fail;refine(QG z _).mono ?_;rintro e w2 ⟨rfl,rfl⟩;rw[G9 Ez];go_wp2_with fail;refine(strconv_Itoa _ (by omega) (by omega) _ (G9 Htab)).mono ?_;rintro e w3 ⟨rfl,k,os,hw3⟩;have hb3:B0 w2 w3:=by rw[hw3];exact kR w2 k os
 clear hw3;rw[G9 Hiq];obtain⟨D,hD⟩:∃D,EN q=D:=⟨_,rfl⟩;rw[hD]at lq H⊢;clear hD;go_wp2_with fail;refine(eG z _).mono ?_;rintro e w4 ⟨rfl,rfl⟩;rw[G9 Cz];go_wp2_with fail;refine(strconv_Itoa _ (by omega) (by omega) _ (xI (G9 Htab) hb3)).mono ?_;rintro e w5 ⟨rfl,k,os,hw5⟩;have hb5:B0 w2 w5:=A35 hb3 (by rw[hw5];exact kR w4 k os);clear hw5;rw[G9 Hir];obtain⟨R,hR⟩:∃R,EN r=R:=⟨_,rfl⟩;rw[hR]at lr H⊢;clear hR Hiq Hir Ez Cz Hg hb3;have zD:(AU D.toArray).size=D.length:=DU ⟨D.toArray⟩;have zR:(AU R.toArray).size=R.length:=DU ⟨R.toArray⟩;go_wp2_with fail
 go_ret2
 exact⟨xH (by rw[(G9 H).1];exact BN6 D R) (G9 H).2.symm,hb5⟩
theorem xY(z:Int)(w:FX):
  G5 prog 118 #[I0 z] w fun e w'=>e=.returned (.tuple #[I0 (iW z),I0 (WM z)])/\w'=w:=by
 cases hg:KP z
 .have H:=GH (AS5 hg);have Hg:=GH hg;clear hg;go_enter func118,ntmps118;go_wp2_with fail;refine(JM z _).mono ?_;rintro e w1 ⟨rfl,rfl⟩;rw[G9 Hg];go_wp2_with fail
  go_ret2
  exact⟨PO (G9 H).1.symm (G9 H).2.symm,rfl⟩
 have hz:=MC.1 hg;have h0:=hz.1;have h1:=hz.2;clear hz
 cases hi:zIn (z%2147483648+1)
 .have H:=GH (AG4 hg hi);have Hg:=GH hg;have hf:(z%2147483648==2147483647)=true:=by
   rw[beq_iff_eq];have:=Int.emod_nonneg z (show (2147483648:Int)≠0 by decide);have:=Int.emod_lt_of_pos z (show (0:Int)<2147483648 by decide);by_cases h:z%2147483648=2147483647
   .exact h
   .rw[QA.2 (by omega)]at hi;exact absurd hi (by decide)
  clear hg hi;go_enter func118,ntmps118;go_wp2_with fail;refine(JM z _).mono ?_;rintro e w1 ⟨rfl,rfl⟩;rw[G9 Hg];go_wp2_with fail;refine(eG z _).mono ?_;rintro e w2 ⟨rfl,rfl⟩;rw[YC (G9 Hg)];go_wp2_with fail
  go_ret2
  exact⟨PO (G9 H).1.symm (G9 H).2.symm,rfl⟩
 .have H:=GH (qA hg hi);have Hg:=GH hg;have hf:(z%2147483648==2147483647)=false:=by
   rw[beq_eq_false_iff_ne];have:=(QA.1 hi).2;omega
  clear hg hi;go_enter func118,ntmps118;go_wp2_with fail;refine(JM z _).mono ?_;rintro e w1 ⟨rfl,rfl⟩;rw[G9 Hg];go_wp2_with fail;refine(eG z _).mono ?_;rintro e w2 ⟨rfl,rfl⟩;rw[YC (G9 Hg)];go_wp2_with fail
  go_ret2
  exact⟨PO (G9 H).1.symm (G9 H).2.symm,rfl⟩
