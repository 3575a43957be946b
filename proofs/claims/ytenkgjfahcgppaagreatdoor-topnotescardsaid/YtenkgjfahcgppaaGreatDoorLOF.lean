/-
  Part.
-/
import Derived.Test.YtenkgjfahcgppaaGreatDoorLOA
import Derived.Test.YtenkgjfahcgppaaGreatDoorRows
import Derived.WalkSpells
import Derived.WalkLawsBesides
import Derived.Test.YtenkgjfahcgppaaGreatDoorShelf
set_option maxRecDepth 20000
set_option maxHeartbeats 8000000
namespace Go.Proofs.YtenkgjfahcgppaaGreatDoor
open Go.RowKit Go.Proofs.Tryz
variable{l:List UInt8}{u:Nat}{a:ByteArray}{z:Int}{w:World}
def isD(c:UInt8):Bool:=decide (48<=c.toNat)&&decide (c.toNat<=57)
theorem TG{c:UInt8}:isD c=true↔48<=c.toNat/\c.toNat<=57:=by simp[isD]
def num(l:List UInt8):Nat:=l.foldl (fun n c=>10*n+(c.toNat-48)) 0
theorem lU(l:List UInt8)(c:UInt8):num (l++[c])=10*num l+(c.toNat-48):=by simp[num]
theorem AB5(l:List UInt8):l=[]\/∃a c,l=a++[c]:=by
 cases h:l.reverse with
 |nil=>exact .inl (by simpa using h)
 |cons c r=>exact .inr ⟨r.reverse,c,by have:=congrArg List.reverse h;simpa using this⟩
theorem CA1(l:List UInt8)(h:l.all isD=true):num l<10^l.length:=by
 obtain⟨n,hn⟩:∃n,l.length=n:=⟨_,rfl⟩
 induction n generalizing l with
 |zero=>rw[List.length_eq_zero_iff.1 hn];decide
 |succ n ih=>
  rcases AB5 l with rfl|⟨a,c,rfl⟩
  .simp at hn
  .simp only[List.all_append,Bool.and_eq_true,List.all_cons,List.all_nil,Bool.and_true]at h;have h1:=ih a h.1 (by simpa using hn);have h2:=TG.1 h.2;rw[lU,List.length_append,List.length_singleton,Nat.pow_succ];omega
def KQ(l:List UInt8):Bool:=decide (1<=l.length)&&decide (l.length<=10)&& !(decide (1<l.length)&&l.head?==some 48)&&l.all isD
def dM(l:List UInt8):Int:=if KQ l then(num l:Int)else 0
theorem TI(h:KQ l=true):dM l=num l:=by rw[dM,if_pos h]
theorem O8(h:KQ l=false):dM l=0:=by rw[dM,h];rfl
theorem dO:KQ l=true↔1<=l.length/\l.length<=10/\(1<l.length->l.head? ≠some 48)/\l.all isD=true:=by
 simp only[KQ,Bool.and_eq_true,decide_eq_true_eq,Bool.not_eq_true',Bool.and_eq_false_imp,beq_eq_false_iff_ne,ne_eq];constructor
 .rintro⟨⟨⟨a,b⟩,c⟩,d⟩;exact⟨a,b,c,d⟩
 .rintro⟨a,b,c,d⟩;exact⟨⟨⟨a,b⟩,c⟩,d⟩
theorem bD(h:¬ (1<=l.length/\l.length<=10/\(1<l.length->l.head? ≠some 48)/\l.all isD=true)):KQ l=false:=by
 cases hp:KQ l with
 |false=>rfl
 |true=>exact absurd (dO.1 hp) h
theorem CL7(h:u<10):Lib.decDigits u=[UInt8.ofNat (48+u)]:=by rw[Lib.decDigits,dif_pos h]
theorem decb(h:¬u<10):Lib.decDigits u=Lib.decDigits (u/10)++[UInt8.ofNat (48+u%10)]:=by rw[Lib.decDigits,dif_neg h]
theorem XM{d:Nat}(h:d<10):(UInt8.ofNat (48+d)).toNat=48+d:=by rw[UInt8.toNat_ofNat'];omega
theorem AQ0{d:Nat}(h:d<10):isD (UInt8.ofNat (48+d))=true:=TG.2 (by rw[XM h];omega)
theorem dP(u:Nat):(Lib.decDigits u).all isD=true/\num (Lib.decDigits u)=u/\1<=(Lib.decDigits u).length/\(u≠0->(Lib.decDigits u).head? ≠some 48):=by
 induction u using Nat.strongRecOn with
 |_ u ih=>
  by_cases h:u<10
  .rw[CL7 h];refine⟨by rw[List.all_cons,List.all_nil,AQ0 h];rfl,?_,by simp,?_⟩
   .show 10*0+((UInt8.ofNat (48+u)).toNat-48)=u;rw[XM h];omega
   .intro h0 e;have h1:=congrArg UInt8.toNat (Option.some.inj e);rw[XM h]at h1;have h2:(48:UInt8).toNat=48:=rfl;omega
  .rw[decb h];obtain⟨i1,i2,i3,i4⟩:=ih (u/10) (by omega);refine⟨by rw[List.all_append,i1,List.all_cons,AQ0 (Nat.mod_lt u (by decide:0<10)),List.all_nil];rfl,?_,by simp,?_⟩
   .rw[lU,i2,XM (Nat.mod_lt u (by decide))];omega
   .intro _;have i5:=i4 (by omega)
    cases hd:Lib.decDigits (u/10)with
    |nil=>rw[hd]at i3;simp at i3
    |cons c r=>rw[hd]at i5;simpa using i5
theorem dQ(k:Nat):∀u,u<10^(k+1)->(Lib.decDigits u).length<=k+1:=by
 induction k with
 |zero=>intro u hu;rw[CL7 (by simpa using hu)];simp
 |succ k ih=>
  intro u hu;by_cases h:u<10
  .rw[CL7 h];simp
  .rw[decb h];have:=ih (u/10) (by rw[Nat.pow_succ]at hu;omega);simp;omega
theorem BV1(h:1<(Lib.decDigits u).length):u≠0:=by
 rintro rfl;rw[CL7 (by decide)]at h;simp at h
theorem A23(h:u<10000000000):KQ (Lib.decDigits u)=true:=by
 obtain⟨i1,i2,i3,i4⟩:=dP u;exact dO.2 ⟨i3,dQ 9 u h,fun hl=>i4 (BV1 hl),i1⟩
def RY(l:List UInt8):List UInt8:=l.takeWhile (fun c=>c !=46)
def RZ(l:List UInt8):List UInt8:=(l.dropWhile (fun c=>c !=46)).drop 1
theorem AQ1{a b:List UInt8}(h:∀c∈a,c≠46):RY (a++46::b)=a/\RZ (a++46::b)=b:=by
 have hp:∀c∈a,(c !=46)=true:=fun c hc=>by simpa using h c hc
 constructor
 .rw[RY,List.takeWhile_append_of_pos hp];simp
 .rw[RZ,List.dropWhile_append_of_pos hp];simp
theorem BA9(h:∀c∈l,c≠46):RY l=l/\RZ l=[]:=by
 have hp:∀c∈l,(c !=46)=true:=fun c hc=>by simpa using h c hc
 constructor
 .have:=List.takeWhile_append_of_pos (l₂:=[]) hp;rw[RY];simpa using this
 .have:=List.dropWhile_append_of_pos (l₂:=[]) hp;rw[RZ];simp at this;rw[this];rfl
theorem AQ2(l:List UInt8):(∀c∈l,c≠46)\/∃a b,l=a++46::b/\∀c∈a,c≠46:=by
 induction l with
 |nil=>exact .inl (by simp)
 |cons x l ih=>
  by_cases hx:x=46
  .subst hx;exact .inr ⟨[],l,rfl,by simp⟩
  .rcases ih with h|⟨a,b,rfl,h⟩
   .exact .inl (by simpa [hx]using h)
   .exact .inr ⟨x::a,b,rfl,by simpa [hx]using h⟩
theorem BV2(h:l.all isD=true):∀c∈l,c≠46:=by
 intro c hc e;subst e;exact absurd (List.all_eq_true.1 h 46 hc) (by decide)
def aO(l:List UInt8):Int:=if KQ (RY l)&&KQ (RZ l)then G6 (num (RY l)) (num (RZ l))else 0
def dR(l:List UInt8):Int:=if KQ (RY l)&&KQ (RZ l)then JG (num (RY l)) (num (RZ l))else 2
theorem lV(h:KQ (RY l)=false\/KQ (RZ l)=false):aO l=0/\dR l=2:=by
 rcases h with h|h<;>simp[aO,dR,h]
theorem qK(h:KQ (RY l)=true)(h':KQ (RZ l)=true):aO l=G6 (num (RY l)) (num (RZ l))/\dR l=JG (num (RY l)) (num (RZ l)):=by
 simp[aO,dR,h,h']
def MV(z:Int):List UInt8:=if FU z then Lib.decDigits (z/2147483648).toNat++46::Lib.decDigits (z%2147483648).toNat else []
def ZV(z:Int):Int:=if FU z then 0 else 3
theorem A24(h:FU z=false):MV z=[]/\ZV z=3:=by simp[MV,ZV,h]
theorem dS(h:FU z=true):MV z=Lib.decDigits (z/2147483648).toNat++46::Lib.decDigits (z%2147483648).toNat/\ZV z=0:=by simp[MV,ZV,h]
theorem AQ3(h:FU z=true):aO (MV z)=z/\dR (MV z)=0:=by
 have hz:=I8.1 h;obtain⟨i1,i2,_,_⟩:=dP (z/2147483648).toNat;obtain⟨_,j2,_,_⟩:=dP (z%2147483648).toNat;obtain⟨c1,c2⟩:=AQ1 (b:=Lib.decDigits (z%2147483648).toNat) (BV2 i1);rw[(dS h).1];obtain⟨r1,r2⟩:=qK (l:=Lib.decDigits (z/2147483648).toNat++46::Lib.decDigits (z%2147483648).toNat) (by rw[c1];exact A23 (by omega)) (by rw[c2];exact A23 (by omega));rw[r1,r2,c1,c2,i2,j2];obtain⟨m1,m2⟩:=PW (e:=((z/2147483648).toNat:Int)) (c:=((z%2147483648).toNat:Int)) (LQ.2 (by omega)) (LQ.2 (by omega));rw[m1,m2,Int.toNat_of_nonneg (by omega),Int.toNat_of_nonneg (by omega)];exact⟨by omega,rfl⟩
theorem OO{a b:Bool}(h:a=b):Ending.returned (.bool a)=.returned (.bool b):=by rw[h]
theorem EN(z:Int)(w:World):
  Calls prog 35 #[I0 z] w fun e w'=>e=.returned (.bool (FU z))/\w'=w:=by
 go_enter func35,ntmps35
 go_wp2
 go_ret;exact⟨OO (by rw[Bool.eq_iff_iff,I8,beq_iff_eq];omega),rfl⟩
theorem QI(e c:Int)(w:World):
  Calls prog 143 #[I0 e,I0 c] w fun x w'=>x=.returned (.tuple #[I0 (G6 e c),I0 (JG e c)])/\w'=w:=by
 by_cases h1:e<0
 .have H:=AA (aT (e:=e) (c:=c) (.inl (zY (by omega))));go_enter func143,ntmps143
  go_wp2
  go_ret2
  exact⟨KW (A8 H).1.symm (A8 H).2.symm,rfl⟩
 by_cases h2:2147483647<e
 .have H:=AA (aT (e:=e) (c:=c) (.inl (zY (by omega))));go_enter func143,ntmps143
  go_wp2
  go_ret2
  exact⟨KW (A8 H).1.symm (A8 H).2.symm,rfl⟩
 by_cases h3:c<0
 .have H:=AA (aT (e:=e) (c:=c) (.inr (zY (by omega))));go_enter func143,ntmps143
  go_wp2
  go_ret2
  exact⟨KW (A8 H).1.symm (A8 H).2.symm,rfl⟩
 by_cases h4:2147483647<c
 .have H:=AA (aT (e:=e) (c:=c) (.inr (zY (by omega))));go_enter func143,ntmps143
  go_wp2
  go_ret2
  exact⟨KW (A8 H).1.symm (A8 H).2.symm,rfl⟩
 have H:=AA (PW (e:=e) (c:=c) (LQ.2 (by omega)) (LQ.2 (by omega)));go_enter func143,ntmps143
 go_wp2
 go_ret2
 exact⟨KW ((BS7 (by omega) (by omega) (by omega) (by omega)).trans (A8 H).1.symm) (A8 H).2.symm,rfl⟩
theorem MB(z:Int)(w:World):
  Calls prog 103 #[I0 z] w fun e w'=>e=.returned (I0 (DL z))/\w'=w:=by
 cases hg:FU z
 .have H:=AA (oZ hg);have Hg:=AA hg;clear hg;go_enter func103,ntmps103;go_wp2_with fail;refine(EN z _).mono ?_;rintro e w1 ⟨rfl,rfl⟩;rw[A8 Hg];go_wp2_with fail;go_ret;exact⟨l9 (A8 H).symm,rfl⟩
 .have H:=AA (I9 hg);have Hg:=AA hg;clear hg;go_enter func103,ntmps103;go_wp2_with fail;refine(EN z _).mono ?_;rintro e w1 ⟨rfl,rfl⟩;rw[A8 Hg];go_wp2_with fail;go_ret;exact⟨l9 (A8 H).symm,rfl⟩
theorem Z9(z:Int)(w:World):
  Calls prog 217 #[I0 z] w fun e w'=>e=.returned (I0 (iZ z))/\w'=w:=by
 cases hg:FU z
 .have H:=AA (AK8 hg);have Hg:=AA hg;clear hg;go_enter func217,ntmps217;go_wp2_with fail;refine(EN z _).mono ?_;rintro e w1 ⟨rfl,rfl⟩;rw[A8 Hg];go_wp2_with fail;go_ret;exact⟨l9 (A8 H).symm,rfl⟩
 .have H:=AA (UH hg);have Hg:=AA hg;clear hg;go_enter func217,ntmps217;go_wp2_with fail;refine(EN z _).mono ?_;rintro e w1 ⟨rfl,rfl⟩;rw[A8 Hg];go_wp2_with fail;go_ret;have h:=I8.1 (A8 Hg);exact⟨l9 ((B70 h.1 h.2).trans (A8 H).symm),rfl⟩
theorem AF7(s:ByteArray):s.data.toList.length=s.size:=by simp
theorem OB{i j:Int}{a b:Bool}(h:i=j)(h':a=b):Ending.returned (.tuple #[.int .i64 i,.bool a])=.returned (.tuple #[.int .i64 j,.bool b]):=by rw[h,h']
theorem CO5(s:ByteArray)(h:0<s.size):s.data.toList.head?=some s[0]:=by
 rw[List.head?_eq_getElem?,List.getElem?_eq_getElem (by simpa using h)];rfl
theorem A48(s:ByteArray)(k:Nat)(h:k<s.size):num (s.data.toList.take (k+1))=10*num (s.data.toList.take k)+(s[k].toNat-48):=by
 rw[bY s k h,lU]
theorem rV(s:ByteArray)(k:Nat)(h:k<10)(ha:(s.data.toList.take k).all isD=true):num (s.data.toList.take k)<1000000000:=by
 have h1:=CA1 _ ha;have h2:(s.data.toList.take k).length<=9:=by rw[List.length_take];omega
 have h3:10^(s.data.toList.take k).length<=10^9:=Nat.pow_le_pow_right (by decide) h2;have h4:(10:Nat)^9=1000000000:=by decide
 omega
theorem V6(s:ByteArray)(w:World)(hs:s.size<=140737488355328):
  Calls prog 142 #[.string s] w fun e w'=>e=.returned (.tuple #[.int .i64 (dM s.data.toList),.bool (KQ s.data.toList)])/\w'=w:=by
 have hz:=AF7 s;by_cases h1:s.size<1
 .have hp:KQ s.data.toList=false:=bD (by omega);have H:=AA hp;clear hp;go_enter func142,ntmps142
  go_wp2
  go_ret2
  exact⟨OB (O8 (A8 H)).symm (A8 H).symm,rfl⟩
 by_cases h2:10<s.size
 .have hp:KQ s.data.toList=false:=bD (by omega);have H:=AA hp;clear hp;go_enter func142,ntmps142
  go_wp2
  go_ret2
  exact⟨OB (O8 (A8 H)).symm (A8 H).symm,rfl⟩
 have hhd:=CO5 s (by omega);have h0:0<s.size:=by omega
 by_cases h3:1<s.size/\s[0]=48
 .have hp:KQ s.data.toList=false:=bD (by
   rintro⟨_,_,h,_⟩;exact h (by omega) (by rw[hhd,h3.2]))
  have H:=AA hp;have h4:((s[0].toNat:Int)==48)=true:=by rw[h3.2];rfl
  have h5:=h3.1;clear hp h3 hhd;go_enter func142,ntmps142
  go_wp2
  go_ret2
  exact⟨OB (O8 (A8 H)).symm (A8 H).symm,rfl⟩
 have Hok:Hid (s.data.toList.all isD=true->KQ s.data.toList=true):=AA (fun h=>dO.2 ⟨by omega,by omega,fun hl e=>h3 ⟨by omega,by rw[hhd]at e;exact Option.some.inj e⟩,h⟩);have Hno:Hid (s.data.toList.all isD=false->KQ s.data.toList=false):=AA (fun h=>bD (fun hh=>by rw[h]at hh;exact absurd hh.2.2.2 (by decide)));have h4:1<s.size->((s[0].toNat:Int)==48)=false:=fun hl=>by
  rw[beq_eq_false_iff_ne];intro e;exact h3 ⟨hl,UInt8.toNat_inj.1 (by show s[0].toNat=48;omega)⟩
 clear h3 hhd;by_cases h5:1<s.size
 .have h6:=h4 h5;clear h4;go_enter func142,ntmps142
  go_wp2
  clear h6
  go_loop [4,26] (fun n i=>∃k:Nat,k<=s.size/\i=.int .i64 k/\n=.int .i64 (num (s.data.toList.take k):Int)/\(s.data.toList.take k).all isD=true) (fun _ i=>s.size-(intOf i).toNat)
  case atStart=>exact⟨0,Nat.zero_le _,rfl,rfl,by simp⟩
  case round=>
   obtain⟨k,hk,rfl,rfl,hall⟩:=hrel;have vP:=AA hall;by_cases hlt:k<s.size
   .have hsm:=rV s k (by omega) hall;have Hnt:=AA (A48 s k hlt);clear hall;obtain⟨n,hn⟩:∃n,num (s.data.toList.take k)=n:=⟨_,rfl⟩;rw[hn]at hsm Hnt⊢;clear hn;by_cases hd:isD s[k]=true
    .have hd1:=(TG.1 hd).1;have hd2:=(TG.1 hd).2;have Hd:=AA hd;clear hd
     go_wp2
     go_round
     case rel=>exact⟨k+1,by omega,by go_num,by rw[A8 Hnt];go_num,QU s k hlt isD (A8 vP) (A8 Hd)⟩
     case measure=>simp[intOf];omega
    .have hd':isD s[k]=false:=by simpa using hd
     have hp:=A8 Hno (YP s k hlt isD hd');have hq:s[k].toNat<48\/57<s[k].toNat:=by
      by_cases hc:48<=s[k].toNat/\s[k].toNat<=57
      .exact absurd (TG.2 hc) hd
      .omega
     have H:=AA hp;clear hp hd hd';rcases hq with hq|hq
     .go_wp2
      go_ret2
      exact⟨OB (O8 (A8 H)).symm (A8 H).symm,rfl⟩
     .go_wp2
      go_ret2
      exact⟨OB (O8 (A8 H)).symm (A8 H).symm,rfl⟩
   .have hp:=A8 Hok (VU s k (by omega) isD hall);have H:=AA hp;have hkk:s.data.toList.take k=s.data.toList:=List.take_of_length_le (by omega);rw[hkk];clear hp hall vP hkk
    go_wp2
    go_ret2
    exact⟨OB (TI (A8 H)).symm (A8 H).symm,rfl⟩
 .clear h4;go_enter func142,ntmps142
  go_wp2
  go_loop [4,26] (fun n i=>∃k:Nat,k<=s.size/\i=.int .i64 k/\n=.int .i64 (num (s.data.toList.take k):Int)/\(s.data.toList.take k).all isD=true) (fun _ i=>s.size-(intOf i).toNat)
  case atStart=>exact⟨0,Nat.zero_le _,rfl,rfl,by simp⟩
  case round=>
   obtain⟨k,hk,rfl,rfl,hall⟩:=hrel;have vP:=AA hall;by_cases hlt:k<s.size
   .have hsm:=rV s k (by omega) hall;have Hnt:=AA (A48 s k hlt);clear hall;obtain⟨n,hn⟩:∃n,num (s.data.toList.take k)=n:=⟨_,rfl⟩;rw[hn]at hsm Hnt⊢;clear hn;by_cases hd:isD s[k]=true
    .have hd1:=(TG.1 hd).1;have hd2:=(TG.1 hd).2;have Hd:=AA hd;clear hd
     go_wp2
     go_round
     case rel=>exact⟨k+1,by omega,by go_num,by rw[A8 Hnt];go_num,QU s k hlt isD (A8 vP) (A8 Hd)⟩
     case measure=>simp[intOf];omega
    .have hd':isD s[k]=false:=by simpa using hd
     have hp:=A8 Hno (YP s k hlt isD hd');have hq:s[k].toNat<48\/57<s[k].toNat:=by
      by_cases hc:48<=s[k].toNat/\s[k].toNat<=57
      .exact absurd (TG.2 hc) hd
      .omega
     have H:=AA hp;clear hp hd hd';rcases hq with hq|hq
     .go_wp2
      go_ret2
      exact⟨OB (O8 (A8 H)).symm (A8 H).symm,rfl⟩
     .go_wp2
      go_ret2
      exact⟨OB (O8 (A8 H)).symm (A8 H).symm,rfl⟩
   .have hp:=A8 Hok (VU s k (by omega) isD hall);have H:=AA hp;have hkk:s.data.toList.take k=s.data.toList:=List.take_of_length_le (by omega);rw[hkk];clear hp hall vP hkk
    go_wp2
    go_ret2
    exact⟨OB (TI (A8 H)).symm (A8 H).symm,rfl⟩
theorem AV6{a b:List UInt8}(h:∀c∈a,c≠46):Lib.indexByte (a++46::b) 46=(a.length:Int):=by
 induction a with
 |nil=>rfl
 |cons x a ih=>
  have hx:(x==46)=false:=by simpa using h x (by simp)
  have ih':=ih (fun c hc=>h c (by simp[hc]));show Lib.indexByte (x::(a++46::b)) 46=_;rw[Lib.indexByte,if_neg (by simp[hx]),ih',if_neg (by simp)];simp
theorem AF8(h:∀c∈l,c≠46):Lib.indexByte l 46=-1:=by
 induction l with
 |nil=>rfl
 |cons x a ih=>
  have hx:(x==46)=false:=by simpa using h x (by simp)
  have ih':=ih (fun c hc=>h c (by simp[hc]));rw[Lib.indexByte,if_neg (by simp[hx]),ih'];rfl
theorem BQ3(h:a.data.toList=l):a=⟨l.toArray⟩:=by rw[<-h]
theorem AV7(a b:List UInt8):(ByteArray.mk (a++46::b).toArray).extract 0 a.length=⟨a.toArray⟩:=by
 apply BQ3
 rw[<-Lib.toList_data,Lib.extract_toList];show ((a++46::b).drop 0).take (a.length-0)=a;simp
theorem BF7(a b:List UInt8)(n:Nat)(hn:n=(a++46::b).length):(ByteArray.mk (a++46::b).toArray).extract (a.length+1) n=⟨b.toArray⟩:=by
 subst hn
 apply BQ3
 rw[<-Lib.toList_data,Lib.extract_toList];show ((a++46::b).drop (a.length+1)).take ((a++46::b).length-(a.length+1))=b;rw[show (a++46::b).drop (a.length+1)=b from by simp];exact List.take_of_length_le (by simp;omega)
theorem AV8{b c d:ByteArray}{x:Bool}(h:a=b)(h':c=d):Ending.returned (.tuple #[.string a,.string c,.bool x])=.returned (.tuple #[.string b,.string d,.bool x]):=by rw[h,h']
theorem yA(l:List UInt8)(w:World)(hl:l.length<=140737488355328):
  Calls prog 181 #[.string ⟨l.toArray⟩,.string ⟨#[46]⟩] w fun e w'=>∃b,e=.returned (.tuple #[.string ⟨(RY l).toArray⟩,.string ⟨(RZ l).toArray⟩,.bool b])/\Below w.heap.size w w':=by
 have hz:(ByteArray.mk l.toArray).size=l.length:=Lib.size_eq ⟨l.toArray⟩;rcases AQ2 l with hd|⟨a,b,rfl,hd⟩
 .have H:=AA (BA9 hd);have HI:=AA (AF8 hd);clear hd;go_enter func181,ntmps181;go_wp2_with fail;refine(stringslite_Index_one ⟨l.toArray⟩ 46 _).mono ?_;rintro e w1 ⟨rfl,rfl⟩;rw[show Lib.indexByte (ByteArray.mk l.toArray).data.toList 46=-1 from A8 HI];go_wp2_with fail
  go_ret3
  exact⟨_,AV8 (by rw[(A8 H).1]) (by rw[(A8 H).2]),Below.refl _ _⟩
 .have H:=AA (AQ1 (b:=b) hd);have HI:=AA (AV6 (b:=b) hd);have hlen:(a++46::b).length=a.length+1+b.length:=by simp;omega
  rw[hlen]at hz hl;have HL:=AA hlen;have H1:=AA (AV7 a b);have H2:=AA (BF7 a b _ rfl);clear hd hlen;obtain⟨S,hS⟩:∃S,(ByteArray.mk (a++46::b).toArray)=S:=⟨_,rfl⟩;rw[hS]at hz H1 H2⊢;have HI':Hid (Lib.indexByte S.data.toList 46=(a.length:Int)):=AA (by rw[<-hS];exact A8 HI);have HE:Hid (S.extract (a.length+1) (a.length+1+b.length)=⟨b.toArray⟩):=AA (by rw[<-A8 HL];exact A8 H2);clear hS HI H2;have c1:(0:Int)<=(a.length:Int):=by omega
  have c2:(a.length:Int)<=(S.size:Int):=by omega
  have c3:(0:Int)<=(a.length:Int)+1:=by omega
  have c4:(a.length:Int)+1<=(S.size:Int):=by omega
  go_enter func181,ntmps181;go_wp2_with fail;refine(stringslite_Index_one S 46 _).mono ?_;rintro e w1 ⟨rfl,rfl⟩;rw[A8 HI'];go_wp2_with fail;go_region
  go_wp2
  go_ret3
  exact⟨_,AV8 (by rw[(A8 H).1];exact A8 H1) (by rw[(A8 H).2];exact A8 HE),(Below.refl _ _).drew⟩
theorem yB(l:List UInt8)(w:World)(hl:l.length<=140737488355328):
  Calls prog 141 #[.string ⟨l.toArray⟩,.string ⟨#[46]⟩] w fun e w'=>∃b,e=.returned (.tuple #[.string ⟨(RY l).toArray⟩,.string ⟨(RZ l).toArray⟩,.bool b])/\Below w.heap.size w w':=by
 go_enter func141,ntmps141;go_wp2_with fail;refine(yA l _ hl).mono ?_;rintro e w1 ⟨b,rfl,hb1⟩;go_wp2_with fail
 go_ret3
 exact⟨_,rfl,hb1⟩
theorem BY0(l:List UInt8):(RY l).length<=l.length/\(RZ l).length<=l.length:=by
 constructor
 .exact(List.takeWhile_prefix _).length_le
 .rw[RZ,List.length_drop];have:=(List.dropWhile_suffix (l:=l) (fun c=>c !=46)).length_le;omega
theorem AV9(l:List UInt8)(w:World)(hl:l.length<=140737488355328):
  Calls prog 102 #[.string ⟨l.toArray⟩] w fun e w'=>e=.returned (.tuple #[.int .i64 (aO l),.int .i64 (dR l)])/\Below w.heap.size w w':=by
 have hc:=BY0 l;have c1:=hc.1;have c2:=hc.2;clear hc
 cases h1:KQ (RY l)
 .have H:=AA (lV (.inl h1));have HA:Hid (dM (RY l)=0/\KQ (RY l)=false):=AA ⟨O8 h1,h1⟩;clear h1;go_enter func102,ntmps102;go_wp2_with fail;refine(yB l _ hl).mono ?_;rintro e w1 ⟨b,rfl,hb1⟩;go_wp2_with fail;refine(V6 ⟨(RY l).toArray⟩ _ (by rw[Lib.size_eq];show (RY l).length<=_;omega)).mono ?_;rintro e w2 ⟨rfl,rfl⟩;rw[show (ByteArray.mk (RY l).toArray).data.toList=RY l from rfl,(A8 HA).1,(A8 HA).2];go_wp2_with fail;refine(V6 ⟨(RZ l).toArray⟩ _ (by rw[Lib.size_eq];show (RZ l).length<=_;omega)).mono ?_;rintro e w2 ⟨rfl,rfl⟩;rw[show (ByteArray.mk (RZ l).toArray).data.toList=RZ l from rfl];obtain⟨B,hB⟩:∃B,KQ (RZ l)=B:=⟨_,rfl⟩;obtain⟨M,hM⟩:∃M,dM (RZ l)=M:=⟨_,rfl⟩;rw[hB,hM];clear hB hM HA;go_wp2_with fail
  go_ret2
  exact⟨KW (A8 H).1.symm (A8 H).2.symm,hb1⟩
 cases h2:KQ (RZ l)
 .have H:=AA (lV (.inr h2));have HA:Hid (dM (RY l)=num (RY l)/\KQ (RY l)=true):=AA ⟨TI h1,h1⟩;have HZ:Hid (dM (RZ l)=0/\KQ (RZ l)=false):=AA ⟨O8 h2,h2⟩;clear h1 h2;go_enter func102,ntmps102;go_wp2_with fail;refine(yB l _ hl).mono ?_;rintro e w1 ⟨b,rfl,hb1⟩;go_wp2_with fail;refine(V6 ⟨(RY l).toArray⟩ _ (by rw[Lib.size_eq];show (RY l).length<=_;omega)).mono ?_;rintro e w2 ⟨rfl,rfl⟩;rw[show (ByteArray.mk (RY l).toArray).data.toList=RY l from rfl,(A8 HA).1,(A8 HA).2];go_wp2_with fail;refine(V6 ⟨(RZ l).toArray⟩ _ (by rw[Lib.size_eq];show (RZ l).length<=_;omega)).mono ?_;rintro e w2 ⟨rfl,rfl⟩;rw[show (ByteArray.mk (RZ l).toArray).data.toList=RZ l from rfl,(A8 HZ).1,(A8 HZ).2];go_wp2_with fail
  go_ret2
  exact⟨KW (A8 H).1.symm (A8 H).2.symm,hb1⟩
 have H:=AA (qK h1 h2);have HA:Hid (dM (RY l)=num (RY l)/\KQ (RY l)=true):=AA ⟨TI h1,h1⟩;have HZ:Hid (dM (RZ l)=num (RZ l)/\KQ (RZ l)=true):=AA ⟨TI h2,h2⟩;clear h1 h2;go_enter func102,ntmps102;go_wp2_with fail;refine(yB l _ hl).mono ?_;rintro e w1 ⟨b,rfl,hb1⟩;go_wp2_with fail;refine(V6 ⟨(RY l).toArray⟩ _ (by rw[Lib.size_eq];show (RY l).length<=_;omega)).mono ?_;rintro e w2 ⟨rfl,rfl⟩;rw[show (ByteArray.mk (RY l).toArray).data.toList=RY l from rfl,(A8 HA).1,(A8 HA).2];go_wp2_with fail;refine(V6 ⟨(RZ l).toArray⟩ _ (by rw[Lib.size_eq];show (RZ l).length<=_;omega)).mono ?_;rintro e w2 ⟨rfl,rfl⟩;rw[show (ByteArray.mk (RZ l).toArray).data.toList=RZ l from rfl,(A8 HZ).1,(A8 HZ).2];go_wp2_with fail;refine(QI _ _ _).mono ?_;rintro e w3 ⟨rfl,rfl⟩;obtain⟨X,hX⟩:∃X,G6 (num (RY l)) (num (RZ l))=X:=⟨_,rfl⟩;obtain⟨E,hE⟩:∃E,JG (num (RY l)) (num (RZ l))=E:=⟨_,rfl⟩;rw[hX,hE];rw[hX,hE]at H;clear hX hE HA HZ;go_wp2_with fail
 go_ret2
 exact⟨KW (A8 H).1.symm (A8 H).2.symm,hb1⟩
theorem fM(w:World)(k:Nat)(os:Array Obj):B0 w (Sort.grow (w.drewN k) os):=
 ⟨rfl,rfl,rfl,by simp[Sort.grow,World.drewN],fun i hi=>by simp[Sort.grow,World.drewN,Array.getElem?_append_left hi]⟩
theorem rY{b:ByteArray}{i j:Int}(h:a=b)(h':i=j):Ending.returned (.tuple #[.string a,I0 i])=.returned (.tuple #[.string b,I0 j]):=by rw[h,h']
theorem yG{w1 w2:World}(h:B0 w w1)(h':B0 w1 w2):B0 w w2:=h.trans (h'.mono h.size)
theorem BG4(d m:List UInt8):(ByteArray.mk d.toArray)++(ByteArray.mk #[46])++(ByteArray.mk m.toArray)=⟨(d++46::m).toArray⟩:=by
 apply ByteArray.ext
 simp[ByteArray.data_append]
theorem yH:prog.globalNamed "internal/strconv.uint64pow10" =some 3:=by kernel_rfl
theorem AX7(htab:Lib.TabIs prog w "internal/strconv.uint64pow10" .u64 Lib.pow10Tab):3<w.heap.size:=by
 have hc:=htab.cell yH 0 (by decide);unfold World.cell? at hc
 cases ho:w.heap[3]? with
 |none=>simp[ho]at hc
 |some o=>exact(Array.getElem?_eq_some_iff.1 ho).1
theorem rZ{w':World}(htab:Lib.TabIs prog w "internal/strconv.uint64pow10" .u64 Lib.pow10Tab)(hb:B0 w w'):Lib.TabIs prog w' "internal/strconv.uint64pow10" .u64 Lib.pow10Tab:=
 var?_below hb yH (AX7 htab) htab
theorem fO(z:Int)(w:World)(htab:Lib.TabIs prog w "internal/strconv.uint64pow10" .u64 Lib.pow10Tab):
  Calls prog 198 #[I0 z] w (R0 w (.tuple #[S0 (MV z),I0 (ZV z)])):=by
 cases hg:FU z
 .have H:=AA (A24 hg);have Hg:=AA hg;clear hg htab;go_enter func198,ntmps198;go_wp2_with fail;refine(EN z _).mono ?_;rintro e w1 ⟨rfl,rfl⟩;rw[A8 Hg];go_wp2_with fail
  go_ret2
  exact⟨rY (by rw[(A8 H).1]) (A8 H).2.symm,Below.refl _ _⟩
 have hz:=I8.1 hg;have H:=AA (dS hg);have Hg:=AA hg;have q0:(z/2147483648)=((z/2147483648).toNat:Int):=by omega
 have r0:(z%2147483648)=((z%2147483648).toNat:Int):=by omega
 obtain⟨q,hq⟩:∃q,(z/2147483648).toNat=q:=⟨_,rfl⟩;obtain⟨r,hr⟩:∃r,(z%2147483648).toNat=r:=⟨_,rfl⟩;have q1:q<2147483648:=by omega
 have r1:r<2147483648:=by omega
 rw[hq]at q0;rw[hr]at r0;rw[hq,hr]at H;have Ez:Hid (DL z=(q:Int)):=AA (by rw[I9 hg];exact q0);have Cz:Hid (iZ z=(r:Int)):=AA (by rw[UH hg];exact r0);have Htab:=AA htab;have Hiq:=AA (Lib.itoa_nonneg q);have Hir:=AA (Lib.itoa_nonneg r);have lq:=dQ 9 q (by omega);have lr:=dQ 9 r (by omega);clear hg hz q0 r0 hq hr htab;go_enter func198,ntmps198;go_wp2_with fail;refine(EN z _).mono ?_;rintro e w1 ⟨rfl,rfl⟩;rw[A8 Hg];go_wp2_with fail;refine(MB z _).mono ?_;rintro e w2 ⟨rfl,rfl⟩;rw[A8 Ez];go_wp2_with fail;refine(strconv_Itoa _ (by omega) (by omega) _ (A8 Htab)).mono ?_;rintro e w3 ⟨rfl,k,os,hw3⟩;have hb3:B0 w2 w3:=by rw[hw3];exact fM w2 k os
 clear hw3;rw[A8 Hiq];obtain⟨D,hD⟩:∃D,Lib.decDigits q=D:=⟨_,rfl⟩;rw[hD]at lq H⊢;clear hD;go_wp2_with fail;refine(Z9 z _).mono ?_;rintro e w4 ⟨rfl,rfl⟩;rw[A8 Cz];go_wp2_with fail;refine(strconv_Itoa _ (by omega) (by omega) _ (rZ (A8 Htab) hb3)).mono ?_;rintro e w5 ⟨rfl,k,os,hw5⟩;have hb5:B0 w2 w5:=yG hb3 (by rw[hw5];exact fM w4 k os);clear hw5;rw[A8 Hir];obtain⟨R,hR⟩:∃R,Lib.decDigits r=R:=⟨_,rfl⟩;rw[hR]at lr H⊢;clear hR Hiq Hir Ez Cz Hg hb3;have zD:(ByteArray.mk D.toArray).size=D.length:=Lib.size_eq ⟨D.toArray⟩;have zR:(ByteArray.mk R.toArray).size=R.length:=Lib.size_eq ⟨R.toArray⟩;go_wp2_with fail
 go_ret2
 exact⟨rY (by rw[(A8 H).1];exact BG4 D R) (A8 H).2.symm,hb5⟩
theorem sS(z:Int)(w:World):
  Calls prog 182 #[I0 z] w fun e w'=>e=.returned (.tuple #[I0 (bZ z),I0 (SK z)])/\w'=w:=by
 cases hg:FU z
 .have H:=AA (AK9 hg);have Hg:=AA hg;clear hg;go_enter func182,ntmps182;go_wp2_with fail;refine(EN z _).mono ?_;rintro e w1 ⟨rfl,rfl⟩;rw[A8 Hg];go_wp2_with fail
  go_ret2
  exact⟨KW (A8 H).1.symm (A8 H).2.symm,rfl⟩
 have hz:=I8.1 hg;have h0:=hz.1;have h1:=hz.2;clear hz
 cases hi:zIn (z%2147483648+1)
 .have H:=AA (A91 hg hi);have Hg:=AA hg;have hf:(z%2147483648==2147483647)=true:=by
   rw[beq_iff_eq];have:=Int.emod_nonneg z (show (2147483648:Int)≠0 by decide);have:=Int.emod_lt_of_pos z (show (0:Int)<2147483648 by decide);by_cases h:z%2147483648=2147483647
   .exact h
   .rw[LQ.2 (by omega)]at hi;exact absurd hi (by decide)
  clear hg hi;go_enter func182,ntmps182;go_wp2_with fail;refine(EN z _).mono ?_;rintro e w1 ⟨rfl,rfl⟩;rw[A8 Hg];go_wp2_with fail;refine(Z9 z _).mono ?_;rintro e w2 ⟨rfl,rfl⟩;rw[UH (A8 Hg)];go_wp2_with fail
  go_ret2
  exact⟨KW (A8 H).1.symm (A8 H).2.symm,rfl⟩
 .have H:=AA (l7 hg hi);have Hg:=AA hg;have hf:(z%2147483648==2147483647)=false:=by
   rw[beq_eq_false_iff_ne];have:=(LQ.1 hi).2;omega
  clear hg hi;go_enter func182,ntmps182;go_wp2_with fail;refine(EN z _).mono ?_;rintro e w1 ⟨rfl,rfl⟩;rw[A8 Hg];go_wp2_with fail;refine(Z9 z _).mono ?_;rintro e w2 ⟨rfl,rfl⟩;rw[UH (A8 Hg)];go_wp2_with fail
  go_ret2
  exact⟨KW (A8 H).1.symm (A8 H).2.symm,rfl⟩
