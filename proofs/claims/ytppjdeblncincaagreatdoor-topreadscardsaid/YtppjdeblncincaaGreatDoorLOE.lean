/-
  Part.
-/
import Derived.Test.YtppjdeblncincaaGreatDoorLOA
import Derived.Test.YtppjdeblncincaaGreatDoorRows
import Derived.WalkSpells
import Derived.WalkLawsBesides
import Derived.Test.YtppjdeblncincaaGreatDoorShelf
set_option maxRecDepth 20000
set_option maxHeartbeats 8000000
namespace Go.Proofs.YtppjdeblncincaaGreatDoor
open Go.RowKit Go.Proofs.Tryz
open _root_.ByteArray renaming mk->AU
open _root_.List renaming take_of_length_le->BN
open Go.Lib renaming size_eq->DN,decDigits->EM,indexByte->F6
open Go.Ending renaming returned->DX
open Go renaming World->FW,Calls->FZ
variable{l:List UInt8}{u:Nat}{a:ByteArray}{z:Int}{w:FW}
def isD(c:UInt8):Bool:=decide (48<=c.toNat)&&decide (c.toNat<=57)
theorem WZ{c:UInt8}:isD c=true↔48<=c.toNat/\c.toNat<=57:=by simp[isD]
def num(l:List UInt8):Nat:=l.foldl (fun n c=>10*n+(c.toNat-48)) 0
theorem qM(l:List UInt8)(c:UInt8):num (l++[c])=10*num l+(c.toNat-48):=by simp[num]
theorem AI7(l:List UInt8):l=[]\/∃a c,l=a++[c]:=by
 cases h:l.reverse with
 |nil=>exact .inl (by simpa using h)
 |cons c r=>exact .inr ⟨r.reverse,c,by have:=congrArg List.reverse h;simpa using this⟩
theorem CH6(l:List UInt8)(h:l.all isD=true):num l<10^l.length:=by
 obtain⟨n,hn⟩:∃n,l.length=n:=⟨_,rfl⟩
 induction n generalizing l with
 |zero=>rw[List.length_eq_zero_iff.1 hn];decide
 |succ n ih=>
  rcases AI7 l with rfl|⟨a,c,rfl⟩
  .simp at hn
  .simp only[List.all_append,Bool.and_eq_true,List.all_cons,List.all_nil,Bool.and_true]at h;have h1:=ih a h.1 (by simpa using hn);have h2:=WZ.1 h.2;rw[qM,List.length_append,List.length_singleton,Nat.pow_succ];omega
def OW(l:List UInt8):Bool:=decide (1<=l.length)&&decide (l.length<=10)&& !(decide (1<l.length)&&l.head?==some 48)&&l.all isD
def jL(l:List UInt8):Int:=if OW l then(num l:Int)else 0
theorem XA(h:OW l=true):jL l=num l:=by rw[jL,if_pos h]
theorem RQ(h:OW l=false):jL l=0:=by rw[jL,h];rfl
theorem jM:OW l=true↔1<=l.length/\l.length<=10/\(1<l.length->l.head? ≠some 48)/\l.all isD=true:=by
 simp only[OW,Bool.and_eq_true,decide_eq_true_eq,Bool.not_eq_true',Bool.and_eq_false_imp,beq_eq_false_iff_ne,ne_eq];constructor
 .rintro⟨⟨⟨a,b⟩,c⟩,d⟩;exact⟨a,b,c,d⟩
 .rintro⟨a,b,c,d⟩;exact⟨⟨⟨a,b⟩,c⟩,d⟩
theorem iE(h:¬ (1<=l.length/\l.length<=10/\(1<l.length->l.head? ≠some 48)/\l.all isD=true)):OW l=false:=by
 cases hp:OW l with
 |false=>rfl
 |true=>exact absurd (jM.1 hp) h
theorem CS4(h:u<10):EM u=[UInt8.ofNat (48+u)]:=by rw[EM,dif_pos h]
theorem decb(h:¬u<10):EM u=EM (u/10)++[UInt8.ofNat (48+u%10)]:=by rw[EM,dif_neg h]
theorem aV{d:Nat}(h:d<10):(UInt8.ofNat (48+d)).toNat=48+d:=by rw[UInt8.toNat_ofNat'];omega
theorem AX7{d:Nat}(h:d<10):isD (UInt8.ofNat (48+d))=true:=WZ.2 (by rw[aV h];omega)
theorem jO(u:Nat):(EM u).all isD=true/\num (EM u)=u/\1<=(EM u).length/\(u≠0->(EM u).head? ≠some 48):=by
 induction u using Nat.strongRecOn with
 |_ u ih=>
  by_cases h:u<10
  .rw[CS4 h];refine⟨by rw[List.all_cons,List.all_nil,AX7 h];rfl,?_,by simp,?_⟩
   .show 10*0+((UInt8.ofNat (48+u)).toNat-48)=u;rw[aV h];omega
   .intro h0 e;have h1:=congrArg UInt8.toNat (Option.some.inj e);rw[aV h]at h1;have h2:(48:UInt8).toNat=48:=rfl;omega
  .rw[decb h];obtain⟨i1,i2,i3,i4⟩:=ih (u/10) (by omega);refine⟨by rw[List.all_append,i1,List.all_cons,AX7 (Nat.mod_lt u (by decide:0<10)),List.all_nil];rfl,?_,by simp,?_⟩
   .rw[qM,i2,aV (Nat.mod_lt u (by decide))];omega
   .intro _;have i5:=i4 (by omega)
    cases hd:EM (u/10)with
    |nil=>rw[hd]at i3;simp at i3
    |cons c r=>rw[hd]at i5;simpa using i5
theorem jP(k:Nat):∀u,u<10^(k+1)->(EM u).length<=k+1:=by
 induction k with
 |zero=>intro u hu;rw[CS4 (by simpa using hu)];simp
 |succ k ih=>
  intro u hu;by_cases h:u<10
  .rw[CS4 h];simp
  .rw[decb h];have:=ih (u/10) (by rw[Nat.pow_succ]at hu;omega);simp;omega
theorem C27(h:1<(EM u).length):u≠0:=by
 rintro rfl;rw[CS4 (by decide)]at h;simp at h
theorem A91(h:u<10000000000):OW (EM u)=true:=by
 obtain⟨i1,i2,i3,i4⟩:=jO u;exact jM.2 ⟨i3,jP 9 u h,fun hl=>i4 (C27 hl),i1⟩
def VW(l:List UInt8):List UInt8:=l.takeWhile (fun c=>c !=46)
def VX(l:List UInt8):List UInt8:=(l.dropWhile (fun c=>c !=46)).drop 1
theorem AX8{a b:List UInt8}(h:∀c∈a,c≠46):VW (a++46::b)=a/\VX (a++46::b)=b:=by
 have hp:∀c∈a,(c !=46)=true:=fun c hc=>by simpa using h c hc
 constructor
 .rw[VW,List.takeWhile_append_of_pos hp];simp
 .rw[VX,List.dropWhile_append_of_pos hp];simp
theorem BI7(h:∀c∈l,c≠46):VW l=l/\VX l=[]:=by
 have hp:∀c∈l,(c !=46)=true:=fun c hc=>by simpa using h c hc
 constructor
 .have:=List.takeWhile_append_of_pos (l₂:=[]) hp;rw[VW];simpa using this
 .have:=List.dropWhile_append_of_pos (l₂:=[]) hp;rw[VX];simp at this;rw[this];rfl
theorem AX9(l:List UInt8):(∀c∈l,c≠46)\/∃a b,l=a++46::b/\∀c∈a,c≠46:=by
 induction l with
 |nil=>exact .inl (by simp)
 |cons x l ih=>
  by_cases hx:x=46
  .subst hx;exact .inr ⟨[],l,rfl,by simp⟩
  .rcases ih with h|⟨a,b,rfl,h⟩
   .exact .inl (by simpa [hx]using h)
   .exact .inr ⟨x::a,b,rfl,by simpa [hx]using h⟩
theorem C28(h:l.all isD=true):∀c∈l,c≠46:=by
 intro c hc e;subst e;exact absurd (List.all_eq_true.1 h 46 hc) (by decide)
def gQ(l:List UInt8):Int:=if OW (VW l)&&OW (VX l)then KY (num (VW l)) (num (VX l))else 0
def jQ(l:List UInt8):Int:=if OW (VW l)&&OW (VX l)then NT (num (VW l)) (num (VX l))else 2
theorem qN(h:OW (VW l)=false\/OW (VX l)=false):gQ l=0/\jQ l=2:=by
 rcases h with h|h<;>simp[gQ,jQ,h]
theorem vF(h:OW (VW l)=true)(h':OW (VX l)=true):gQ l=KY (num (VW l)) (num (VX l))/\jQ l=NT (num (VW l)) (num (VX l)):=by
 simp[gQ,jQ,h,h']
def QM(z:Int):List UInt8:=if KN z then EM (z/2147483648).toNat++46::EM (z%2147483648).toNat else []
def fH(z:Int):Int:=if KN z then 0 else 3
theorem A92(h:KN z=false):QM z=[]/\fH z=3:=by simp[QM,fH,h]
theorem jR(h:KN z=true):QM z=EM (z/2147483648).toNat++46::EM (z%2147483648).toNat/\fH z=0:=by simp[QM,fH,h]
theorem AY0(h:KN z=true):gQ (QM z)=z/\jQ (QM z)=0:=by
 have hz:=LY.1 h;obtain⟨i1,i2,_,_⟩:=jO (z/2147483648).toNat;obtain⟨_,j2,_,_⟩:=jO (z%2147483648).toNat;obtain⟨c1,c2⟩:=AX8 (b:=EM (z%2147483648).toNat) (C28 i1);rw[(jR h).1];obtain⟨r1,r2⟩:=vF (l:=EM (z/2147483648).toNat++46::EM (z%2147483648).toNat) (by rw[c1];exact A91 (by omega)) (by rw[c2];exact A91 (by omega));rw[r1,r2,c1,c2,i2,j2];obtain⟨m1,m2⟩:=U9 (e:=((z/2147483648).toNat:Int)) (c:=((z%2147483648).toNat:Int)) (PS.2 (by omega)) (PS.2 (by omega));rw[m1,m2,Int.toNat_of_nonneg (by omega),Int.toNat_of_nonneg (by omega)];exact⟨by omega,rfl⟩
theorem SQ{a b:Bool}(h:a=b):DX (.bool a)=.returned (.bool b):=by rw[h]
theorem JJ(z:Int)(w:FW):
  FZ prog 114 #[I0 z] w fun e w'=>e=.returned (.bool (KN z))/\w'=w:=by
 go_enter func114,ntmps114
 go_wp2
 go_ret;exact⟨SQ (by rw[Bool.eq_iff_iff,LY,beq_iff_eq];omega),rfl⟩
theorem UN(e c:Int)(w:FW):
  FZ prog 113 #[I0 e,I0 c] w fun x w'=>x=.returned (.tuple #[I0 (KY e c),I0 (NT e c)])/\w'=w:=by
 by_cases h1:e<0
 .have H:=G8 (gW (e:=e) (c:=c) (.inl (A66 (by omega))));go_enter func113,ntmps113
  go_wp2
  go_ret2
  exact⟨OY (G7 H).1.symm (G7 H).2.symm,rfl⟩
 by_cases h2:2147483647<e
 .have H:=G8 (gW (e:=e) (c:=c) (.inl (A66 (by omega))));go_enter func113,ntmps113
  go_wp2
  go_ret2
  exact⟨OY (G7 H).1.symm (G7 H).2.symm,rfl⟩
 by_cases h3:c<0
 .have H:=G8 (gW (e:=e) (c:=c) (.inr (A66 (by omega))));go_enter func113,ntmps113
  go_wp2
  go_ret2
  exact⟨OY (G7 H).1.symm (G7 H).2.symm,rfl⟩
 by_cases h4:2147483647<c
 .have H:=G8 (gW (e:=e) (c:=c) (.inr (A66 (by omega))));go_enter func113,ntmps113
  go_wp2
  go_ret2
  exact⟨OY (G7 H).1.symm (G7 H).2.symm,rfl⟩
 have H:=G8 (U9 (e:=e) (c:=c) (PS.2 (by omega)) (PS.2 (by omega)));go_enter func113,ntmps113
 go_wp2
 go_ret2
 exact⟨OY ((BZ9 (by omega) (by omega) (by omega) (by omega)).trans (G7 H).1.symm) (G7 H).2.symm,rfl⟩
theorem PZ(z:Int)(w:FW):
  FZ prog 75 #[I0 z] w fun e w'=>e=.returned (I0 (J4 z))/\w'=w:=by
 cases hg:KN z
 .have H:=G8 (tY hg);have Hg:=G8 hg;clear hg;go_enter func75,ntmps75;go_wp2_with fail;refine(JJ z _).mono ?_;rintro e w1 ⟨rfl,rfl⟩;rw[G7 Hg];go_wp2_with fail;go_ret;exact⟨pY (G7 H).symm,rfl⟩
 .have H:=G8 (LZ hg);have Hg:=G8 hg;clear hg;go_enter func75,ntmps75;go_wp2_with fail;refine(JJ z _).mono ?_;rintro e w1 ⟨rfl,rfl⟩;rw[G7 Hg];go_wp2_with fail;go_ret;exact⟨pY (G7 H).symm,rfl⟩
theorem dY(z:Int)(w:FW):
  FZ prog 161 #[I0 z] w fun e w'=>e=.returned (I0 (nG z))/\w'=w:=by
 cases hg:KN z
 .have H:=G8 (AS1 hg);have Hg:=G8 hg;clear hg;go_enter func161,ntmps161;go_wp2_with fail;refine(JJ z _).mono ?_;rintro e w1 ⟨rfl,rfl⟩;rw[G7 Hg];go_wp2_with fail;go_ret;exact⟨pY (G7 H).symm,rfl⟩
 .have H:=G8 (YB hg);have Hg:=G8 hg;clear hg;go_enter func161,ntmps161;go_wp2_with fail;refine(JJ z _).mono ?_;rintro e w1 ⟨rfl,rfl⟩;rw[G7 Hg];go_wp2_with fail;go_ret;have h:=LY.1 (G7 Hg);exact⟨pY ((BE9 h.1 h.2).trans (G7 H).symm),rfl⟩
theorem AM9(s:ByteArray):s.data.toList.length=s.size:=by simp
theorem RV{i j:Int}{a b:Bool}(h:i=j)(h':a=b):DX (.tuple #[.int .i64 i,.bool a])=.returned (.tuple #[.int .i64 j,.bool b]):=by rw[h,h']
theorem CV4(s:ByteArray)(h:0<s.size):s.data.toList.head?=some s[0]:=by
 rw[List.head?_eq_getElem?,List.getElem?_eq_getElem (by simpa using h)];rfl
theorem AB7(s:ByteArray)(k:Nat)(h:k<s.size):num (s.data.toList.take (k+1))=10*num (s.data.toList.take k)+(s[k].toNat-48):=by
 rw[iV s k h,qM]
theorem wR(s:ByteArray)(k:Nat)(h:k<10)(ha:(s.data.toList.take k).all isD=true):num (s.data.toList.take k)<1000000000:=by
 have h1:=CH6 _ ha;have h2:(s.data.toList.take k).length<=9:=by rw[List.length_take];omega
 have h3:10^(s.data.toList.take k).length<=10^9:=Nat.pow_le_pow_right (by decide) h2;have h4:(10:Nat)^9=1000000000:=by decide
 omega
theorem YN(s:ByteArray)(w:FW)(hs:s.size<=140737488355328):
  FZ prog 112 #[.string s] w fun e w'=>e=.returned (.tuple #[.int .i64 (jL s.data.toList),.bool (OW s.data.toList)])/\w'=w:=by
 have hz:=AM9 s;by_cases h1:s.size<1
 .have hp:OW s.data.toList=false:=iE (by omega);have H:=G8 hp;clear hp;go_enter func112,ntmps112
  go_wp2
  go_ret2
  exact⟨RV (RQ (G7 H)).symm (G7 H).symm,rfl⟩
 by_cases h2:10<s.size
 .have hp:OW s.data.toList=false:=iE (by omega);have H:=G8 hp;clear hp;go_enter func112,ntmps112
  go_wp2
  go_ret2
  exact⟨RV (RQ (G7 H)).symm (G7 H).symm,rfl⟩
 have hhd:=CV4 s (by omega);have h0:0<s.size:=by omega
 by_cases h3:1<s.size/\s[0]=48
 .have hp:OW s.data.toList=false:=iE (by
   rintro⟨_,_,h,_⟩;exact h (by omega) (by rw[hhd,h3.2]))
  have H:=G8 hp;have h4:((s[0].toNat:Int)==48)=true:=by rw[h3.2];rfl
  have h5:=h3.1;clear hp h3 hhd;go_enter func112,ntmps112
  go_wp2
  go_ret2
  exact⟨RV (RQ (G7 H)).symm (G7 H).symm,rfl⟩
 have Hok:Hid (s.data.toList.all isD=true->OW s.data.toList=true):=G8 (fun h=>jM.2 ⟨by omega,by omega,fun hl e=>h3 ⟨by omega,by rw[hhd]at e;exact Option.some.inj e⟩,h⟩);have Hno:Hid (s.data.toList.all isD=false->OW s.data.toList=false):=G8 (fun h=>iE (fun hh=>by rw[h]at hh;exact absurd hh.2.2.2 (by decide)));have h4:1<s.size->((s[0].toNat:Int)==48)=false:=fun hl=>by
  rw[beq_eq_false_iff_ne];intro e;exact h3 ⟨hl,UInt8.toNat_inj.1 (by show s[0].toNat=48;omega)⟩
 clear h3 hhd;by_cases h5:1<s.size
 .have h6:=h4 h5;clear h4;go_enter func112,ntmps112
  go_wp2
  clear h6
  go_loop [4,26] (fun n i=>∃k:Nat,k<=s.size/\i=.int .i64 k/\n=.int .i64 (num (s.data.toList.take k):Int)/\(s.data.toList.take k).all isD=true) (fun _ i=>s.size-(intOf i).toNat)
  case atStart=>exact⟨0,Nat.zero_le _,rfl,rfl,by simp⟩
  case round=>
   obtain⟨k,hk,rfl,rfl,hall⟩:=hrel;have zG:=G8 hall;by_cases hlt:k<s.size
   .have hsm:=wR s k (by omega) hall;have Hnt:=G8 (AB7 s k hlt);clear hall;obtain⟨n,hn⟩:∃n,num (s.data.toList.take k)=n:=⟨_,rfl⟩;rw[hn]at hsm Hnt⊢;clear hn;by_cases hd:isD s[k]=true
    .have hd1:=(WZ.1 hd).1;have hd2:=(WZ.1 hd).2;have Hd:=G8 hd;clear hd
     go_wp2
     go_round
     case rel=>exact⟨k+1,by omega,by go_num,by rw[G7 Hnt];go_num,VA s k hlt isD (G7 zG) (G7 Hd)⟩
     case measure=>simp[intOf];omega
    .have hd':isD s[k]=false:=by simpa using hd
     have hp:=G7 Hno (dJ s k hlt isD hd');have hq:s[k].toNat<48\/57<s[k].toNat:=by
      by_cases hc:48<=s[k].toNat/\s[k].toNat<=57
      .exact absurd (WZ.2 hc) hd
      .omega
     have H:=G8 hp;clear hp hd hd';rcases hq with hq|hq
     .go_wp2
      go_ret2
      exact⟨RV (RQ (G7 H)).symm (G7 H).symm,rfl⟩
     .go_wp2
      go_ret2
      exact⟨RV (RQ (G7 H)).symm (G7 H).symm,rfl⟩
   .have hp:=G7 Hok (ZC s k (by omega) isD hall);have H:=G8 hp;have hkk:s.data.toList.take k=s.data.toList:=BN (by omega);rw[hkk];clear hp hall zG hkk
    go_wp2
    go_ret2
    exact⟨RV (XA (G7 H)).symm (G7 H).symm,rfl⟩
 .clear h4;go_enter func112,ntmps112
  go_wp2
  go_loop [4,26] (fun n i=>∃k:Nat,k<=s.size/\i=.int .i64 k/\n=.int .i64 (num (s.data.toList.take k):Int)/\(s.data.toList.take k).all isD=true) (fun _ i=>s.size-(intOf i).toNat)
  case atStart=>exact⟨0,Nat.zero_le _,rfl,rfl,by simp⟩
  case round=>
   obtain⟨k,hk,rfl,rfl,hall⟩:=hrel;have zG:=G8 hall;by_cases hlt:k<s.size
   .have hsm:=wR s k (by omega) hall;have Hnt:=G8 (AB7 s k hlt);clear hall;obtain⟨n,hn⟩:∃n,num (s.data.toList.take k)=n:=⟨_,rfl⟩;rw[hn]at hsm Hnt⊢;clear hn;by_cases hd:isD s[k]=true
    .have hd1:=(WZ.1 hd).1;have hd2:=(WZ.1 hd).2;have Hd:=G8 hd;clear hd
     go_wp2
     go_round
     case rel=>exact⟨k+1,by omega,by go_num,by rw[G7 Hnt];go_num,VA s k hlt isD (G7 zG) (G7 Hd)⟩
     case measure=>simp[intOf];omega
    .have hd':isD s[k]=false:=by simpa using hd
     have hp:=G7 Hno (dJ s k hlt isD hd');have hq:s[k].toNat<48\/57<s[k].toNat:=by
      by_cases hc:48<=s[k].toNat/\s[k].toNat<=57
      .exact absurd (WZ.2 hc) hd
      .omega
     have H:=G8 hp;clear hp hd hd';rcases hq with hq|hq
     .go_wp2
      go_ret2
      exact⟨RV (RQ (G7 H)).symm (G7 H).symm,rfl⟩
     .go_wp2
      go_ret2
      exact⟨RV (RQ (G7 H)).symm (G7 H).symm,rfl⟩
   .have hp:=G7 Hok (ZC s k (by omega) isD hall);have H:=G8 hp;have hkk:s.data.toList.take k=s.data.toList:=BN (by omega);rw[hkk];clear hp hall zG hkk
    go_wp2
    go_ret2
    exact⟨RV (XA (G7 H)).symm (G7 H).symm,rfl⟩
theorem B36{a b:List UInt8}(h:∀c∈a,c≠46):F6 (a++46::b) 46=(a.length:Int):=by
 induction a with
 |nil=>rfl
 |cons x a ih=>
  have hx:(x==46)=false:=by simpa using h x (by simp)
  have ih':=ih (fun c hc=>h c (by simp[hc]));show F6 (x::(a++46::b)) 46=_;rw[F6,if_neg (by simp[hx]),ih',if_neg (by simp)];simp
theorem AN0(h:∀c∈l,c≠46):F6 l 46=-1:=by
 induction l with
 |nil=>rfl
 |cons x a ih=>
  have hx:(x==46)=false:=by simpa using h x (by simp)
  have ih':=ih (fun c hc=>h c (by simp[hc]));rw[F6,if_neg (by simp[hx]),ih'];rfl
theorem BX8(h:a.data.toList=l):a=⟨l.toArray⟩:=by rw[<-h]
theorem B37(a b:List UInt8):(AU (a++46::b).toArray).extract 0 a.length=⟨a.toArray⟩:=by
 apply BX8
 rw[<-Lib.toList_data,Lib.extract_toList];show ((a++46::b).drop 0).take (a.length-0)=a;simp
theorem BN4(a b:List UInt8)(n:Nat)(hn:n=(a++46::b).length):(AU (a++46::b).toArray).extract (a.length+1) n=⟨b.toArray⟩:=by
 subst hn
 apply BX8
 rw[<-Lib.toList_data,Lib.extract_toList];show ((a++46::b).drop (a.length+1)).take ((a++46::b).length-(a.length+1))=b;rw[show (a++46::b).drop (a.length+1)=b from by simp];exact BN (by simp;omega)
theorem B38{b c d:ByteArray}{x:Bool}(h:a=b)(h':c=d):DX (.tuple #[.string a,.string c,.bool x])=.returned (.tuple #[.string b,.string d,.bool x]):=by rw[h,h']
theorem A26(l:List UInt8)(w:FW)(hl:l.length<=140737488355328):
  FZ prog 160 #[.string ⟨l.toArray⟩,.string ⟨#[46]⟩] w fun e w'=>∃b,e=.returned (.tuple #[.string ⟨(VW l).toArray⟩,.string ⟨(VX l).toArray⟩,.bool b])/\Below w.heap.size w w':=by
 have hz:(AU l.toArray).size=l.length:=DN ⟨l.toArray⟩;rcases AX9 l with hd|⟨a,b,rfl,hd⟩
 .have H:=G8 (BI7 hd);have HI:=G8 (AN0 hd);clear hd;go_enter func160,ntmps160;go_wp2_with fail;refine(stringslite_Index_one ⟨l.toArray⟩ 46 _).mono ?_;rintro e w1 ⟨rfl,rfl⟩;rw[show F6 (AU l.toArray).data.toList 46=-1 from G7 HI];go_wp2_with fail
  go_ret3
  exact⟨_,B38 (by rw[(G7 H).1]) (by rw[(G7 H).2]),Below.refl _ _⟩
 .have H:=G8 (AX8 (b:=b) hd);have HI:=G8 (B36 (b:=b) hd);have hlen:(a++46::b).length=a.length+1+b.length:=by simp;omega
  rw[hlen]at hz hl;have HL:=G8 hlen;have H1:=G8 (B37 a b);have H2:=G8 (BN4 a b _ rfl);clear hd hlen;obtain⟨S,hS⟩:∃S,(AU (a++46::b).toArray)=S:=⟨_,rfl⟩;rw[hS]at hz H1 H2⊢;have HI':Hid (F6 S.data.toList 46=(a.length:Int)):=G8 (by rw[<-hS];exact G7 HI);have HE:Hid (S.extract (a.length+1) (a.length+1+b.length)=⟨b.toArray⟩):=G8 (by rw[<-G7 HL];exact G7 H2);clear hS HI H2;have c1:(0:Int)<=(a.length:Int):=by omega
  have c2:(a.length:Int)<=(S.size:Int):=by omega
  have c3:(0:Int)<=(a.length:Int)+1:=by omega
  have c4:(a.length:Int)+1<=(S.size:Int):=by omega
  go_enter func160,ntmps160;go_wp2_with fail;refine(stringslite_Index_one S 46 _).mono ?_;rintro e w1 ⟨rfl,rfl⟩;rw[G7 HI'];go_wp2_with fail;go_region
  go_wp2
  go_ret3
  exact⟨_,B38 (by rw[(G7 H).1];exact G7 H1) (by rw[(G7 H).2];exact G7 HE),(Below.refl _ _).drew⟩
theorem A27(l:List UInt8)(w:FW)(hl:l.length<=140737488355328):
  FZ prog 111 #[.string ⟨l.toArray⟩,.string ⟨#[46]⟩] w fun e w'=>∃b,e=.returned (.tuple #[.string ⟨(VW l).toArray⟩,.string ⟨(VX l).toArray⟩,.bool b])/\Below w.heap.size w w':=by
 go_enter func111,ntmps111;go_wp2_with fail;refine(A26 l _ hl).mono ?_;rintro e w1 ⟨b,rfl,hb1⟩;go_wp2_with fail
 go_ret3
 exact⟨_,rfl,hb1⟩
theorem C55(l:List UInt8):(VW l).length<=l.length/\(VX l).length<=l.length:=by
 constructor
 .exact(List.takeWhile_prefix _).length_le
 .rw[VX,List.length_drop];have:=(List.dropWhile_suffix (l:=l) (fun c=>c !=46)).length_le;omega
theorem B39(l:List UInt8)(w:FW)(hl:l.length<=140737488355328):
  FZ prog 74 #[.string ⟨l.toArray⟩] w fun e w'=>e=.returned (.tuple #[.int .i64 (gQ l),.int .i64 (jQ l)])/\Below w.heap.size w w':=by
 have hc:=C55 l;have c1:=hc.1;have c2:=hc.2;clear hc
 cases h1:OW (VW l)
 .have H:=G8 (qN (.inl h1));have HA:Hid (jL (VW l)=0/\OW (VW l)=false):=G8 ⟨RQ h1,h1⟩;clear h1;go_enter func74,ntmps74;go_wp2_with fail;refine(A27 l _ hl).mono ?_;rintro e w1 ⟨b,rfl,hb1⟩;go_wp2_with fail;refine(YN ⟨(VW l).toArray⟩ _ (by rw[DN];show (VW l).length<=_;omega)).mono ?_;rintro e w2 ⟨rfl,rfl⟩;rw[show (AU (VW l).toArray).data.toList=VW l from rfl,(G7 HA).1,(G7 HA).2];go_wp2_with fail;refine(YN ⟨(VX l).toArray⟩ _ (by rw[DN];show (VX l).length<=_;omega)).mono ?_;rintro e w2 ⟨rfl,rfl⟩;rw[show (AU (VX l).toArray).data.toList=VX l from rfl];obtain⟨B,hB⟩:∃B,OW (VX l)=B:=⟨_,rfl⟩;obtain⟨M,hM⟩:∃M,jL (VX l)=M:=⟨_,rfl⟩;rw[hB,hM];clear hB hM HA;go_wp2_with fail
  go_ret2
  exact⟨OY (G7 H).1.symm (G7 H).2.symm,hb1⟩
 cases h2:OW (VX l)
 .have H:=G8 (qN (.inr h2));have HA:Hid (jL (VW l)=num (VW l)/\OW (VW l)=true):=G8 ⟨XA h1,h1⟩;have HZ:Hid (jL (VX l)=0/\OW (VX l)=false):=G8 ⟨RQ h2,h2⟩;clear h1 h2;go_enter func74,ntmps74;go_wp2_with fail;refine(A27 l _ hl).mono ?_;rintro e w1 ⟨b,rfl,hb1⟩;go_wp2_with fail;refine(YN ⟨(VW l).toArray⟩ _ (by rw[DN];show (VW l).length<=_;omega)).mono ?_;rintro e w2 ⟨rfl,rfl⟩;rw[show (AU (VW l).toArray).data.toList=VW l from rfl,(G7 HA).1,(G7 HA).2];go_wp2_with fail;refine(YN ⟨(VX l).toArray⟩ _ (by rw[DN];show (VX l).length<=_;omega)).mono ?_;rintro e w2 ⟨rfl,rfl⟩;rw[show (AU (VX l).toArray).data.toList=VX l from rfl,(G7 HZ).1,(G7 HZ).2];go_wp2_with fail
  go_ret2
  exact⟨OY (G7 H).1.symm (G7 H).2.symm,hb1⟩
 have H:=G8 (vF h1 h2);have HA:Hid (jL (VW l)=num (VW l)/\OW (VW l)=true):=G8 ⟨XA h1,h1⟩;have HZ:Hid (jL (VX l)=num (VX l)/\OW (VX l)=true):=G8 ⟨XA h2,h2⟩;clear h1 h2;go_enter func74,ntmps74;go_wp2_with fail;refine(A27 l _ hl).mono ?_;rintro e w1 ⟨b,rfl,hb1⟩;go_wp2_with fail;refine(YN ⟨(VW l).toArray⟩ _ (by rw[DN];show (VW l).length<=_;omega)).mono ?_;rintro e w2 ⟨rfl,rfl⟩;rw[show (AU (VW l).toArray).data.toList=VW l from rfl,(G7 HA).1,(G7 HA).2];go_wp2_with fail;refine(YN ⟨(VX l).toArray⟩ _ (by rw[DN];show (VX l).length<=_;omega)).mono ?_;rintro e w2 ⟨rfl,rfl⟩;rw[show (AU (VX l).toArray).data.toList=VX l from rfl,(G7 HZ).1,(G7 HZ).2];go_wp2_with fail;refine(UN _ _ _).mono ?_;rintro e w3 ⟨rfl,rfl⟩;obtain⟨X,hX⟩:∃X,KY (num (VW l)) (num (VX l))=X:=⟨_,rfl⟩;obtain⟨E,hE⟩:∃E,NT (num (VW l)) (num (VX l))=E:=⟨_,rfl⟩;rw[hX,hE];rw[hX,hE]at H;clear hX hE HA HZ;go_wp2_with fail
 go_ret2
 exact⟨OY (G7 H).1.symm (G7 H).2.symm,hb1⟩
theorem kR(w:FW)(k:Nat)(os:Array Obj):B0 w (Sort.grow (w.drewN k) os):=
 ⟨rfl,rfl,rfl,by simp[Sort.grow,World.drewN],fun i hi=>by simp[Sort.grow,World.drewN,Array.getElem?_append_left hi]⟩
theorem wW{b:ByteArray}{i j:Int}(h:a=b)(h':i=j):DX (.tuple #[.string a,I0 i])=.returned (.tuple #[.string b,I0 j]):=by rw[h,h']
theorem A32{w1 w2:FW}(h:B0 w w1)(h':B0 w1 w2):B0 w w2:=h.trans (h'.mono h.size)
theorem BO1(d m:List UInt8):(AU d.toArray)++(AU #[46])++(AU m.toArray)=⟨(d++46::m).toArray⟩:=by
 apply ByteArray.ext
 simp[ByteArray.data_append]
theorem B53:prog.globalNamed "internal/strconv.uint64pow10" =some 1:=by kernel_rfl
theorem B54(htab:Lib.TabIs prog w "internal/strconv.uint64pow10" .u64 Lib.pow10Tab):1<w.heap.size:=by
 have hc:=htab.cell B53 0 (by decide);unfold World.cell? at hc
 cases ho:w.heap[1]? with
 |none=>simp[ho]at hc
 |some o=>exact(Array.getElem?_eq_some_iff.1 ho).1
theorem wY{w':FW}(htab:Lib.TabIs prog w "internal/strconv.uint64pow10" .u64 Lib.pow10Tab)(hb:B0 w w'):Lib.TabIs prog w' "internal/strconv.uint64pow10" .u64 Lib.pow10Tab:=
 var?_below hb B53 (B54 htab) htab
theorem kS(z:Int)(w:FW)(htab:Lib.TabIs prog w "internal/strconv.uint64pow10" .u64 Lib.pow10Tab):
  FZ prog 136 #[I0 z] w (R0 w (.tuple #[S0 (QM z),I0 (fH z)])):=by
 cases hg:KN z
 .have H:=G8 (A92 hg);have Hg:=G8 hg;clear hg htab;go_enter func136,ntmps136;go_wp2_with fail;refine(JJ z _).mono ?_;rintro e w1 ⟨rfl,rfl⟩;rw[G7 Hg];go_wp2_with fail
  go_ret2
  exact⟨wW (by rw[(G7 H).1]) (G7 H).2.symm,Below.refl _ _⟩
 have hz:=LY.1 hg;have H:=G8 (jR hg);have Hg:=G8 hg;have q0:(z/2147483648)=((z/2147483648).toNat:Int):=by omega
 have r0:(z%2147483648)=((z%2147483648).toNat:Int):=by omega
 obtain⟨q,hq⟩:∃q,(z/2147483648).toNat=q:=⟨_,rfl⟩;obtain⟨r,hr⟩:∃r,(z%2147483648).toNat=r:=⟨_,rfl⟩;have q1:q<2147483648:=by omega
 have r1:r<2147483648:=by omega
 rw[hq]at q0;rw[hr]at r0;rw[hq,hr]at H;have Ez:Hid (J4 z=(q:Int)):=G8 (by rw[LZ hg];exact q0);have Cz:Hid (nG z=(r:Int)):=G8 (by rw[YB hg];exact r0);have Htab:=G8 htab;have Hiq:=G8 (Lib.itoa_nonneg q);have Hir:=G8 (Lib.itoa_nonneg r);have lq:=jP 9 q (by omega);have lr:=jP 9 r (by omega);clear hg hz q0 r0 hq hr htab;go_enter func136,ntmps136;go_wp2_with fail;refine(JJ z _).mono ?_;rintro e w1 ⟨rfl,rfl⟩;rw[G7 Hg];go_wp2_with fail;refine(PZ z _).mono ?_;rintro e w2 ⟨rfl,rfl⟩;rw[G7 Ez];go_wp2_with fail;refine(strconv_Itoa _ (by omega) (by omega) _ (G7 Htab)).mono ?_;rintro e w3 ⟨rfl,k,os,hw3⟩;have hb3:B0 w2 w3:=by rw[hw3];exact kR w2 k os
 clear hw3;rw[G7 Hiq];obtain⟨D,hD⟩:∃D,EM q=D:=⟨_,rfl⟩;rw[hD]at lq H⊢;clear hD;go_wp2_with fail;refine(dY z _).mono ?_;rintro e w4 ⟨rfl,rfl⟩;rw[G7 Cz];go_wp2_with fail;refine(strconv_Itoa _ (by omega) (by omega) _ (wY (G7 Htab) hb3)).mono ?_;rintro e w5 ⟨rfl,k,os,hw5⟩;have hb5:B0 w2 w5:=A32 hb3 (by rw[hw5];exact kR w4 k os);clear hw5;rw[G7 Hir];obtain⟨R,hR⟩:∃R,EM r=R:=⟨_,rfl⟩;rw[hR]at lr H⊢;clear hR Hiq Hir Ez Cz Hg hb3;have zD:(AU D.toArray).size=D.length:=DN ⟨D.toArray⟩;have zR:(AU R.toArray).size=R.length:=DN ⟨R.toArray⟩;go_wp2_with fail
 go_ret2
 exact⟨wW (by rw[(G7 H).1];exact BO1 D R) (G7 H).2.symm,hb5⟩
theorem xO(z:Int)(w:FW):
  FZ prog 115 #[I0 z] w fun e w'=>e=.returned (.tuple #[I0 (iW z),I0 (WL z)])/\w'=w:=by
 cases hg:KN z
 .have H:=G8 (AS2 hg);have Hg:=G8 hg;clear hg;go_enter func115,ntmps115;go_wp2_with fail;refine(JJ z _).mono ?_;rintro e w1 ⟨rfl,rfl⟩;rw[G7 Hg];go_wp2_with fail
  go_ret2
  exact⟨OY (G7 H).1.symm (G7 H).2.symm,rfl⟩
 have hz:=LY.1 hg;have h0:=hz.1;have h1:=hz.2;clear hz
 cases hi:zIn (z%2147483648+1)
 .have H:=G8 (AG3 hg hi);have Hg:=G8 hg;have hf:(z%2147483648==2147483647)=true:=by
   rw[beq_iff_eq];have:=Int.emod_nonneg z (show (2147483648:Int)≠0 by decide);have:=Int.emod_lt_of_pos z (show (0:Int)<2147483648 by decide);by_cases h:z%2147483648=2147483647
   .exact h
   .rw[PS.2 (by omega)]at hi;exact absurd hi (by decide)
  clear hg hi;go_enter func115,ntmps115;go_wp2_with fail;refine(JJ z _).mono ?_;rintro e w1 ⟨rfl,rfl⟩;rw[G7 Hg];go_wp2_with fail;refine(dY z _).mono ?_;rintro e w2 ⟨rfl,rfl⟩;rw[YB (G7 Hg)];go_wp2_with fail
  go_ret2
  exact⟨OY (G7 H).1.symm (G7 H).2.symm,rfl⟩
 .have H:=G8 (pX hg hi);have Hg:=G8 hg;have hf:(z%2147483648==2147483647)=false:=by
   rw[beq_eq_false_iff_ne];have:=(PS.1 hi).2;omega
  clear hg hi;go_enter func115,ntmps115;go_wp2_with fail;refine(JJ z _).mono ?_;rintro e w1 ⟨rfl,rfl⟩;rw[G7 Hg];go_wp2_with fail;refine(dY z _).mono ?_;rintro e w2 ⟨rfl,rfl⟩;rw[YB (G7 Hg)];go_wp2_with fail
  go_ret2
  exact⟨OY (G7 H).1.symm (G7 H).2.symm,rfl⟩
