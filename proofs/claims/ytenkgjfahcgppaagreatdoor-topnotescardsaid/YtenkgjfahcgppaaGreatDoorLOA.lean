/-
  Part.
-/
import Derived.WalkKit
import Derived.Lib.IndexLaws
import Derived.Laws.Cover1
import Derived.Test.YtenkgjfahcgppaaGreatDoorProg
import Derived.Deep.LoopGhost
import Derived.Lib.QuietBelow
set_option maxRecDepth 20000
set_option maxHeartbeats 8000000
namespace Go.Proofs.YtenkgjfahcgppaaGreatDoor
open Go.RowKit
abbrev I0 (x:Int):Value:=.int .i64 x
abbrev S0 (l:List UInt8):Value:=.string ⟨l.toArray⟩
abbrev N0:Value:=.slice none 0 0
abbrev P0 (k:Nat):Value:=.pointer (some ⟨k,0,none⟩)
abbrev R0 (w:World)(x:Value):Ending->World->Prop:=fun e w'=>e=.returned x/\Below w.heap.size w w'
abbrev B0 (w W:World):Prop:=Below w.heap.size w W
theorem AA{p:Prop}(h:p):Hid p:=h
theorem A8{p:Prop}(h:Hid p):p:=h
def PK(c:UInt8):Bool:=(decide (97<=c.toNat)&&decide (c.toNat<=122))||(decide (48<=c.toNat)&&decide (c.toNat<=57))||c.toNat==45||c.toNat==95
def EC(l:List UInt8):Bool:=decide (1<=l.length)&&decide (l.length<=40)&&l.all PK
theorem bY(s:ByteArray)(k:Nat)(h:k<s.size):s.data.toList.take (k+1)=s.data.toList.take k++[s[k]]:=by
 rw[List.take_succ_eq_append_getElem (by simpa using h)];rfl
theorem QU(s:ByteArray)(k:Nat)(h:k<s.size)(p:UInt8->Bool)(h1:(s.data.toList.take k).all p=true)(h2:p s[k]=true):(s.data.toList.take (k+1)).all p=true:=by
 rw[bY s k h,List.all_append,h1];simpa using h2
theorem VU(s:ByteArray)(k:Nat)(h:s.size<=k)(p:UInt8->Bool)(h1:(s.data.toList.take k).all p=true):s.data.toList.all p=true:=by
 rwa[List.take_of_length_le (by simpa using h)]at h1
theorem YP(s:ByteArray)(k:Nat)(h:k<s.size)(p:UInt8->Bool)(h2:p s[k]=false):s.data.toList.all p=false:=by
 rw[List.all_eq_false];exact⟨s[k],by have:s[k]∈s.data:=Array.getElem_mem h;simpa using this,by simp[h2]⟩
theorem WW(s:ByteArray):s.data.toList.length=s.size:=by simp
theorem oW(s:ByteArray)(h:s.size<1):EC s.data.toList=false:=by
 simp only[EC,WW,show ¬1<=s.size from by omega,decide_false,Bool.false_and]
theorem vF(s:ByteArray)(h:40<s.size):EC s.data.toList=false:=by
 simp only[EC,WW,show ¬s.size<=40 from by omega,decide_false,Bool.and_false,Bool.false_and]
theorem iY(s:ByteArray)(h:1<=s.size)(h':s.size<=40):EC s.data.toList=s.data.toList.all PK:=by
 simp only[EC,WW,h,h',decide_true,Bool.true_and]
def FU(z:Int):Bool:=decide (0<=z)&&decide (z<4611686018427387904)
def zIn(n:Int):Bool:=decide (0<=n)&&decide (n<2147483648)
def DL(z:Int):Int:=if FU z then z/2147483648 else 0
def iZ(z:Int):Int:=if FU z then z%2147483648 else 0
def G6(e c:Int):Int:=if zIn e&&zIn c then e*2147483648+c else 0
def JG(e c:Int):Int:=if zIn e&&zIn c then 0 else 3
def bZ(z:Int):Int:=if FU z&&zIn (z%2147483648+1)then z+1 else 0
def SK(z:Int):Int:=if FU z then(if zIn (z%2147483648+1)then 0 else 6)else 3
theorem I8{z:Int}:FU z=true↔0<=z/\z<4611686018427387904:=by simp[FU]
theorem LQ{z:Int}:zIn z=true↔0<=z/\z<2147483648:=by simp[zIn]
theorem zY{z:Int}(h:¬ (0<=z/\z<2147483648)):zIn z=false:=by
 cases hg:zIn z with
 |false=>rfl
 |true=>exact absurd (LQ.1 hg) h
theorem I9{z:Int}(h:FU z=true):DL z=z/2147483648:=by rw[DL,if_pos h]
theorem oZ{z:Int}(h:FU z=false):DL z=0:=by rw[DL,h];rfl
theorem UH{z:Int}(h:FU z=true):iZ z=z%2147483648:=by rw[iZ,if_pos h]
theorem AK8{z:Int}(h:FU z=false):iZ z=0:=by rw[iZ,h];rfl
theorem PW{e c:Int}(he:zIn e=true)(hc:zIn c=true):G6 e c=e*2147483648+c/\JG e c=0:=by
 constructor<;>simp[G6,JG,he,hc]
theorem aT{e c:Int}(h:zIn e=false\/zIn c=false):G6 e c=0/\JG e c=3:=by
 rcases h with h|h<;>constructor<;>simp[G6,JG,h]
theorem AK9{z:Int}(h:FU z=false):bZ z=0/\SK z=3:=by constructor<;>simp[bZ,SK,h]
theorem A91{z:Int}(h:FU z=true)(h1:zIn (z%2147483648+1)=false):bZ z=0/\SK z=6:=by constructor<;>simp[bZ,SK,h,h1]
theorem l7{z:Int}(h:FU z=true)(h1:zIn (z%2147483648+1)=true):bZ z=z+1/\SK z=0:=by constructor<;>simp[bZ,SK,h,h1]
theorem pF(n:Int)(h₀:0<=n)(h₁:n<2^63):IntKind.i64.wrap n=n:=by rw[IntKind.wrap_i64];omega
theorem BS7{e c:Int}(he:0<=e)(he1:e<2147483648)(hc:0<=c)(hc1:c<2147483648):bits .or .i64 (e*2147483648) c=e*2147483648+c:=
 bits_join .i64 63 (by decide) pF 31 (e*2147483648) c (by omega) (by omega) (by omega) hc (by omega) (by omega)
theorem B70{z:Int}(h:0<=z)(h1:z<4611686018427387904):bits .and .i64 z 2147483647=z%2147483648:=
 bits_mask .i64 63 (by decide) pF 31 (by decide) z h (by omega)
theorem l9{a b:Int}(h:a=b):Ending.returned (I0 a)=.returned (I0 b):=by rw[h]
theorem KW{a b i j:Int}(h:a=b)(h':i=j):Ending.returned (.tuple #[I0 a,I0 i])=.returned (.tuple #[I0 b,I0 j]):=by rw[h,h']
def J5:List UInt8->List (List UInt8)
 |[]=>[[]]
 |c::l=>if c=47 then []::J5 l else match J5 l with
  |[]=>[[c]]
  |p::ps=>(c::p)::ps
theorem AL0(l:List UInt8):J5 l≠[]:=by
 cases l with
 |nil=>simp[J5]
 |cons c l=>
  simp only[J5]
  split
  .simp
  .split<;>simp
theorem ZT(l:List UInt8):J5 (47::l)=[]::J5 l:=by simp[J5]
theorem SN{c:UInt8}(h:c≠47){l p:List UInt8}{ps:List (List UInt8)}(hl:J5 l=p::ps):J5 (c::l)=(c::p)::ps:=by
 simp[J5,h,hl]
theorem cO:∀l:List UInt8,Lib.indexByte l 47=-1->J5 l=[l]
 |[],_=>rfl
 |c::l,h=>by
  have h1:(c==47)=false:=by
   cases hc:(c==47)with
   |false=>rfl
   |true=>rw[Lib.indexByte,if_pos hc]at h;exact absurd h (by decide)
  have h2:Lib.indexByte l 47=-1:=by
   by_cases h3:(Lib.indexByte l 47==-1)=true
   .simpa using h3
   .rw[Lib.indexByte,if_neg (by simp[h1]),if_neg h3]at h;have:=Lib.indexByte_ge l 47;omega
  exact SN (by simpa using h1) (cO l h2)
theorem cZ:∀ (l:List UInt8) (i:Nat),Lib.indexByte l 47=i->i<l.length/\J5 l=l.take i::J5 (l.drop (i+1))
 |[],i,h=>by simp[Lib.indexByte]at h
 |c::l,i,h=>by
  by_cases hc:(c==47)=true
  .rw[Lib.indexByte,if_pos hc]at h;have hi:i=0:=by omega
   subst hi;have:c=47:=by simpa using hc
   subst this;exact⟨by simp,by simp[ZT]⟩
  .have hc':c≠47:=by simpa using hc
   by_cases h3:(Lib.indexByte l 47==-1)=true
   .rw[Lib.indexByte,if_neg hc,if_pos h3]at h;omega
   .rw[Lib.indexByte,if_neg hc,if_neg h3]at h;have hge:=Lib.indexByte_ge l 47;have hne:Lib.indexByte l 47≠ -1:=by simpa using h3
    obtain⟨j,rfl⟩:∃j,i=j+1:=⟨i-1,by omega⟩;obtain⟨h4,h5⟩:=cZ l j (by omega);exact⟨by simp;omega,by rw[SN hc' h5];simp⟩
theorem dA(l:List UInt8):Lib.indexByte l 47=-1\/∃i:Nat,Lib.indexByte l 47=i:=by
 have:=Lib.indexByte_ge l 47;by_cases h:Lib.indexByte l 47=-1
 .exact .inl h
 .exact .inr ⟨(Lib.indexByte l 47).toNat,by omega⟩
theorem lC(l:List UInt8):∀p∈J5 l,p.length<=l.length:=by
 induction l with
 |nil=>intro p hp;simp[J5]at hp;simp[hp]
 |cons c l ih=>
  intro p hp;by_cases hc:c=47
  .subst hc;rw[ZT]at hp;rcases List.mem_cons.1 hp with rfl|h
   .simp
   .have:=ih p h;simp;omega
  .cases hl:J5 l with
   |nil=>exact absurd hl (AL0 l)
   |cons q qs=>
    rw[SN hc hl]at hp;rcases List.mem_cons.1 hp with rfl|h
    .have:=ih q (by rw[hl];simp);simp;omega
    .have:=ih p (by rw[hl];simp[h]);simp;omega
def VE(l:List UInt8):List (List UInt8):=if l=[47]then []else J5 (Lib.trimPrefix l [47])
def DN(l:List UInt8):Bool:=decide (l.length<=200)&&Lib.hasPrefix l [47]&&(VE l).all EC
def C85(c:Nat):Nat:=(c/2)^^^(3988292384*(c%2))
def BO7:Nat->Nat->Nat
 |0,c=>c
 |n+1,c=>C85 (BO7 n c)
def CK9(c:Nat)(b:UInt8):Nat:=BO7 8 (c^^^b.toNat)
def B71(l:List UInt8):Nat:=l.foldl CK9 4294967295
def zZ(l:List UInt8):Nat:=4294967295^^^B71 l
theorem AL1:(2:Nat)^32=4294967296:=by decide
theorem WY{a b:Nat}(ha:a<4294967296)(hb:b<4294967296):a^^^b<4294967296:=by
 have h:=Nat.xor_lt_two_pow (n:=32) (x:=a) (y:=b) (by rw[AL1];exact ha) (by rw[AL1];exact hb);rwa[AL1]at h
theorem BS8{c:Nat}(h:c<4294967296):C85 c<4294967296:=by
 unfold C85;refine WY (by omega) ?_;rcases Nat.mod_two_eq_zero_or_one c with e|e<;>rw[e]<;>decide
theorem vG{c:Nat}(h:c<4294967296):∀n,BO7 n c<4294967296
 |0=>h
 |n+1=>BS8 (vG h n)
theorem AL2(b:UInt8):b.toNat<4294967296:=by have:=b.toNat_lt;omega
theorem BS9{c:Nat}(h:c<4294967296)(b:UInt8):CK9 c b<4294967296:=vG (WY h (AL2 b)) 8
theorem B72(l:List UInt8):∀c,c<4294967296->l.foldl CK9 c<4294967296:=by
 induction l with
 |nil=>intro c h;exact h
 |cons b l ih=>intro c h;exact ih _ (BS9 h b)
theorem AL3(l:List UInt8):B71 l<4294967296:=B72 l _ (by decide)
theorem AL4(l:List UInt8):zZ l<4294967296:=WY (by decide) (AL3 l)
theorem AL5(l:List UInt8)(b:UInt8):B71 (l++[b])=CK9 (B71 l) b:=by simp[B71]
theorem pG(n:Int)(h₀:0<=n)(h₁:n<2^32):IntKind.u32.wrap n=n:=by rw[IntKind.wrap_u32];omega
theorem pI(k:IntKind)(j:Nat)(hj:j<=k.bits)(hk:∀n:Int,0<=n->n<2^j->k.wrap n=n)(a b:Nat)(ha:a<2^j)(hb:b<2^j):bits .xor k a b=((a^^^b:Nat):Int):=by
 have hp:2^j<=2^k.bits:=Nat.pow_le_pow_right (by decide) hj;have ha':a%2^k.bits=a:=Nat.mod_eq_of_lt (Nat.lt_of_lt_of_le ha hp);have hb':b%2^k.bits=b:=Nat.mod_eq_of_lt (Nat.lt_of_lt_of_le hb hp);simp only[bits,BitVec.ofInt_natCast,BitVec.toNat_xor,BitVec.toNat_ofNat,ha',hb'];exact hk _ (Int.natCast_nonneg _) (by exact_mod_cast Nat.xor_lt_two_pow ha hb)
theorem vH{a b:Nat}(ha:a<4294967296)(hb:b<4294967296):bits .xor .u32 a b=((a^^^b:Nat):Int):=
 pI .u32 32 (by decide) pG a b (by rw[AL1];exact ha) (by rw[AL1];exact hb)
theorem B73{a:Nat}(ha:a<4294967296):bits .and .u32 a 1=((a%2:Nat):Int):=by
 have h:=bits_mask .u32 32 (by decide) pG 1 (by decide) (a:Int) (by omega) (by omega)
 exact_mod_cast h
def be:Nat->Nat->List UInt8
 |0,_=>[]
 |k+1,n=>be k (n/256)++[UInt8.ofNat n]
def un(l:List UInt8):Nat:=l.foldl (fun a b=>a*256+b.toNat) 0
theorem BR:∀k n,(be k n).length=k
 |0,_=>rfl
 |k+1,n=>by rw[be,List.length_append,BR k];rfl
theorem vI(l:List UInt8)(b:UInt8):un (l++[b])=un l*256+b.toNat:=by simp[un]
theorem dB:∀k n,n<256^k->un (be k n)=n
 |0,n,h=>by
  have:n=0:=by simpa using h
  subst this;rfl
 |k+1,n,h=>by
  rw[be,vI,dB k (n/256) (by rw[Nat.pow_succ]at h;omega)];have:(UInt8.ofNat n).toNat=n%256:=by simp
  omega
theorem B74(l:List UInt8):un l<256^l.length:=by
 induction h:l.length generalizing l with
 |zero=>obtain rfl:=List.eq_nil_of_length_eq_zero h;decide
 |succ k ih=>
  rcases List.eq_nil_or_concat l with rfl|⟨a,b,rfl⟩
  .simp at h
  .rw[List.concat_eq_append]at h⊢;have hk:a.length=k:=by simpa using h
   have h1:=ih a hk;have h2:=b.toNat_lt;rw[vI,Nat.pow_succ];omega
structure AQ where
 z:Int
 o:Int
 s:Int
 p:List UInt8
 d:List UInt8
 v:Int
 w:Int
def t0:AQ:=⟨0,0,0,[],[],0,0⟩
def vJ(n least:Int):Bool:=decide (least<=n)&&decide (n<=2147483647)
theorem QV{n k:Int}:vJ n k=true↔k<=n/\n<=2147483647:=by simp[vJ]
def opB(o:Int):Bool:=decide (1<=o)&&decide (o<=5)
theorem dD{o:Int}:opB o=true↔1<=o/\o<=5:=by simp[opB]
def B66(t:AQ):Bool:=FU t.z&&vJ t.s 1&&vJ t.v 0&&vJ t.w 0
theorem lG{t:AQ}:B66 t=true↔FU t.z=true/\vJ t.s 1=true/\vJ t.v 0=true/\vJ t.w 0=true:=by simp[B66,and_assoc]
def fmB(t:AQ):Bool:=
 if t.o=3 then DN t.p&& !(t.p==[47])&&t.v==0
 else if t.o=4 then DN t.p&& !(t.p==[47])&&t.d==[]&&t.v==0&&t.w==0
 else if t.o=5 then DN t.p&&t.w==0
 else t.p==[]&&t.d==[]&&t.v==0&&t.w==0
def gdE(t:AQ):Int:=
 if opB t.o then(if B66 t then(if t.d.length<=256 then(if fmB t then 0 else 2)else 1)else 3)else 4
theorem B75{t:AQ}(h:opB t.o=false):gdE t=4:=by simp[gdE,h]
theorem WZ{t:AQ}(h:opB t.o=true)(h1:B66 t=false):gdE t=3:=by simp[gdE,h,h1]
theorem B76{t:AQ}(h:opB t.o=true)(h1:B66 t=true)(h2:256<t.d.length):gdE t=1:=by
 simp[gdE,h,h1,show ¬t.d.length<=256 from by omega]
theorem B77{t:AQ}(h:opB t.o=true)(h1:B66 t=true)(h2:t.d.length<=256)(h3:fmB t=false):gdE t=2:=by simp[gdE,h,h1,h2,h3]
theorem C86{t:AQ}(h:opB t.o=true)(h1:B66 t=true)(h2:t.d.length<=256)(h3:fmB t=true):gdE t=0:=by simp[gdE,h,h1,h2,h3]
theorem aU{t:AQ}(h:gdE t=0):opB t.o=true/\B66 t=true/\t.d.length<=256/\fmB t=true:=by
 unfold gdE at h
 split at h
 .split at h
  .split at h
   .split at h
    .exact⟨‹_›,‹_›,‹_›,‹_›⟩
    .exact absurd h (by decide)
   .exact absurd h (by decide)
  .exact absurd h (by decide)
 .exact absurd h (by decide)
theorem vK{p:List UInt8}(h:DN p=true):p.length<=200:=by
 unfold DN at h;simp only[Bool.and_eq_true,decide_eq_true_eq]at h;exact h.1.1
theorem BO8{t:AQ}(h:fmB t=true):t.p.length<=200:=by
 unfold fmB at h
 split at h
 .simp only[Bool.and_eq_true]at h;exact vK h.1.1
 .split at h
  .simp only[Bool.and_eq_true]at h;exact vK h.1.1.1.1
  .split at h
   .simp only[Bool.and_eq_true]at h;exact vK h.1
   .simp only[Bool.and_eq_true,beq_iff_eq]at h;rw[h.1.1.1];decide
theorem SQ{t:AQ}(h:gdE t=0):(0<=t.z/\t.z<4611686018427387904)/\(1<=t.o/\t.o<=5)/\(1<=t.s/\t.s<=2147483647)/\(0<=t.v/\t.v<=2147483647)/\(0<=t.w/\t.w<=2147483647)/\t.p.length<=200/\t.d.length<=256:=by
 obtain⟨h1,h2,h3,h4⟩:=aU h;obtain⟨a,b,c,d⟩:=lG.1 h2;exact⟨I8.1 a,dD.1 h1,QV.1 b,QV.1 c,QV.1 d,BO8 h4,h3⟩
def NG(t:AQ):List UInt8:=
 be 8 t.z.toNat++(be 1 t.o.toNat++(be 4 t.s.toNat++(be 4 t.v.toNat++(be 4 t.w.toNat++(be 1 t.p.length++(t.p++(be 2 t.d.length++t.d)))))))
def IV(b:List UInt8):List UInt8:=84::(be 2 b.length++b)
def NH(t:AQ):List UInt8:=IV (NG t)++be 4 (zZ (IV (NG t)))
theorem MP(t:AQ):(NG t).length=24+t.p.length+t.d.length:=by
 simp only[NG,List.length_append,BR];omega
theorem QW(b:List UInt8):(IV b).length=b.length+3:=by
 simp only[IV,List.length_cons,List.length_append,BR];omega
theorem QX(t:AQ):(NH t).length=31+t.p.length+t.d.length:=by
 simp only[NH,List.length_append,BR,QW,MP];omega
def UJ(b:List UInt8):Nat:=un ((b.drop 21).take 1)
def uU(b:List UInt8):Nat:=un ((b.drop (22+UJ b)).take 2)
def tOf(b:List UInt8):AQ:=
 ⟨wrap64 (un (b.take 8)),un ((b.drop 8).take 1),un ((b.drop 9).take 4),(b.drop 22).take (UJ b),b.drop (24+UJ b),un ((b.drop 13).take 4),un ((b.drop 17).take 4)⟩
def B67(b:List UInt8):Bool:=decide (24+UJ b<=b.length)&&decide (b.length=24+UJ b+uU b)
def oO(b:List UInt8):Int:=if B67 b then gdE (tOf b)else 2
def AL6(b:List UInt8):AQ:=if oO b=0 then tOf b else t0
def lenOf(s:List UInt8):Nat:=un ((s.drop 1).take 2)
def SV(s:List UInt8):Bool:=s.take 1==[84]&&decide (lenOf s<=1024)&&decide (lenOf s+7<=s.length)
def AL7(s:List UInt8):Bool:=un ((s.drop (lenOf s+3)).take 4)==zZ (s.take (lenOf s+3))
def QY(s:List UInt8):List UInt8:=(s.drop 3).take (lenOf s)
def YQ(s:List UInt8):Int:=if SV s then(if AL7 s then oO (QY s)else 5)else 2
def jA(s:List UInt8):AQ:=if YQ s=0 then tOf (QY s)else t0
def oP(s:List UInt8):Int:=if YQ s=0 then(lenOf s+7:Nat)else 0
theorem YR{s:List UInt8}(h:SV s=false):YQ s=2/\jA s=t0/\oP s=0:=by
 have e:YQ s=2:=by simp[YQ,h]
 exact⟨e,by simp[jA,e],by simp[oP,e]⟩
theorem BT0{s:List UInt8}(h:SV s=true)(h1:AL7 s=false):YQ s=5/\jA s=t0/\oP s=0:=by
 have e:YQ s=5:=by simp[YQ,h,h1]
 exact⟨e,by simp[jA,e],by simp[oP,e]⟩
theorem B78{s:List UInt8}(h:SV s=true)(h1:AL7 s=true){e:Int}(h2:oO (QY s)=e)(h3:e≠0):YQ s=e/\jA s=t0/\oP s=0:=by
 have e:YQ s=e:=by simp[YQ,h,h1,h2]
 exact⟨e,by rw[jA,e,if_neg h3],by rw[oP,e,if_neg h3]⟩
theorem BO9{s:List UInt8}(h:SV s=true)(h1:AL7 s=true)(h2:oO (QY s)=0):YQ s=0/\jA s=tOf (QY s)/\oP s=(lenOf s+7:Nat):=by
 have e:YQ s=0:=by simp[YQ,h,h1,h2]
 exact⟨e,by rw[jA,e,if_pos rfl],by rw[oP,e,if_pos rfl]⟩
theorem BT1{b:List UInt8}(h:B67 b=false):oO b=2/\AL6 b=t0:=by
 have e:oO b=2:=by simp[oO,h]
 exact⟨e,by simp[AL6,e]⟩
theorem C87{b:List UInt8}(h:B67 b=true)(h1:gdE (tOf b)≠0):oO b=gdE (tOf b)/\AL6 b=t0:=by
 have e:oO b=gdE (tOf b):=by simp[oO,h]
 exact⟨e,by rw[AL6,e,if_neg h1]⟩
theorem C88{b:List UInt8}(h:B67 b=true)(h1:gdE (tOf b)=0):oO b=0/\AL6 b=tOf b:=by
 have e:oO b=0:=by simp[oO,h,h1]
 exact⟨e,by rw[AL6,e,if_pos rfl]⟩
theorem YS{s:List UInt8}:SV s=true↔s.take 1=[84]/\lenOf s<=1024/\lenOf s+7<=s.length:=by
 simp[SV,and_assoc]
theorem XA{s:List UInt8}(h:¬ (s.take 1=[84]/\lenOf s<=1024/\lenOf s+7<=s.length)):SV s=false:=by
 cases hw:SV s with
 |false=>rfl
 |true=>exact absurd (YS.1 hw) h
theorem XB{b:List UInt8}:B67 b=true↔24+UJ b<=b.length/\b.length=24+UJ b+uU b:=by simp[B67]
theorem A00{s:List UInt8}:AL7 s=true↔un ((s.drop (lenOf s+3)).take 4)=zZ (s.take (lenOf s+3)):=by simp[AL7]
theorem pJ{a b:List UInt8}{k:Nat}(h:a.length=k):(a++b).take k=a/\(a++b).drop k=b:=by
 subst h;simp
theorem KY{l a b:List UInt8}{j k:Nat}(h:l.drop j=a++b)(hk:a.length=k):l.drop (j+k)=b:=by
 rw[<-List.drop_drop,h];exact(pJ hk).2
theorem J6{l a b:List UInt8}{j k:Nat}(h:l.drop j=a++b)(hk:a.length=k):(l.drop j).take k=a:=by
 rw[h];exact(pJ hk).1
theorem C89{n:Int}(h:0<=n)(h1:n<9223372036854775808):wrap64 n=n:=by unfold wrap64;omega
theorem BP0{t:AQ}(h:gdE t=0):B67 (NG t)=true/\tOf (NG t)=t:=by
 obtain⟨hz,ho,hs,hv,hw,hp,hd⟩:=SQ h;have e0:(NG t).drop 0=be 8 t.z.toNat++_:=rfl;have e1:=KY e0 (BR 8 _);have e2:=KY e1 (BR 1 _);have e3:=KY e2 (BR 4 _);have e4:=KY e3 (BR 4 _);have e5:=KY e4 (BR 4 _);have e6:=KY e5 (BR 1 _);have e7:=KY e6 (rfl:t.p.length=t.p.length);have e8:=KY e7 (BR 2 _);have g0:=J6 e0 (BR 8 _);have g1:=J6 e1 (BR 1 _);have g2:=J6 e2 (BR 4 _);have g3:=J6 e3 (BR 4 _);have g4:=J6 e4 (BR 4 _);have g5:=J6 e5 (BR 1 _);have g6:=J6 e6 (rfl:t.p.length=t.p.length);have g7:=J6 e7 (BR 2 _);simp only[Nat.zero_add,Nat.reduceAdd,List.drop_zero]at e1 e2 e3 e4 e5 e6 e7 e8 g0 g1 g2 g3 g4 g5 g6 g7;have hpl:UJ (NG t)=t.p.length:=by rw[UJ,g5];exact dB 1 _ (by omega)
 have hdl:uU (NG t)=t.d.length:=by rw[uU,hpl,g7];exact dB 2 _ (by omega)
 refine⟨XB.2 ?_,?_⟩
 .rw[hpl,hdl,MP];omega
 .rw[tOf,hpl,g0,g1,g2,g3,g4,g6,show 24+t.p.length=22+t.p.length+2 from by omega,e8];rw[dB 8 _ (by omega),dB 1 _ (by omega),dB 4 _ (by omega),dB 4 _ (by omega),dB 4 _ (by omega),C89 (by omega) (by omega)];simp only[Int.toNat_of_nonneg hz.1,Int.toNat_of_nonneg hv.1,Int.toNat_of_nonneg hw.1,Int.toNat_of_nonneg (show 0<=t.o by omega),Int.toNat_of_nonneg (show 0<=t.s by omega)]
theorem B79{t:AQ}(h:gdE t=0):oO (NG t)=0:=by
 obtain⟨h1,h2⟩:=BP0 h;rw[oO,h1,h2,h];rfl
theorem AL8{b m more:List UInt8}(hb:b.length<=1024)(hm:m.length=4):
  SV (IV b++(m++more))=true/\lenOf (IV b++(m++more))=b.length/\QY (IV b++(m++more))=b/\
  AL7 (IV b++(m++more))=(un m==zZ (IV b)):=by
 have e0:(IV b++(m++more)).drop 1=be 2 b.length++(b++(m++more)):=by simp[IV]
 have g0:=J6 e0 (BR 2 _);have e1:=KY e0 (BR 2 _);have g1:=J6 e1 (rfl:b.length=b.length);have hl:lenOf (IV b++(m++more))=b.length:=by rw[lenOf,g0];exact dB 2 _ (by omega)
 have hf:(IV b).length=b.length+3:=QW b;refine⟨YS.2 ⟨by simp[IV],by omega,?_⟩,hl,?_,?_⟩
 .rw[hl,List.length_append,List.length_append,hf];omega
 .rw[QY,hl];exact g1
 .rw[AL7,hl,(pJ hf).1,(pJ hf).2,(pJ hm).1]
theorem AL9(t:AQ)(more:List UInt8):NH t++more=IV (NG t)++(be 4 (zZ (IV (NG t)))++more):=by rw[NH,List.append_assoc]
theorem YT{t:AQ}(h:gdE t=0):(NG t).length<=1024:=by
 obtain⟨_,_,_,_,_,hp,hd⟩:=SQ h;rw[MP];omega
theorem BT2{t:AQ}(h:gdE t=0)(more:List UInt8):YQ (NH t++more)=0/\jA (NH t++more)=t/\oP (NH t++more)=(NH t).length:=by
 rw[AL9];obtain⟨h1,h2,h3,h4⟩:=AL8 (b:=NG t) (m:=be 4 (zZ (IV (NG t)))) (more:=more) (YT h) (BR 4 _);have hs:un (be 4 (zZ (IV (NG t))))=zZ (IV (NG t)):=dB 4 _ (by have:=AL4 (IV (NG t));omega);rw[hs,beq_self_eq_true]at h4;obtain⟨a,b,c⟩:=BO9 h1 h4 (by rw[h3];exact B79 h);refine⟨a,?_,?_⟩
 .rw[b,h3];exact(BP0 h).2
 .rw[c,h2,MP,QX];omega
theorem BT3{t:AQ}(h:gdE t=0){k:Nat}(hk:k<(NH t).length):YQ ((NH t).take k)=2/\oP ((NH t).take k)=0:=by
 have hw:SV ((NH t).take k)=false:=XA (by
  rintro⟨h1,h2,h3⟩;rw[List.length_take]at h3;have e0:(NH t).drop 1=be 2 (NG t).length++(NG t++be 4 (zZ (IV (NG t)))):=by simp[NH,IV]
  have g0:=J6 e0 (BR 2 _);have hl:lenOf ((NH t).take k)=(NG t).length:=by
   rw[lenOf,List.drop_take,List.take_take,show min 2 (k-1)=2 from by omega,g0];exact dB 2 _ (by have:=YT h;omega)
  rw[hl,MP]at h3;rw[QX]at hk;omega)
 exact⟨(YR hw).1,(YR hw).2.2⟩
def BM:List AQ->List UInt8
 |[]=>[]
 |t::l=>NH t++BM l
theorem GL:∀a b,BM (a++b)=BM a++BM b
 |[],_=>rfl
 |t::a,b=>by rw[List.cons_append,BM,BM,GL a b,List.append_assoc]
theorem LU(a:List AQ)(t:AQ):BM (a++[t])=BM a++NH t:=by rw[GL,BM,BM,List.append_nil]
def DU(l:List AQ):Int:=l.foldl (fun _ t=>t.z) 0
theorem PX(l:List AQ)(t:AQ):DU (l++[t])=t.z:=by simp[DU]
theorem SX:DU []=0:=rfl
def dF(l:List AQ)(t:AQ):Bool:=decide (l.length=0)||decide (DU l<t.z)
theorem jB{l:List AQ}{t:AQ}(h:l.length≠0):dF l t=decide (DU l<t.z):=by simp[dF,h]
theorem AM0{l:List AQ}(h:l.length≠0):∃m x,l=m++[x]:=by
 rcases List.eq_nil_or_concat l with rfl|⟨m,x,rfl⟩
 .exact absurd rfl h
 .exact⟨m,x,List.concat_eq_append⟩
structure Logs(ts:List AQ):Prop where
 good:∀t∈ts,gdE t=0
 rise:ts.Pairwise fun a b=>a.z<b.z
theorem Logs.nil:Logs []:=⟨by simp,List.Pairwise.nil⟩
theorem Logs.le_last{ts:List AQ}(h:Logs ts){a:AQ}(ha:a∈ts):a.z<=DU ts:=by
 rcases List.eq_nil_or_concat ts with rfl|⟨m,x,e⟩
 .simp at ha
 .rw[List.concat_eq_append]at e;subst e;rw[PX];rcases List.mem_append.1 ha with h1|h1
  .have:=(List.pairwise_append.1 h.rise).2.2 a h1 x (by simp);omega
  .simp at h1;subst h1;omega
theorem Logs.left{a b:List AQ}(h:Logs (a++b)):Logs a:=⟨fun t ht=>h.good t (by simp[ht]),(List.pairwise_append.1 h.rise).1⟩
theorem Logs.at{a b:List AQ}{t:AQ}(h:Logs (a++t::b)):gdE t=0/\dF a t=true:=by
 refine⟨h.good t (by simp),?_⟩;by_cases h0:a.length=0
 .simp[dF,h0]
 .rw[jB h0];obtain⟨m,x,rfl⟩:=AM0 h0;rw[PX];exact decide_eq_true ((List.pairwise_append.1 h.rise).2.2 x (by simp) t (by simp))
structure Scan(s:List UInt8)(ts:List AQ)(r:List UInt8):Prop where
 eq:s=BM ts++r
 log:Logs ts
 stop:YQ r≠0\/dF ts (jA r)=false
theorem BT4:YQ []≠0:=by rw[(YR (s:=[]) (by decide)).1];decide
theorem pK{ts:List AQ}(h:Logs ts):Scan (BM ts) ts []:=⟨by simp,h,.inl BT4⟩
theorem AM1{ts:List AQ}{t:AQ}(h:Logs ts)(hg:gdE t=0){k:Nat}(hk:k<(NH t).length):Scan (BM ts++(NH t).take k) ts ((NH t).take k):=
 ⟨rfl,h,.inl (by rw[(BT3 hg hk).1];decide)⟩
theorem Scan.len{s r:List UInt8}{ts:List AQ}(h:Scan s ts r):(BM ts).length+r.length=s.length:=by rw[h.eq,List.length_append]
theorem lH:∀ts:List AQ,ts.length*31<=(BM ts).length
 |[]=>by simp[BM]
 |t::l=>by
  have:=lH l;rw[BM,List.length_append,QX,List.length_cons];omega
theorem dG{t:AQ}(h:gdE t=0):(NH t).length<=487:=by
 obtain⟨_,_,_,_,_,hp,hd⟩:=SQ h;rw[QX];omega
theorem A01:∀ts:List AQ,(∀t∈ts,gdE t=0)->(BM ts).length<=ts.length*487
 |[],_=>by simp[BM]
 |t::l,h=>by
  have h1:=A01 l (fun x hx=>h x (by simp[hx]));have h2:=dG (h t (by simp));rw[BM,List.length_append,List.length_cons];omega
theorem LV{ts:List AQ}{k:Nat}{t:AQ}(h:ts[k]?=some t):ts.take (k+1)=ts.take k++[t]:=by
 obtain⟨hk,rfl⟩:=List.getElem?_eq_some_iff.1 h;exact List.take_succ_eq_append_getElem hk
abbrev bl(a b:List UInt8):Bool:=Op.bytesLess a b
theorem MQ:∀a,bl a a=false
 |[]=>rfl
 |x::a=>by
  have h:¬x<x:=UInt8.lt_irrefl x;have:=MQ a;simp only[bl]at this;simp[bl,Op.bytesLess,h,this]
theorem NV:∀a b c,bl a b=true->bl b c=true->bl a c=true
 |[],_,[],_,h=>by cases ‹List UInt8› <;>simp[bl,Op.bytesLess]at h
 |[],_,_::_,_,_=>by simp[bl,Op.bytesLess]
 |_::_,[],_,h,_=>by simp[bl,Op.bytesLess]at h
 |_::_,_::_,[],_,h=>by simp[bl,Op.bytesLess]at h
 |x::a,y::b,z::c,h1,h2=>by
  have ih:=NV a b c;simp only[bl,Op.bytesLess,Bool.or_eq_true,Bool.and_eq_true,decide_eq_true_eq,beq_iff_eq]at h1 h2 ih⊢;rcases h1 with h1|⟨h1,h1'⟩<;>rcases h2 with h2|⟨h2,h2'⟩
  .exact .inl (UInt8.lt_trans h1 h2)
  .subst h2;exact .inl h1
  .subst h1;exact .inl h2
  .subst h1 h2;exact .inr ⟨rfl,ih h1' h2'⟩
theorem P6:∀a b,bl a b=false->bl b a=false->a=b
 |[],[],_,_=>rfl
 |[],_::_,h,_=>by simp[bl,Op.bytesLess]at h
 |_::_,[],_,h=>by simp[bl,Op.bytesLess]at h
 |x::a,y::b,h1,h2=>by
  have ih:=P6 a b;simp only[bl,Op.bytesLess,Bool.or_eq_false_iff,Bool.and_eq_false_iff,decide_eq_false_iff_not,beq_eq_false_iff_ne]at h1 h2 ih;have e:x=y:=UInt8.le_antisymm (UInt8.not_lt.1 h2.1) (UInt8.not_lt.1 h1.1);subst e;rw[ih (h1.2.elim (fun h=>absurd rfl h) id) (h2.2.elim (fun h=>absurd rfl h) id)]
theorem JW{a b:List UInt8}(h:bl a b=true):bl b a=false:=by
 cases h':bl b a with
 |false=>rfl
 |true=>have:=NV a b a h h';rw[MQ]at this;cases this
theorem PZ{a b:List UInt8}(h:bl a b=true):a≠b:=by rintro rfl;rw[MQ]at h;cases h
theorem A04:∀a b,decide (Lib.compareBytes a b<0)=bl a b
 |[],[]=>by simp[bl,Op.bytesLess,Lib.compareBytes]
 |[],_::_=>by simp[bl,Op.bytesLess,Lib.compareBytes]
 |_::_,[]=>by simp[bl,Op.bytesLess,Lib.compareBytes]
 |x::a,y::b=>by
  have ih:=A04 a b;simp only[bl]at ih;simp only[bl,Op.bytesLess,Lib.compareBytes];by_cases h1:x<y
  .simp[h1]
  .by_cases h2:y<x
   .have:x≠y:=by rintro rfl;exact h1 h2
    simp[h1,h2,this]
   .have:x=y:=UInt8.le_antisymm (UInt8.not_lt.1 h2) (UInt8.not_lt.1 h1);subst this;simp[h1,<-ih]
theorem aV:∀a b,decide (Lib.compareBytes a b=0)=decide (a=b)
 |[],[]=>by simp[Lib.compareBytes]
 |[],_::_=>by simp[Lib.compareBytes]
 |_::_,[]=>by simp[Lib.compareBytes]
 |x::a,y::b=>by
  have ih:=aV a b;simp only[Lib.compareBytes];by_cases h1:x<y
  .have:x≠y:=by rintro rfl;exact UInt8.lt_irrefl x h1
   simp[h1,this]
  .by_cases h2:y<x
   .have:x≠y:=by rintro rfl;exact h1 h2
    simp[h1,h2,this]
   .have:x=y:=UInt8.le_antisymm (UInt8.not_lt.1 h2) (UInt8.not_lt.1 h1);subst this;simp[h1,ih]
structure DF where
 n:List UInt8
 s:List UInt8
 t:List UInt8
instance:Inhabited DF:=⟨⟨[],[],[]⟩⟩
def MR(f:DF):Bool:=EC f.n&&decide (f.s.length+f.t.length<=1048576)
def Asc(fs:List DF):Prop:=fs.Pairwise fun a b=>bl a.n b.n=true
structure H6(fs:List DF):Prop where
 few:fs.length<=16
 ok:∀f∈fs,MR f=true
 asc:Asc fs
noncomputable def QZ(fs:List DF):Bool:= @decide (H6 fs) (Classical.propDecidable _)
theorem IY{fs:List DF}:QZ fs=true↔H6 fs:=by unfold QZ;exact @decide_eq_true_iff _ (Classical.propDecidable _)
theorem VW{fs:List DF}:QZ fs=false↔¬H6 fs:=by unfold QZ;exact @decide_eq_false_iff_not _ (Classical.propDecidable _)
def BT6(fs:List DF)(k:Nat):Prop:=∀i,i<k->∀f,fs[i]?=some f->MR f=true/\∀g,0<i->fs[i-1]?=some g->bl g.n f.n=true
theorem AM5(fs:List DF):BT6 fs 0:=fun _ h=>absurd h (Nat.not_lt_zero _)
theorem AM6{fs:List DF}{k:Nat}(h:BT6 fs k){f:DF}(hf:fs[k]?=some f)(h1:MR f=true)(h2:∀g,0<k->fs[k-1]?=some g->bl g.n f.n=true):BT6 fs (k+1):=by
 intro i hi f' hf';by_cases e:i=k
 .subst e;rw[hf]at hf'
  cases hf'
  exact⟨h1,h2⟩
 .exact h i (by omega) f' hf'
theorem vO{fs:List DF}(h:BT6 fs fs.length):Asc fs:=by
 have step:∀j i,(hij:i<j)->∀ (hj:j<fs.length),bl (fs[i]'(Nat.lt_trans hij hj)).n fs[j].n=true:=by
  intro j
  induction j with
  |zero=>intro i hi;omega
  |succ j ih=>
   intro i hi hj;have h1:=(h (j+1) hj _ (List.getElem?_eq_getElem hj)).2 fs[j] (by omega) (by simp);by_cases e:i=j
   .subst e;exact h1
   .exact NV _ _ _ (ih i (by omega) (by omega)) h1
 exact List.pairwise_iff_getElem.2 fun i j hi hj hij=>step j i hij hj
theorem pO{fs:List DF}(hl:fs.length<=16)(h:BT6 fs fs.length):QZ fs=true:=
 IY.2 ⟨hl,fun f hf=>by
  obtain⟨i,hi,rfl⟩:=List.getElem_of_mem hf;exact(h i hi _ (List.getElem?_eq_getElem hi)).1,vO h⟩
theorem BT7{fs:List DF}(h:16<fs.length):QZ fs=false:=VW.2 fun g=>by have:=g.few;omega
theorem B85{fs:List DF}{k:Nat}{f:DF}(hf:fs[k]?=some f)(h:MR f=false):QZ fs=false:=
 VW.2 fun g=>by rw[g.ok f (List.mem_of_getElem? hf)]at h;cases h
theorem AM7{fs:List DF}{k:Nat}{f g:DF}(hf:fs[k]?=some f)(hg:fs[k-1]?=some g)(h0:0<k)(h:bl g.n f.n=false):QZ fs=false:=
 VW.2 fun G=>by
  obtain⟨hk,rfl⟩:=List.getElem?_eq_some_iff.1 hf;obtain⟨hk',rfl⟩:=List.getElem?_eq_some_iff.1 hg;rw[List.pairwise_iff_getElem.1 G.asc (k-1) k hk' hk (by omega)]at h
  cases h
structure There(fs A:List DF)(f:DF)(B:List DF)(name:List UInt8):Prop where
 eq:fs=A++f::B
 nm:f.n=name
 lo:∀a∈A,bl a.n name=true
 hi:∀b∈B,bl name b.n=true
structure Gap(fs A B:List DF)(name:List UInt8):Prop where
 eq:fs=A++B
 lo:∀a∈A,bl a.n name=true
 hi:∀b∈B,bl name b.n=true
theorem A05(name:List UInt8):∀fs:List DF,Asc fs->(∃A f B,There fs A f B name)\/∃A B,Gap fs A B name
 |[],_=>.inr ⟨[],[],rfl,by simp,by simp⟩
 |x::r,h=>by
  obtain⟨hx,hr⟩:=List.pairwise_cons.1 h
  cases h1:bl x.n name with
  |true=>
   rcases A05 name r hr with⟨A,f,B,T⟩|⟨A,B,G⟩
   .exact .inl ⟨x::A,f,B,by rw[T.eq];rfl,T.nm,by simp[h1];exact T.lo,T.hi⟩
   .exact .inr ⟨x::A,B,by rw[G.eq];rfl,by simp[h1];exact G.lo,G.hi⟩
  |false=>
   cases h2:bl name x.n with
   |true=>exact .inr ⟨[],x::r,rfl,by simp,by simp[h2];exact fun b hb=>NV _ _ _ h2 (hx b hb)⟩
   |false=>
    have e:=P6 _ _ h1 h2;exact .inl ⟨[],x,r,rfl,e,by simp,fun b hb=>by rw[<-e];exact hx b hb⟩
theorem There.ok{fs A B:List DF}{f:DF}{name:List UInt8}(T:There fs A f B name)(g:H6 fs):MR f=true:=g.ok f (by rw[T.eq];simp)
theorem JE{f:DF}(h:MR f=true):f.s.length+f.t.length<=1048576:=by simp[MR]at h;exact h.2
theorem SY{f:DF}(h:MR f=true):EC f.n=true:=by simp[MR]at h;exact h.1
end Go.Proofs.YtenkgjfahcgppaaGreatDoor
namespace Go.Proofs.YtenkgjfahcgppaaGreatDoor
structure Ev where
 k:Int
 p:List UInt8
end Go.Proofs.YtenkgjfahcgppaaGreatDoor
namespace Go.Proofs.YtenkgjfahcgppaaGreatDoor
open Go.RowKit
def EH(f:DF):List Value:=[S0 f.n,S0 f.s,S0 f.t]
def BA7(f:DF):Value:=.agg #[S0 f.n,S0 f.s,S0 f.t]
def BG:List DF->List Value
 |[]=>[]
 |f::r=>EH f++BG r
theorem BF:∀fs:List DF,(BG fs).length=fs.length*3
 |[]=>rfl
 |f::r=>by rw[BG,List.length_append,BF r];simp[EH];omega
theorem F6:∀a b:List DF,BG (a++b)=BG a++BG b
 |[],_=>rfl
 |f::r,b=>by rw[List.cons_append,BG,BG,F6 r b,List.append_assoc]
theorem UM:∀ (fs:List DF) (i:Nat) (f:DF),fs[i]?=some f->∀c,c<3->(BG fs)[i*3+c]?=(EH f)[c]?
 |[],i,f,h,_,_=>by simp at h
 |x::r,0,f,h,c,hc=>by
  simp at h;subst h;rw[BG,List.getElem?_append_left (by simp[EH];omega)];simp
 |x::r,i+1,f,h,c,hc=>by
  rw[BG,List.getElem?_append_right (by simp[EH];omega),<-UM r i f (by simpa using h) c hc]
  congr 1
  simp[EH];omega
theorem UN(fs:List DF):∀u∈BG fs,u.oneCell'=true:=by
 induction fs with
 |nil=>simp[BG]
 |cons f r ih=>
  intro u hu;rcases List.mem_append.1 hu with h|h
  .simp[EH]at h;rcases h with rfl|rfl|rfl<;>rfl
  .exact ih u h
theorem jM:∀ (fs:List DF) (i:Nat) (f g:DF),fs[i]?=some f->∀c v,c<3->(EH g)=(EH f).set c v->(BG fs).set (i*3+c) v=BG (fs.set i g)
 |[],i,f,g,h,_,_,_,_=>by simp at h
 |x::r,0,f,g,h,c,v,hc,hg=>by
  simp at h;subst h;rw[BG,List.set_cons_zero,BG,hg,List.set_append_left _ _ (by simp[EH];omega)];simp
 |x::r,i+1,f,g,h,c,v,hc,hg=>by
  rw[BG,List.set_cons_succ,BG,List.set_append_right _ _ (by simp[EH];omega),<-jM r i f g (by simpa using h) c v hc hg]
  congr 2
  simp[EH];omega
def BL(w:World)(b off:Nat)(cs:List Value):Prop:=∀j v,cs[j]?=some v->w.cell? ⟨b,off+j,none⟩=some v
theorem BL.c0{w:World}{b off:Nat}{fs:List DF}(h:BL w b off (BG fs)){i:Nat}{f:DF}(hi:fs[i]?=some f):w.cell? ⟨b,off+i*3,none⟩=some (S0 f.n):=
 h (i*3) _ (by have:=UM fs i f hi 0 (by omega);simpa [EH]using this)
theorem BL.c1{w:World}{b off:Nat}{fs:List DF}(h:BL w b off (BG fs)){i:Nat}{f:DF}(hi:fs[i]?=some f):w.cell? ⟨b,off+i*3+1,none⟩=some (S0 f.s):=by
 rw[Nat.add_assoc];exact h (i*3+1) _ (by have:=UM fs i f hi 1 (by omega);simpa [EH]using this)
theorem BL.c2{w:World}{b off:Nat}{fs:List DF}(h:BL w b off (BG fs)){i:Nat}{f:DF}(hi:fs[i]?=some f):w.cell? ⟨b,off+i*3+2,none⟩=some (S0 f.t):=by
 rw[Nat.add_assoc];exact h (i*3+2) _ (by have:=UM fs i f hi 2 (by omega);simpa [EH]using this)
theorem BL.kept{w w':World}{b off B:Nat}{cs:List Value}(h:BL w b off cs)(hb:Below B w w')(hB:b<B):BL w' b off cs:=
 fun j v hj=>by rw[hb.cell (p:=⟨b,off+j,none⟩) hB];exact h j v hj
def C9(w:World)(v:Value)(fs:List DF):Prop:=
 (∃a cap,v=.slice a 0 cap/\fs=[]/\cap<=maxLen)\/
 ∃b off cap,v=.slice (some ⟨b,off,none⟩) fs.length cap/\fs.length<=cap/\cap<=maxLen/\b<w.heap.size/\fs≠[]/\BL w b off (BG fs)
theorem C9.kept{w w':World}{B:Nat}{v:Value}{fs:List DF}(h:C9 w v fs)(hb:Below B w w')(hB:w.heap.size<=B):C9 w' v fs:=by
 rcases h with h|⟨b,off,cap,rfl,h1,h2,h3,h0,h4⟩
 .exact .inl h
 .exact .inr ⟨b,off,cap,rfl,h1,h2,Nat.lt_of_lt_of_le h3 hb.size,h0,h4.kept hb (Nat.lt_of_lt_of_le h3 hB)⟩
theorem C9.next{w w':World}{v:Value}{fs:List DF}(h:C9 w v fs)(hb:B0 w w'):C9 w' v fs:=h.kept hb (Nat.le_refl _)
theorem C9.alloc{w:World}{v:Value}{fs:List DF}(h:C9 w v fs)(o:Obj):C9 (w.alloc o) v fs:=h.next ((Below.refl _ _).alloc (Nat.le_refl _) o)
theorem C9.drew{w:World}{v:Value}{fs:List DF}(h:C9 w v fs):C9 w.drew v fs:=h.next (Below.refl _ _).drew
theorem C9.nil(w:World):C9 w (N0) []:=.inl ⟨none,0,rfl,rfl,by decide⟩
def Own(W:World)(g cap:Nat)(fs:List DF):Prop:=∃rest:List Value,W.heap[g]?=some (.cells (BG fs++rest).toArray 93 (0,0))/\fs.length*3+rest.length=cap*3/\cap<=maxLen
theorem Own.lt{W:World}{g cap:Nat}{fs:List DF}(h:Own W g cap fs):g<W.heap.size:=by
 obtain⟨rest,h1,_⟩:=h;exact(Array.getElem?_eq_some_iff.1 h1).1
theorem Own.le{W:World}{g cap:Nat}{fs:List DF}(h:Own W g cap fs):fs.length<=cap:=by obtain⟨rest,_,h2,_⟩:=h;omega
theorem Own.capLe{W:World}{g cap:Nat}{fs:List DF}(h:Own W g cap fs):cap<=maxLen:=by obtain⟨rest,_,_,h3⟩:=h;exact h3
theorem Own.row{W:World}{g cap:Nat}{fs:List DF}(h:Own W g cap fs):BL W g 0 (BG fs):=by
 obtain⟨rest,h1,_⟩:=h;intro j v hj;have hlt:j<(BG fs).length:=(List.getElem?_eq_some_iff.1 hj).1;simp[World.cell?,h1,List.getElem?_append_left hlt,hj]
theorem Own.frozen{W:World}{g cap:Nat}{fs:List DF}(h:Own W g cap fs)(j:Nat):W.frozen? ⟨g,j,none⟩=false:=by
 obtain⟨rest,h1,_⟩:=h;simp[World.frozen?,h1]
theorem Own.c0{W:World}{g cap:Nat}{fs:List DF}(h:Own W g cap fs){i:Nat}{f:DF}(hi:fs[i]?=some f):W.cell? ⟨g,i*3,none⟩=some (S0 f.n):=by simpa using h.row.c0 hi
theorem Own.c1{W:World}{g cap:Nat}{fs:List DF}(h:Own W g cap fs){i:Nat}{f:DF}(hi:fs[i]?=some f):W.cell? ⟨g,i*3+1,none⟩=some (S0 f.s):=by simpa using h.row.c1 hi
theorem Own.c2{W:World}{g cap:Nat}{fs:List DF}(h:Own W g cap fs){i:Nat}{f:DF}(hi:fs[i]?=some f):W.cell? ⟨g,i*3+2,none⟩=some (S0 f.t):=by simpa using h.row.c2 hi
theorem Own.kept{W V:World}{g B cap:Nat}{fs:List DF}(h:Own W g cap fs)(hb:Below B W V)(hg:g<B):Own V g cap fs:=by
 obtain⟨rest,h1,h2⟩:=h;exact⟨rest,(hb.block _ hg).trans h1,h2⟩
theorem Own.next{W V:World}{g cap:Nat}{fs:List DF}(h:Own W g cap fs)(hb:B0 W V):Own V g cap fs:=h.kept hb h.lt
theorem Own.alloc{W:World}{g cap:Nat}{fs:List DF}(h:Own W g cap fs)(o:Obj):Own (W.alloc o) g cap fs:=h.next ((Below.refl _ _).alloc (Nat.le_refl _) o)
theorem Own.drew{W:World}{g cap:Nat}{fs:List DF}(h:Own W g cap fs):Own W.drew g cap fs:=h
theorem Own.other{W:World}{g cap:Nat}{fs:List DF}(h:Own W g cap fs){a:Addr}(ha:g≠a.block)(v:Value):Own (W.setCell a v) g cap fs:=by
 obtain⟨rest,h1,h2⟩:=h;exact⟨rest,(Below.heap_setCell W a v g ha).trans h1,h2⟩
theorem AV{w:World}{g j:Nat}{cur:Array Value}{t:TypeId}{fz:Nat×Nat}(v:Value)(h:w.heap[g]?=some (.cells cur t fz)):
  (w.setCell ⟨g,j,none⟩ v).heap[g]?=some (.cells (cur.setIfInBounds j v) t fz):=by
 obtain⟨hlt,hk⟩:=Array.getElem?_eq_some_iff.1 h;show (w.heap.modify g _)[g]?=_;rw[Array.getElem?_eq_getElem (by rw[Array.size_modify];exact hlt),Array.getElem_modify_self,hk];rfl
theorem Own.set{W:World}{g cap:Nat}{fs:List DF}(h:Own W g cap fs){i:Nat}{f f':DF}(hi:fs[i]?=some f){c:Nat}(hc:c<3){v:Value}(hf:EH f'=(EH f).set c v):Own (W.setCell ⟨g,i*3+c,none⟩ v) g cap (fs.set i f'):=by
 obtain⟨rest,h1,h2,h3⟩:=h;refine⟨rest,?_,by simpa using h2,h3⟩;have hl:i<fs.length:=(List.getElem?_eq_some_iff.1 hi).1;rw[AV v h1,<-jM fs i f f' hi c v hc hf];simp[List.set_append_left _ _ (show i*3+c<(BG fs).length by rw[BF];omega)]
theorem Own.s1{W:World}{g cap:Nat}{fs:List DF}(h:Own W g cap fs){i:Nat}{f:DF}(hi:fs[i]?=some f)(x:List UInt8):Own (W.setCell ⟨g,i*3+1,none⟩ (S0 x)) g cap (fs.set i ⟨f.n,x,f.t⟩):=h.set hi (c:=1) (by omega) rfl
theorem Own.s2{W:World}{g cap:Nat}{fs:List DF}(h:Own W g cap fs){i:Nat}{f:DF}(hi:fs[i]?=some f)(x:List UInt8):Own (W.setCell ⟨g,i*3+2,none⟩ (S0 x)) g cap (fs.set i ⟨f.n,f.s,x⟩):=h.set hi (c:=2) (by omega) rfl
def UO(W:World)(B:Nat)(v:Value)(fs:List DF):Prop:=(v=N0/\fs=[])\/∃g cap,v=.slice (some ⟨g,0,none⟩) fs.length cap/\B<=g/\Own W g cap fs
theorem UO.disk{W:World}{B:Nat}{v:Value}{fs:List DF}(h:UO W B v fs):C9 W v fs:=by
 rcases h with⟨rfl,rfl⟩|⟨g,cap,rfl,_,h⟩
 .exact C9.nil W
 .by_cases h0:fs=[]
  .subst h0;exact .inl ⟨_,cap,rfl,rfl,h.capLe⟩
  .exact .inr ⟨g,0,cap,rfl,h.le,h.capLe,h.lt,h0,h.row⟩
theorem UO.next{W V:World}{B:Nat}{v:Value}{fs:List DF}(h:UO W B v fs)(hb:B0 W V):UO V B v fs:=by
 rcases h with h|⟨g,cap,rfl,hB,h⟩
 .exact .inl h
 .exact .inr ⟨g,cap,rfl,hB,h.next hb⟩
theorem UO.G8{W:World}{B:Nat}{v:Value}{fs:List DF}(h:W.ownsRow B 93 3 v fs.length (BG fs)):UO W B v fs:=by
 obtain⟨_,⟨rfl,h0⟩|⟨g,cap,cur,rfl,hB,hg,hn,hm,hs,ht⟩⟩:=h
 .exact .inl ⟨rfl,List.eq_nil_of_length_eq_zero h0⟩
 .refine .inr ⟨g,cap,rfl,hB,cur.toList.drop (fs.length*3),?_,?_,hm⟩
  .rw[hg,<-ht,List.take_append_drop]
  .simp[hs];omega
theorem UO.row{W:World}{B:Nat}{v:Value}{fs:List DF}(h:UO W B v fs):W.ownsRow B 93 3 v fs.length (BG fs):=by
 refine⟨BF fs,?_⟩;rcases h with⟨rfl,rfl⟩|⟨g,cap,rfl,hB,h⟩
 .exact .inl ⟨rfl,rfl⟩
 .have hle:=h.le;obtain⟨rest,h1,h2,h3⟩:=h;refine .inr ⟨g,cap,_,rfl,hB,h1,hle,h3,by simp[BF,h2],?_⟩;simp[<-BF fs]
class Lay (α:Type) where
 k:Nat
 cs:α->List Value
 ty:TypeId
 len:∀x,(cs x).length=k
 one:∀x,∀u∈cs x,u.oneCell'=true
def AP4(e:Ev):List Value:=[I0 e.k,S0 e.p]
def evV(e:Ev):Value:=.agg #[I0 e.k,S0 e.p]
instance layE:Lay Ev:=⟨2,AP4,67,fun _=>rfl,fun x u hu=>by simp[AP4]at hu;rcases hu with rfl|rfl<;>rfl⟩
instance layI:Lay Int:=⟨1,fun x=>[I0 x],3,fun _=>rfl,fun x u hu=>by simp at hu;subst hu;rfl⟩
instance layS:Lay (List UInt8):=⟨1,fun x=>[S0 x],9,fun _=>rfl,fun x u hu=>by simp at hu;subst hu;rfl⟩
section
variable {α:Type} [Lay α]
def AO(xs:List α):List Value:=xs.flatMap Lay.cs
theorem OG:AO ([]:List α)=[]:=rfl
theorem F7(x:α)(r:List α):AO (x::r)=Lay.cs x++AO r:=by simp[AO]
theorem BA(xs:List α):(AO xs).length=xs.length*Lay.k α:=by
 induction xs with
 |nil=>simp[AO]
 |cons x r ih=>rw[F7,List.length_append,Lay.len,ih,List.length_cons,Nat.add_mul];omega
theorem BH(a b:List α):AO (a++b)=AO a++AO b:=by simp[AO]
theorem EK(a:List α)(x:α):AO (a++[x])=AO a++Lay.cs x:=by simp[AO]
theorem AP5(A:List α)(x:α)(B:List α)(c:Nat)(hc:c<Lay.k α):(AO (A++x::B))[A.length*Lay.k α+c]?=(Lay.cs x)[c]? :=by
 rw[BH,List.getElem?_append_right (by rw[BA];omega),BA,Nat.add_sub_cancel_left,F7,List.getElem?_append_left (by rw[Lay.len];exact hc)]
theorem AZ(xs:List α)(i:Nat)(x:α)(h:xs[i]?=some x)(c:Nat)(hc:c<Lay.k α):(AO xs)[i*Lay.k α+c]?=(Lay.cs x)[c]? :=by
 obtain⟨hi,rfl⟩:=List.getElem?_eq_some_iff.1 h;have e:xs=xs.take i++xs[i]::xs.drop (i+1):=by simp
 have:=AP5 (xs.take i) xs[i] (xs.drop (i+1)) c hc;rw[<-e,List.length_take,Nat.min_eq_left (Nat.le_of_lt hi)]at this;exact this
theorem EZ(xs:List α):∀u∈AO xs,u.oneCell'=true:=by
 intro u hu;obtain⟨x,_,hx⟩:=List.mem_flatMap.1 hu;exact Lay.one x u hx
theorem AB4(A:List α)(x y:α)(B:List α)(c:Nat)(v:Value)(hc:c<Lay.k α)(hy:Lay.cs y=(Lay.cs x).set c v):(AO (A++x::B)).set (A.length*Lay.k α+c) v=AO (A++y::B):=by
 rw[BH,BH,List.set_append_right _ _ (by rw[BA];omega),BA,Nat.add_sub_cancel_left,F7,F7,List.set_append_left _ _ (by rw[Lay.len];exact hc),hy]
def BQ(w:World)(v:Value)(xs:List α):Prop:=
 (∃a cap,v=.slice a 0 cap/\xs=[]/\cap<=maxLen)\/
 ∃b off cap,v=.slice (some ⟨b,off,none⟩) xs.length cap/\xs.length<=cap/\cap<=maxLen/\b<w.heap.size/\xs≠[]/\BL w b off (AO xs)
theorem BQ.kept{w w':World}{B:Nat}{v:Value}{xs:List α}(h:BQ w v xs)(hb:Below B w w')(hB:w.heap.size<=B):BQ w' v xs:=by
 rcases h with h|⟨b,off,cap,rfl,h1,h2,h3,h0,h4⟩
 .exact .inl h
 .exact .inr ⟨b,off,cap,rfl,h1,h2,Nat.lt_of_lt_of_le h3 hb.size,h0,h4.kept hb (Nat.lt_of_lt_of_le h3 hB)⟩
theorem BQ.next{w w':World}{v:Value}{xs:List α}(h:BQ w v xs)(hb:B0 w w'):BQ w' v xs:=h.kept hb (Nat.le_refl _)
theorem BQ.alloc{w:World}{v:Value}{xs:List α}(h:BQ w v xs)(o:Obj):BQ (w.alloc o) v xs:=h.next ((Below.refl _ _).alloc (Nat.le_refl _) o)
theorem BQ.nil(w:World):BQ w (N0) ([]:List α):=.inl ⟨none,0,rfl,rfl,by decide⟩
theorem AU{w:World}{v:Value}{xs:List α}(hv:BQ w v xs):∃a c,v=.slice a xs.length c:=by
 rcases hv with⟨a,cap,rfl,rfl,_⟩|⟨b,off,cap,rfl,_⟩
 .exact⟨_,_,rfl⟩
 .exact⟨_,_,rfl⟩
theorem J7{w:World}{v:Value}{xs:List α}(hv:BQ w v xs)(h0:xs≠[]):
  ∃b off cap,v=.slice (some ⟨b,off,none⟩) xs.length cap/\b<w.heap.size/\BL w b off (AO xs)/\xs.length<=cap/\cap<=maxLen:=by
 rcases hv with⟨a,cap,rfl,rfl,_⟩|⟨b,off,cap,rfl,h1,h2,hb,_,hr⟩
 .exact absurd rfl h0
 .exact⟨b,off,cap,rfl,hb,hr,h1,h2⟩
def DY(W:World)(g cap:Nat)(xs:List α):Prop:=∃rest:List Value,W.heap[g]?=some (.cells (AO xs++rest).toArray (Lay.ty α) (0,0))/\xs.length*Lay.k α+rest.length=cap*Lay.k α/\xs.length<=cap/\cap<=maxLen
theorem DY.lt{W:World}{g cap:Nat}{xs:List α}(h:DY W g cap xs):g<W.heap.size:=by
 obtain⟨rest,h1,_⟩:=h;exact(Array.getElem?_eq_some_iff.1 h1).1
theorem DY.le{W:World}{g cap:Nat}{xs:List α}(h:DY W g cap xs):xs.length<=cap:=by obtain⟨rest,_,_,h2,_⟩:=h;exact h2
theorem DY.capLe{W:World}{g cap:Nat}{xs:List α}(h:DY W g cap xs):cap<=maxLen:=by obtain⟨rest,_,_,_,h3⟩:=h;exact h3
theorem DY.row{W:World}{g cap:Nat}{xs:List α}(h:DY W g cap xs):BL W g 0 (AO xs):=by
 obtain⟨rest,h1,_⟩:=h;intro j v hj;have hlt:j<(AO xs).length:=(List.getElem?_eq_some_iff.1 hj).1;simp[World.cell?,h1,List.getElem?_append_left hlt,hj]
theorem DY.frozen{W:World}{g cap:Nat}{xs:List α}(h:DY W g cap xs)(j:Nat):W.frozen? ⟨g,j,none⟩=false:=by
 obtain⟨rest,h1,_⟩:=h;simp[World.frozen?,h1]
theorem DY.kept{W V:World}{g B cap:Nat}{xs:List α}(h:DY W g cap xs)(hb:Below B W V)(hg:g<B):DY V g cap xs:=by
 obtain⟨rest,h1,h2⟩:=h;exact⟨rest,(hb.block _ hg).trans h1,h2⟩
theorem DY.next{W V:World}{g cap:Nat}{xs:List α}(h:DY W g cap xs)(hb:B0 W V):DY V g cap xs:=h.kept hb h.lt
theorem DY.other{W:World}{g cap:Nat}{xs:List α}(h:DY W g cap xs){a:Addr}(ha:g≠a.block)(v:Value):DY (W.setCell a v) g cap xs:=by
 obtain⟨rest,h1,h2⟩:=h;exact⟨rest,(Below.heap_setCell W a v g ha).trans h1,h2⟩
theorem DY.set{W:World}{g cap:Nat}{A B:List α}{x y:α}(h:DY W g cap (A++x::B)){c:Nat}(hc:c<Lay.k α){v:Value}(hy:Lay.cs y=(Lay.cs x).set c v):DY (W.setCell ⟨g,A.length*Lay.k α+c,none⟩ v) g cap (A++y::B):=by
 obtain⟨rest,h1,h2,h3⟩:=h;refine⟨rest,?_,by simpa using h2,by simpa using h3⟩;rw[AV v h1,<-AB4 A x y B c v hc hy];have hlt:A.length*Lay.k α+c<(AO (A++x::B)).length:=by
  rw[BA];simp[Nat.add_mul];omega
 simp[List.set_append_left _ _ hlt]
def BD(W:World)(B:Nat)(v:Value)(xs:List α):Prop:=(v=N0/\xs=[])\/∃g cap,v=.slice (some ⟨g,0,none⟩) xs.length cap/\B<=g/\DY W g cap xs
theorem BD.seq{W:World}{B:Nat}{v:Value}{xs:List α}(h:BD W B v xs):BQ W v xs:=by
 rcases h with⟨rfl,rfl⟩|⟨g,cap,rfl,_,h⟩
 .exact BQ.nil W
 .by_cases h0:xs=[]
  .subst h0;exact .inl ⟨_,cap,rfl,rfl,h.capLe⟩
  .exact .inr ⟨g,0,cap,rfl,h.le,h.capLe,h.lt,h0,h.row⟩
theorem BD.kept{W V:World}{B C:Nat}{v:Value}{xs:List α}(h:BD W B v xs)(hb:Below C W V)(hC:W.heap.size<=C):BD V B v xs:=by
 rcases h with h|⟨g,cap,rfl,hB,h⟩
 .exact .inl h
 .exact .inr ⟨g,cap,rfl,hB,h.kept hb (Nat.lt_of_lt_of_le h.lt hC)⟩
theorem BD.next{W V:World}{B:Nat}{v:Value}{xs:List α}(h:BD W B v xs)(hb:B0 W V):BD V B v xs:=h.kept hb (Nat.le_refl _)
theorem BD.other{W:World}{B:Nat}{v:Value}{xs:List α}(h:BD W B v xs){a:Addr}(ha:v.ownBlock≠some a.block)(u:Value):BD (W.setCell a u) B v xs:=by
 rcases h with h|⟨g,cap,rfl,hB,h⟩
 .exact .inl h
 .exact .inr ⟨g,cap,rfl,hB,h.other (by intro e;apply ha;simp[Value.ownBlock,e]) u⟩
theorem BD.lower{W:World}{B C:Nat}{v:Value}{xs:List α}(h:BD W B v xs)(hC:C<=B):BD W C v xs:=by
 rcases h with h|⟨g,cap,rfl,hB,h⟩
 .exact .inl h
 .exact .inr ⟨g,cap,rfl,Nat.le_trans hC hB,h⟩
theorem BD.G8{W:World}{B:Nat}{v:Value}{xs:List α}(h:W.ownsRow B (Lay.ty α) (Lay.k α) v xs.length (AO xs)):BD W B v xs:=by
 obtain⟨_,⟨rfl,h0⟩|⟨g,cap,cur,rfl,hB,hg,hn,hm,hs,ht⟩⟩:=h
 .exact .inl ⟨rfl,List.eq_nil_of_length_eq_zero h0⟩
 .refine .inr ⟨g,cap,rfl,hB,cur.toList.drop (xs.length*Lay.k α),?_,?_,hn,hm⟩
  .rw[hg,<-ht,List.take_append_drop]
  .have:=Nat.mul_le_mul_right (Lay.k α) hn;simp[hs];omega
theorem BD.row{W:World}{B:Nat}{v:Value}{xs:List α}(h:BD W B v xs):W.ownsRow B (Lay.ty α) (Lay.k α) v xs.length (AO xs):=by
 refine⟨BA xs,?_⟩;rcases h with⟨rfl,rfl⟩|⟨g,cap,rfl,hB,h⟩
 .exact .inl ⟨rfl,rfl⟩
 .obtain⟨rest,h1,h2,hle,h3⟩:=h;refine .inr ⟨g,cap,_,rfl,hB,h1,hle,h3,by simp[BA,h2],?_⟩;simp[<-BA xs]
theorem BD.slice{W:World}{B:Nat}{v:Value}{xs:List α}(h:BD W B v xs):∃a c,v=.slice a xs.length c/\c<=maxLen:=by
 rcases h with⟨rfl,rfl⟩|⟨g,cap,rfl,_,h⟩
 .exact⟨none,0,rfl,by decide⟩
 .exact⟨_,_,rfl,h.capLe⟩
end
theorem BL.i0{w:World}{b off:Nat}{xs:List Int}(h:BL w b off (AO xs)){i:Nat}{x:Int}(hi:xs[i]?=some x):w.cell? ⟨b,off+i,none⟩=some (I0 x):=
 h i _ (by have:=AZ xs i x hi 0 (by decide);simpa [Lay.k,Lay.cs]using this)
theorem BL.s0{w:World}{b off:Nat}{xs:List (List UInt8)}(h:BL w b off (AO xs)){i:Nat}{x:List UInt8}(hi:xs[i]?=some x):w.cell? ⟨b,off+i,none⟩=some (S0 x):=
 h i _ (by have:=AZ xs i x hi 0 (by decide);simpa [Lay.k,Lay.cs]using this)
theorem BL.e0{w:World}{b off:Nat}{xs:List Ev}(h:BL w b off (AO xs)){i:Nat}{x:Ev}(hi:xs[i]?=some x):w.cell? ⟨b,off+i*2,none⟩=some (I0 x.k):=
 h (i*2) _ (AZ xs i x hi 0 (by decide))
theorem BL.e1{w:World}{b off:Nat}{xs:List Ev}(h:BL w b off (AO xs)){i:Nat}{x:Ev}(hi:xs[i]?=some x):w.cell? ⟨b,off+i*2+1,none⟩=some (S0 x.p):=by
 rw[Nat.add_assoc];exact h (i*2+1) _ (AZ xs i x hi 1 (by decide))
theorem AY{w:World}{o:Obj}{w1:World}(h:Below (w.alloc o).heap.size (w.alloc o) w1):B0 w w1:=
 ((Below.refl _ _).alloc (Nat.le_refl _) _).trans (h.mono (by simp))
theorem AL{w W V:World}(h:B0 w W)(h':B0 W V):B0 w V:=h.trans (h'.mono h.size)
theorem AB(w:World)(o:Obj):B0 w (w.alloc o):=(Below.refl _ _).alloc (Nat.le_refl _) _
theorem LY{w:World}{g j:Nat}(v:Value):w.grownBy (w.setCell ⟨g,j,none⟩ v) (some g):=⟨rfl,rfl,rfl,by simp[World.setCell],fun k _ hne=>Below.heap_setCell w ⟨g,j,none⟩ v k (fun e=>hne (by rw[e]))⟩
theorem BZ{w w' w'':World}{g:Nat}(h:w.grownBy w' (some g))(h':w'.grownBy w'' (some g)):w.grownBy w'' (some g):=
 ⟨h'.os.trans h.os,h'.tape.trans h.tape,h'.output.trans h.output,Nat.le_trans h.size h'.size,fun k hk hne=>(h'.block k (Nat.lt_of_lt_of_le hk h.size) hne).trans (h.block k hk hne)⟩
theorem L9{g:Nat}{t:TypeId}{fz:Nat×Nat}:∀ (vs:List Value) (o:Nat) (w:World) (l:List Value),w.heap[g]?=some (.cells l.toArray t fz)->o+vs.length<=l.length->
  (w.setCells g o vs).heap[g]?=some (.cells (l.take o++vs++l.drop (o+vs.length)).toArray t fz)
 |[],o,w,l,h,_=>by simpa [World.setCells]using h
 |v::r,o,w,l,h,hl=>by
  have h1:(w.setCell ⟨g,o,none⟩ v).heap[g]?=some (.cells (l.set o v).toArray t fz):=by rw[AV v h];simp
  rw[World.setCells,L9 r (o+1) _ _ h1 (by simp at hl⊢;omega)];have ho:o<l.length:=by simp at hl;omega
  have e1:(l.set o v).take (o+1)=l.take o++[v]:=by
   rw[List.take_set,List.take_succ_eq_append_getElem ho,List.set_append_right _ _ (by simp;omega)];simp[Nat.min_eq_left (Nat.le_of_lt ho)]
  have e2:(l.set o v).drop (o+1+r.length)=l.drop (o+(r.length+1)):=by
   rw[List.drop_set_of_lt (by omega)];congr 1;omega
  rw[e1,e2];simp
theorem BI{g:Nat}:∀ (vs:List Value) (o:Nat) (w:World),w.grownBy (w.setCells g o vs) (some g)
 |[],_,_=>⟨rfl,rfl,rfl,Nat.le_refl _,fun _ _ _=>rfl⟩
 |v::r,o,_=>BZ (LY v) (BI r (o+1) _)
section
variable {α:Type} [Lay α]
theorem DY.splice{W:World}{g cap:Nat}{pre tl:List α}(h:DY W g cap (pre++tl))(new:List α)(hfit:pre.length+new.length<=cap):DY (W.setCells g (pre.length*Lay.k α) (AO new)) g cap (pre++new):=by
 obtain⟨rest,h1,h2,h4,h3⟩:=h;have hlen:(AO (pre++tl)++rest).length=cap*Lay.k α:=by rw[List.length_append,BA];exact h2
 have hf:pre.length*Lay.k α+new.length*Lay.k α<=cap*Lay.k α:=by rw[<-Nat.add_mul];exact Nat.mul_le_mul_right _ hfit
 refine⟨(AO (pre++tl)++rest).drop (pre.length*Lay.k α+(AO new).length),?_,?_,by simpa using hfit,h3⟩
 .rw[L9 (AO new) (pre.length*Lay.k α) W _ h1 (by rw[hlen,BA];omega),BH pre new]
  congr 3
  have e:AO (pre++tl)++rest=AO pre++(AO tl++rest):=by rw[BH,List.append_assoc]
  rw[e,<-BA pre,List.take_left]
 .rw[List.length_drop,hlen,BA,List.length_append,Nat.add_mul];omega
theorem DY.spare{W:World}{g cap:Nat}{fs:List α}(h:DY W g cap fs)(vs:List Value)(o:Nat)(ho:fs.length*Lay.k α<=o)(hfit:o+vs.length<=cap*Lay.k α):DY (W.setCells g o vs) g cap fs:=by
 obtain⟨rest,h1,h2,h4,h3⟩:=h;have hlen:(AO fs++rest).length=cap*Lay.k α:=by rw[List.length_append,BA];exact h2
 have hc:=BA fs;refine⟨rest.take (o-fs.length*Lay.k α)++vs++(AO fs++rest).drop (o+vs.length),?_,?_,h4,h3⟩
 .rw[L9 vs o W _ h1 (by rw[hlen];omega)]
  congr 2
  rw[List.take_append,List.take_of_length_le (by omega),hc];simp only[List.append_assoc]
 .simp only[List.length_append,List.length_take,List.length_drop,hc];omega
theorem DY.qJ{W:World}{g cap:Nat}{A B:List α}{y:α}(h:DY W g cap (A++y::B))(x:α):DY (W.setCells g (A.length*Lay.k α) (Lay.cs x)) g cap (A++x::B):=by
 obtain⟨rest,h1,h2,h4,h3⟩:=h;have hlen:(AO (A++y::B)++rest).length=cap*Lay.k α:=by rw[List.length_append,BA];exact h2
 refine⟨rest,?_,by simpa using h2,by simpa using h4,h3⟩;have hA:=BA A;have hx3:(Lay.cs x).length=Lay.k α:=Lay.len x;have hy3:(Lay.cs y).length=Lay.k α:=Lay.len y;rw[L9 (Lay.cs x) (A.length*Lay.k α) W _ h1 (by rw[hlen,hx3];simp[Nat.add_mul]at h2;omega)];have e:AO (A++y::B)++rest=AO A++(Lay.cs y++(AO B++rest)):=by simp[BH,F7]
 have e':AO (A++x::B)++rest=AO A++(Lay.cs x++(AO B++rest)):=by simp[BH,F7]
 rw[e,e']
 congr 2
 rw[hx3,<-hA,List.take_left,show (AO A).length+Lay.k α=(AO A++Lay.cs y).length by rw[List.length_append,hy3],<-List.append_assoc (AO A) (Lay.cs y),List.drop_left,List.append_assoc]
theorem DY.some{W:World}{g cap:Nat}{fs:List α}(h:DY W g cap fs){j:Nat}(hj:j<cap*Lay.k α):(W.cell? ⟨g,j,none⟩).isSome=true:=by
 obtain⟨rest,h1,h2,_⟩:=h;have hl:j<(AO fs++rest).length:=by rw[List.length_append,BA,h2];exact hj
 rw[List.length_append]at hl;simp[World.cell?,h1,hl]
theorem DY.drew{W:World}{g cap:Nat}{fs:List α}(h:DY W g cap fs):DY W.drew g cap fs:=h
def EW(W:World)(b:Nat)(x:α):Prop:=W.heap[b]?=some (.cells (Lay.cs x).toArray (Lay.ty α) (0,0))
theorem EW.row{W:World}{b:Nat}{x:α}(h:EW W b x):∀j v,(Lay.cs x)[j]?=some v->W.cell? ⟨b,0+j,none⟩=some v:=by
 intro j v hj;unfold EW at h;simp[World.cell?,h,hj]
end
theorem DV(ss:List Int):(AO ss).length=ss.length:=(BA ss).trans (Nat.mul_one _)
structure Touch(F:Nat->Prop)(w w':World):Prop where
 os:w'.os=w.os
 tape:w'.tape=w.tape
 output:w'.output=w.output
 size:w.heap.size<=w'.heap.size
 block:∀k,k<w.heap.size->¬F k->w'.heap[k]?=w.heap[k]?
theorem Touch.refl(F:Nat->Prop)(w:World):Touch F w w:=⟨rfl,rfl,rfl,Nat.le_refl _,fun _ _ _=>rfl⟩
theorem Touch.trans{F:Nat->Prop}{a b c:World}(h:Touch F a b)(k:Touch F b c):Touch F a c:=
 ⟨k.os.trans h.os,k.tape.trans h.tape,k.output.trans h.output,Nat.le_trans h.size k.size,fun i hi hf=>(k.block i (Nat.lt_of_lt_of_le hi h.size) hf).trans (h.block i hi hf)⟩
theorem Touch.of_below{F:Nat->Prop}{w w':World}(h:B0 w w'):Touch F w w':=⟨h.os,h.tape,h.output,h.size,fun k hk _=>h.block k hk⟩
theorem Touch.RD{F:Nat->Prop}{w w':World}{r:Option Nat}(h:w.grownBy w' r)(hr:∀k,r=some k->F k):Touch F w w':=⟨h.os,h.tape,h.output,h.size,fun k hk hf=>h.block k hk (fun e=>hf (hr k e.symm))⟩
theorem Touch.set{F:Nat->Prop}{w:World}{a:Addr}(hf:F a.block)(v:Value):Touch F w (w.setCell a v):=⟨rfl,rfl,rfl,by simp[World.setCell],fun k _ hn=>Below.heap_setCell w a v k (fun e=>hn (by rw[e];exact hf))⟩
theorem Touch.drew{F:Nat->Prop}{w w':World}(h:Touch F w w'):Touch F w w'.drew:=⟨h.os,h.tape,h.output,h.size,h.block⟩
theorem Touch.mono{F G:Nat->Prop}{w w':World}(h:Touch F w w')(hg:∀k,k<w.heap.size->F k->G k):Touch G w w':=⟨h.os,h.tape,h.output,h.size,fun k hk hn=>h.block k hk (fun hf=>hn (hg k hk hf))⟩
theorem Touch.below{F:Nat->Prop}{w w':World}{B:Nat}(h:Touch F w w')(hB:B<=w.heap.size)(hF:∀k,F k->B<=k):Below B w w':=
 ⟨h.os,h.tape,h.output,h.size,fun k hk=>h.block k (Nat.lt_of_lt_of_le hk hB) (fun hf=>by have:=hF k hf;omega)⟩
theorem BD.low{α:Type}[Lay α]{W:World}{B:Nat}{v:Value}{xs:List α}(h:BD W B v xs)(k:Nat)(hk:v.ownBlock=some k):k<W.heap.size:=by
 rcases h with⟨rfl,rfl⟩|⟨g,cap,rfl,_,h⟩
 .simp[Value.ownBlock]at hk
 .simp only[Value.ownBlock,Option.some.injEq]at hk;rw[<-hk];exact h.lt
theorem BD.grown{α:Type}[Lay α]{W V:World}{B:Nat}{v:Value}{xs:List α}(h:BD W B v xs){r:Option Nat}(hg:W.grownBy V r)(hr:∀k,v.ownBlock=some k->some k≠r):BD V B v xs:=by
 rcases h with h|⟨g,cap,rfl,hB,h⟩
 .exact .inl h
 .obtain⟨rest,h1,h2⟩:=h;have hlt:=(Array.getElem?_eq_some_iff.1 h1).1;exact .inr ⟨g,cap,rfl,hB,rest,(hg.block g hlt (hr g rfl)).trans h1,h2⟩
theorem BJ{w:World}{a:Addr}{v:Value}(h:w.cell? a=some v):w.setCell a v=w:=by
 obtain⟨heap,tape,drawn,os,output⟩:=w;simp only[World.setCell,World.cell?]at*
 congr 1
 apply Array.ext_getElem?
 intro k;rw[Array.getElem?_modify];by_cases hk:a.block=k
 .subst hk;simp only[if_true]
  cases ho:heap[a.block]? with
  |none=>rfl
  |some o=>
   rw[ho]at h
   cases o with
   |cells c e fz=>
    simp only at h;by_cases hs:a.spot.isSome=true
    .simp[hs]at h
    .simp only[hs]at h;simp[hs];have hlt:a.off<c.size:=(Array.getElem?_eq_some_iff.1 (by simpa using h)).1;have hv:c[a.off]=v:=(Array.getElem?_eq_some_iff.1 (by simpa using h)).2;rw[<-hv];simp[Array.setIfInBounds,hlt]
   |_=>simp at h
 .simp[hk]
theorem BK{W V:World}(h:Below W.drew.heap.size W.drew V):B0 W V:=((Below.refl _ W).drew).trans h
theorem CA0:(Tryz.prog.info? 67).map (fun i=>(i.zero,i.size,i.bytes))=some (some (.agg #[I0 0,.string ⟨#[]⟩]),2,24):=by kernel_rfl
theorem CN4:∃i0,Tryz.prog.info? 67=some i0/\i0.zero=some (.agg #[I0 0,.string ⟨#[]⟩])/\i0.size=2/\i0.bytes=24:=by
 obtain⟨i0,h,e⟩:=Option.map_eq_some_iff.1 CA0;simp only[Prod.mk.injEq]at e;exact⟨i0,h,e⟩
theorem O7{α:Type}[Lay α]{W:World}{g:Nat}{x:α}(h:EW W g x)(j:Nat)(u:Value)(hj:(Lay.cs x)[j]?=some u):W.cell? ((⟨g,0,none⟩:Addr).add j)=some u:=by
 rw[Addr.add_lit];exact h.row j u hj
theorem wG(w:World)(k:Int)(p:List UInt8):EW (w.alloc (.cells #[I0 k,S0 p] 67)) w.heap.size (⟨k,p⟩:Ev):=heap_alloc_new w _
def DW(t:AQ):Value:=.agg #[I0 t.z,I0 t.o,I0 t.s,S0 t.p,S0 t.d,I0 t.v,I0 t.w]
def J3(t:AQ):List Value:=[I0 t.z,I0 t.o,I0 t.s,S0 t.p,S0 t.d,I0 t.v,I0 t.w]
def FH:List AQ->List Value
 |[]=>[]
 |t::r=>J3 t++FH r
theorem XP:∀ts:List AQ,(FH ts).length=ts.length*7
 |[]=>rfl
 |t::r=>by rw[FH,List.length_append,XP r];simp[J3];omega
theorem O9:∀a b:List AQ,FH (a++b)=FH a++FH b
 |[],_=>rfl
 |t::r,b=>by rw[List.cons_append,FH,FH,O9 r b,List.append_assoc]
theorem wI(a:List AQ)(t:AQ):FH (a++[t])=FH a++J3 t:=by rw[O9,FH,FH,List.append_nil]
theorem KG:∀ (ts:List AQ) (i:Nat) (t:AQ),ts[i]?=some t->∀c,c<7->(FH ts)[i*7+c]?=(J3 t)[c]?
 |[],i,t,h,_,_=>by simp at h
 |x::r,0,t,h,c,hc=>by
  simp at h;subst h;rw[FH,List.getElem?_append_left (by simp[J3];omega)];simp
 |x::r,i+1,t,h,c,hc=>by
  rw[FH,List.getElem?_append_right (by simp[J3];omega),<-KG r i t (by simpa using h) c hc]
  congr 1
  simp[J3];omega
theorem jO(t:AQ):∀u∈J3 t,u.oneCell'=true:=by
 intro u hu;simp[J3]at hu;rcases hu with rfl|rfl|rfl|rfl|rfl|rfl|rfl<;>rfl
theorem BL.z{w:World}{b off:Nat}{ts:List AQ}(h:BL w b off (FH ts)){i:Nat}{t:AQ}(hi:ts[i]?=some t):w.cell? ⟨b,off+i*7,none⟩=some (I0 t.z):=
 h (i*7) _ (by have:=KG ts i t hi 0 (by omega);simpa [J3]using this)
theorem BL.o{w:World}{b off:Nat}{ts:List AQ}(h:BL w b off (FH ts)){i:Nat}{t:AQ}(hi:ts[i]?=some t):w.cell? ⟨b,off+i*7+1,none⟩=some (I0 t.o):=by
 rw[Nat.add_assoc];exact h (i*7+1) _ (by have:=KG ts i t hi 1 (by omega);simpa [J3]using this)
theorem BL.s{w:World}{b off:Nat}{ts:List AQ}(h:BL w b off (FH ts)){i:Nat}{t:AQ}(hi:ts[i]?=some t):w.cell? ⟨b,off+i*7+2,none⟩=some (I0 t.s):=by
 rw[Nat.add_assoc];exact h (i*7+2) _ (by have:=KG ts i t hi 2 (by omega);simpa [J3]using this)
theorem BL.p{w:World}{b off:Nat}{ts:List AQ}(h:BL w b off (FH ts)){i:Nat}{t:AQ}(hi:ts[i]?=some t):w.cell? ⟨b,off+i*7+3,none⟩=some (S0 t.p):=by
 rw[Nat.add_assoc];exact h (i*7+3) _ (by have:=KG ts i t hi 3 (by omega);simpa [J3]using this)
theorem BL.d{w:World}{b off:Nat}{ts:List AQ}(h:BL w b off (FH ts)){i:Nat}{t:AQ}(hi:ts[i]?=some t):w.cell? ⟨b,off+i*7+4,none⟩=some (S0 t.d):=by
 rw[Nat.add_assoc];exact h (i*7+4) _ (by have:=KG ts i t hi 4 (by omega);simpa [J3]using this)
theorem BL.v{w:World}{b off:Nat}{ts:List AQ}(h:BL w b off (FH ts)){i:Nat}{t:AQ}(hi:ts[i]?=some t):w.cell? ⟨b,off+i*7+5,none⟩=some (I0 t.v):=by
 rw[Nat.add_assoc];exact h (i*7+5) _ (by have:=KG ts i t hi 5 (by omega);simpa [J3]using this)
theorem BL.w{w:World}{b off:Nat}{ts:List AQ}(h:BL w b off (FH ts)){i:Nat}{t:AQ}(hi:ts[i]?=some t):w.cell? ⟨b,off+i*7+6,none⟩=some (I0 t.w):=by
 rw[Nat.add_assoc];exact h (i*7+6) _ (by have:=KG ts i t hi 6 (by omega);simpa [J3]using this)
def J8(w:World)(v:Value)(ts:List AQ):Prop:=
 (∃a cap,v=.slice a 0 cap/\ts=[]/\cap<=maxLen)\/
 ∃b off cap,v=.slice (some ⟨b,off,none⟩) ts.length cap/\ts.length<=cap/\cap<=maxLen/\b<w.heap.size/\ts≠[]/\BL w b off (FH ts)
theorem J8.kept{w w':World}{B:Nat}{v:Value}{ts:List AQ}(h:J8 w v ts)(hb:Below B w w')(hB:w.heap.size<=B):J8 w' v ts:=by
 rcases h with h|⟨b,off,cap,rfl,h1,h2,h3,h0,h4⟩
 .exact .inl h
 .exact .inr ⟨b,off,cap,rfl,h1,h2,Nat.lt_of_lt_of_le h3 hb.size,h0,h4.kept hb (Nat.lt_of_lt_of_le h3 hB)⟩
theorem J8.next{w w':World}{v:Value}{ts:List AQ}(h:J8 w v ts)(hb:B0 w w'):J8 w' v ts:=h.kept hb (Nat.le_refl _)
theorem J8.drew{w:World}{v:Value}{ts:List AQ}(h:J8 w v ts):J8 w.drew v ts:=h.next (Below.refl _ _).drew
theorem J8.nil(w:World):J8 w (N0) []:=.inl ⟨none,0,rfl,rfl,by decide⟩
theorem IC{w:World}{v:Value}{ts:List AQ}(hv:J8 w v ts):∃a c,v=.slice a ts.length c:=by
 rcases hv with⟨a,cap,rfl,rfl,_⟩|⟨b,off,cap,rfl,_⟩
 .exact⟨_,_,rfl⟩
 .exact⟨_,_,rfl⟩
theorem RH{w:World}{v:Value}{ts:List AQ}(hv:J8 w v ts){i:Nat}{t:AQ}(hi:ts[i]?=some t):
  ∃b off cap,v=.slice (some ⟨b,off,none⟩) ts.length cap/\b<w.heap.size/\BL w b off (FH ts)/\i<ts.length/\ts.length<=cap/\cap<=maxLen:=by
 have hlt:=(List.getElem?_eq_some_iff.1 hi).1;rcases hv with⟨a,cap,rfl,rfl,_⟩|⟨b,off,cap,rfl,h1,h2,hb,_,hr⟩
 .simp at hi
 .exact⟨b,off,cap,rfl,hb,hr,hlt,h1,h2⟩
def iP(W:World)(B:Nat)(v:Value)(ts:List AQ):Prop:=W.ownsRow B 49 7 v ts.length (FH ts)
theorem iP.nil(W:World)(B:Nat):iP W B (N0) []:=⟨rfl,.inl ⟨rfl,rfl⟩⟩
theorem iP.log{W:World}{B:Nat}{v:Value}{ts:List AQ}(h:iP W B v ts):J8 W v ts:=by
 obtain⟨hl,⟨rfl,h0⟩|⟨g,cap,cur,rfl,hB,hg,hn,hm,hs,ht⟩⟩:=h
 .rw[List.eq_nil_of_length_eq_zero h0];exact J8.nil W
 .by_cases h0:ts=[]
  .subst h0;exact .inl ⟨_,cap,rfl,rfl,hm⟩
  .refine .inr ⟨g,0,cap,rfl,hn,hm,(Array.getElem?_eq_some_iff.1 hg).1,h0,fun j v hj=>?_⟩;have hlt:j<(FH ts).length:=(List.getElem?_eq_some_iff.1 hj).1;have:cur[j]?=some v:=by
    rw[<-ht,List.getElem?_take_of_lt (by rw[hl]at hlt;exact hlt)]at hj;simpa using hj
   simp[World.cell?,hg,this]
theorem iP.next{W V:World}{B:Nat}{v:Value}{ts:List AQ}(h:iP W B v ts)(hb:B0 W V):iP V B v ts:=by
 obtain⟨hl,h|⟨g,cap,cur,e,hB,hg,hr⟩⟩:=h
 .exact⟨hl,.inl h⟩
 .exact⟨hl,.inr ⟨g,cap,cur,e,hB,(hb.block _ (Array.getElem?_eq_some_iff.1 hg).1).trans hg,hr⟩⟩
theorem AB6{W:World}{B:Nat}{v:Value}{ts:List AQ}(h:iP W B v ts):∃a c,v=.slice a ts.length c:=IC h.log
theorem AB7{W:World}{B:Nat}{v:Value}{ts:List AQ}(h:iP W B v ts):∀k,v.ownBlock=some k->B<=k/\k<W.heap.size:=World.ownsRow.lt h
theorem iP.more{W:World}{B:Nat}{v:Value}{ts:List AQ}{t:AQ}(h:W.ownsRow B 49 7 v (ts.length+1) (FH ts++J3 t)):iP W B v (ts++[t]):=by
 unfold iP;rw[wI,List.length_append];exact h
def TAt(W:World)(g:Nat)(t:AQ):Prop:=W.heap[g]?=some (.cells #[I0 t.z,I0 t.o,I0 t.s,S0 t.p,S0 t.d,I0 t.v,I0 t.w] 49 (0,0))
theorem TAt.new(W:World)(t:AQ):TAt (W.alloc (.cells #[I0 t.z,I0 t.o,I0 t.s,S0 t.p,S0 t.d,I0 t.v,I0 t.w] 49)) W.heap.size t:=heap_alloc_new W _
theorem TAt.next{W V:World}{g:Nat}{t:AQ}(h:TAt W g t)(hb:B0 W V):TAt V g t:=(hb.block g (by unfold TAt at h;exact(Array.getElem?_eq_some_iff.1 h).1)).trans h
theorem TAt.lt{W:World}{g:Nat}{t:AQ}(h:TAt W g t):g<W.heap.size:=by unfold TAt at h;exact(Array.getElem?_eq_some_iff.1 h).1
theorem TAt.c0{W:World}{g:Nat}{t:AQ}(h:TAt W g t):W.cell? ⟨g,0,none⟩=some (I0 t.z):=by unfold TAt at h;simp[World.cell?,h]
theorem TAt.c1{W:World}{g:Nat}{t:AQ}(h:TAt W g t):W.cell? ⟨g,1,none⟩=some (I0 t.o):=by unfold TAt at h;simp[World.cell?,h]
theorem TAt.c2{W:World}{g:Nat}{t:AQ}(h:TAt W g t):W.cell? ⟨g,2,none⟩=some (I0 t.s):=by unfold TAt at h;simp[World.cell?,h]
theorem TAt.c3{W:World}{g:Nat}{t:AQ}(h:TAt W g t):W.cell? ⟨g,3,none⟩=some (S0 t.p):=by unfold TAt at h;simp[World.cell?,h]
theorem TAt.c4{W:World}{g:Nat}{t:AQ}(h:TAt W g t):W.cell? ⟨g,4,none⟩=some (S0 t.d):=by unfold TAt at h;simp[World.cell?,h]
theorem TAt.c5{W:World}{g:Nat}{t:AQ}(h:TAt W g t):W.cell? ⟨g,5,none⟩=some (I0 t.v):=by unfold TAt at h;simp[World.cell?,h]
theorem TAt.c6{W:World}{g:Nat}{t:AQ}(h:TAt W g t):W.cell? ⟨g,6,none⟩=some (I0 t.w):=by unfold TAt at h;simp[World.cell?,h]
theorem TAt.f{W:World}{g:Nat}{t:AQ}(h:TAt W g t)(j:Nat):W.frozen? ⟨g,j,none⟩=false:=by unfold TAt at h;simp[World.frozen?,h]
theorem AQ4:(Tryz.prog.info? 49).map (fun i=>(i.zero,i.size,i.bytes))=some (some (DW t0),7,72):=by kernel_rfl
theorem lW:∃i0,Tryz.prog.info? 49=some i0/\i0.zero=some (DW t0)/\i0.size=7/\i0.bytes=72:=by
 obtain⟨i0,h,e⟩:=Option.map_eq_some_iff.1 AQ4;simp only[Prod.mk.injEq]at e;exact⟨i0,h,e.1,e.2.1,e.2.2⟩
instance layX:Lay AQ:=⟨7,J3,49,fun _=>rfl,fun x u hu=>jO x u hu⟩
theorem BB5(ts:List AQ):AO ts=FH ts:=by
 induction ts with
 |nil=>rfl
 |cons f r ih=>rw[F7,ih];rfl
theorem FV{w:World}{v:Value}{ts:List AQ}:BQ w v ts↔J8 w v ts:=by unfold BQ J8;rw[BB5]
end Go.Proofs.YtenkgjfahcgppaaGreatDoor
