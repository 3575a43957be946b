/-
  Part.
-/
import Derived.WalkKit
import Derived.Lib.IndexLaws
import Derived.Laws.Cover1
import Derived.Test.YtnlikdglijgjpaaGreatDoorProg
import Derived.Deep.LoopGhost
import Derived.Lib.QuietBelow
set_option maxRecDepth 20000
set_option maxHeartbeats 8000000
namespace Go.Proofs.YtnlikdglijgjpaaGreatDoor
open Go.RowKit
abbrev I0 (x:Int):Value:=.int .i64 x
abbrev S0 (l:List UInt8):Value:=.string ⟨l.toArray⟩
abbrev N0:Value:=.slice none 0 0
abbrev P0 (k:Nat):Value:=.pointer (some ⟨k,0,none⟩)
abbrev R0 (w:World)(x:Value):Ending->World->Prop:=fun e w'=>e=.returned x/\Below w.heap.size w w'
abbrev B0 (w W:World):Prop:=Below w.heap.size w W
theorem G7{p:Prop}(h:p):Hid p:=h
theorem G6{p:Prop}(h:Hid p):p:=h
def TJ(c:UInt8):Bool:=(decide (97<=c.toNat)&&decide (c.toNat<=122))||(decide (48<=c.toNat)&&decide (c.toNat<=57))||c.toNat==45||c.toNat==95
def JA(l:List UInt8):Bool:=decide (1<=l.length)&&decide (l.length<=40)&&l.all TJ
theorem iF(s:ByteArray)(k:Nat)(h:k<s.size):s.data.toList.take (k+1)=s.data.toList.take k++[s[k]]:=by
 rw[List.take_succ_eq_append_getElem (by simpa using h)];rfl
theorem UG(s:ByteArray)(k:Nat)(h:k<s.size)(p:UInt8->Bool)(h1:(s.data.toList.take k).all p=true)(h2:p s[k]=true):(s.data.toList.take (k+1)).all p=true:=by
 rw[iF s k h,List.all_append,h1];simpa using h2
theorem YM(s:ByteArray)(k:Nat)(h:s.size<=k)(p:UInt8->Bool)(h1:(s.data.toList.take k).all p=true):s.data.toList.all p=true:=by
 rwa[List.take_of_length_le (by simpa using h)]at h1
theorem bP(s:ByteArray)(k:Nat)(h:k<s.size)(p:UInt8->Bool)(h2:p s[k]=false):s.data.toList.all p=false:=by
 rw[List.all_eq_false];exact⟨s[k],by have:s[k]∈s.data:=Array.getElem_mem h;simpa using this,by simp[h2]⟩
theorem ZG(s:ByteArray):s.data.toList.length=s.size:=by simp
theorem sJ(s:ByteArray)(h:s.size<1):JA s.data.toList=false:=by
 simp only[JA,ZG,show ¬1<=s.size from by omega,decide_false,Bool.false_and]
theorem yJ(s:ByteArray)(h:40<s.size):JA s.data.toList=false:=by
 simp only[JA,ZG,show ¬s.size<=40 from by omega,decide_false,Bool.and_false,Bool.false_and]
theorem lV(s:ByteArray)(h:1<=s.size)(h':s.size<=40):JA s.data.toList=s.data.toList.all TJ:=by
 simp only[JA,ZG,h,h',decide_true,Bool.true_and]
def KL(z:Int):Bool:=decide (0<=z)&&decide (z<4611686018427387904)
def zIn(n:Int):Bool:=decide (0<=n)&&decide (n<2147483648)
def IY(z:Int):Int:=if KL z then z/2147483648 else 0
def lW(z:Int):Int:=if KL z then z%2147483648 else 0
def KY(e c:Int):Int:=if zIn e&&zIn c then e*2147483648+c else 0
def NM(e c:Int):Int:=if zIn e&&zIn c then 0 else 3
def iG(z:Int):Int:=if KL z&&zIn (z%2147483648+1)then z+1 else 0
def VP(z:Int):Int:=if KL z then(if zIn (z%2147483648+1)then 0 else 6)else 3
theorem LY{z:Int}:KL z=true↔0<=z/\z<4611686018427387904:=by simp[KL]
theorem PK{z:Int}:zIn z=true↔0<=z/\z<2147483648:=by simp[zIn]
theorem A58{z:Int}(h:¬ (0<=z/\z<2147483648)):zIn z=false:=by
 cases hg:zIn z with
 |false=>rfl
 |true=>exact absurd (PK.1 hg) h
theorem LZ{z:Int}(h:KL z=true):IY z=z/2147483648:=by rw[IY,if_pos h]
theorem sK{z:Int}(h:KL z=false):IY z=0:=by rw[IY,h];rfl
theorem XI{z:Int}(h:KL z=true):lW z=z%2147483648:=by rw[lW,if_pos h]
theorem AR5{z:Int}(h:KL z=false):lW z=0:=by rw[lW,h];rfl
theorem TP{e c:Int}(he:zIn e=true)(hc:zIn c=true):KY e c=e*2147483648+c/\NM e c=0:=by
 constructor<;>simp[KY,NM,he,hc]
theorem fM{e c:Int}(h:zIn e=false\/zIn c=false):KY e c=0/\NM e c=3:=by
 rcases h with h|h<;>constructor<;>simp[KY,NM,h]
theorem AR6{z:Int}(h:KL z=false):iG z=0/\VP z=3:=by constructor<;>simp[iG,VP,h]
theorem AF6{z:Int}(h:KL z=true)(h1:zIn (z%2147483648+1)=false):iG z=0/\VP z=6:=by constructor<;>simp[iG,VP,h,h1]
theorem oO{z:Int}(h:KL z=true)(h1:zIn (z%2147483648+1)=true):iG z=z+1/\VP z=0:=by constructor<;>simp[iG,VP,h,h1]
theorem sN(n:Int)(h₀:0<=n)(h₁:n<2^63):IntKind.i64.wrap n=n:=by rw[IntKind.wrap_i64];omega
theorem BY4{e c:Int}(he:0<=e)(he1:e<2147483648)(hc:0<=c)(hc1:c<2147483648):bits .or .i64 (e*2147483648) c=e*2147483648+c:=
 bits_join .i64 63 (by decide) sN 31 (e*2147483648) c (by omega) (by omega) (by omega) hc (by omega) (by omega)
theorem BD4{z:Int}(h:0<=z)(h1:z<4611686018427387904):bits .and .i64 z 2147483647=z%2147483648:=
 bits_mask .i64 63 (by decide) sN 31 (by decide) z h (by omega)
theorem oP{a b:Int}(h:a=b):Ending.returned (I0 a)=.returned (I0 b):=by rw[h]
theorem OV{a b i j:Int}(h:a=b)(h':i=j):Ending.returned (.tuple #[I0 a,I0 i])=.returned (.tuple #[I0 b,I0 j]):=by rw[h,h']
def MZ:List UInt8->List (List UInt8)
 |[]=>[[]]
 |c::l=>if c=47 then []::MZ l else match MZ l with
  |[]=>[[c]]
  |p::ps=>(c::p)::ps
theorem AR7(l:List UInt8):MZ l≠[]:=by
 cases l with
 |nil=>simp[MZ]
 |cons c l=>
  simp only[MZ]
  split
  .simp
  .split<;>simp
theorem dV(l:List UInt8):MZ (47::l)=[]::MZ l:=by simp[MZ]
theorem VQ{c:UInt8}(h:c≠47){l p:List UInt8}{ps:List (List UInt8)}(hl:MZ l=p::ps):MZ (c::l)=(c::p)::ps:=by
 simp[MZ,h,hl]
theorem iH:∀l:List UInt8,Lib.indexByte l 47=-1->MZ l=[l]
 |[],_=>rfl
 |c::l,h=>by
  have h1:(c==47)=false:=by
   cases hc:(c==47)with
   |false=>rfl
   |true=>rw[Lib.indexByte,if_pos hc]at h;exact absurd h (by decide)
  have h2:Lib.indexByte l 47=-1:=by
   by_cases h3:(Lib.indexByte l 47==-1)=true
   .simpa using h3
   .rw[Lib.indexByte,if_neg (by simp[h1]),if_neg h3]at h;have:=Lib.indexByte_ge l 47;omega
  exact VQ (by simpa using h1) (iH l h2)
theorem iI:∀ (l:List UInt8) (i:Nat),Lib.indexByte l 47=i->i<l.length/\MZ l=l.take i::MZ (l.drop (i+1))
 |[],i,h=>by simp[Lib.indexByte]at h
 |c::l,i,h=>by
  by_cases hc:(c==47)=true
  .rw[Lib.indexByte,if_pos hc]at h;have hi:i=0:=by omega
   subst hi;have:c=47:=by simpa using hc
   subst this;exact⟨by simp,by simp[dV]⟩
  .have hc':c≠47:=by simpa using hc
   by_cases h3:(Lib.indexByte l 47==-1)=true
   .rw[Lib.indexByte,if_neg hc,if_pos h3]at h;omega
   .rw[Lib.indexByte,if_neg hc,if_neg h3]at h;have hge:=Lib.indexByte_ge l 47;have hne:Lib.indexByte l 47≠ -1:=by simpa using h3
    obtain⟨j,rfl⟩:∃j,i=j+1:=⟨i-1,by omega⟩;obtain⟨h4,h5⟩:=iI l j (by omega);exact⟨by simp;omega,by rw[VQ hc' h5];simp⟩
theorem iJ(l:List UInt8):Lib.indexByte l 47=-1\/∃i:Nat,Lib.indexByte l 47=i:=by
 have:=Lib.indexByte_ge l 47;by_cases h:Lib.indexByte l 47=-1
 .exact .inl h
 .exact .inr ⟨(Lib.indexByte l 47).toNat,by omega⟩
theorem oQ(l:List UInt8):∀p∈MZ l,p.length<=l.length:=by
 induction l with
 |nil=>intro p hp;simp[MZ]at hp;simp[hp]
 |cons c l ih=>
  intro p hp;by_cases hc:c=47
  .subst hc;rw[dV]at hp;rcases List.mem_cons.1 hp with rfl|h
   .simp
   .have:=ih p h;simp;omega
  .cases hl:MZ l with
   |nil=>exact absurd hl (AR7 l)
   |cons q qs=>
    rw[VQ hc hl]at hp;rcases List.mem_cons.1 hp with rfl|h
    .have:=ih q (by rw[hl];simp);simp;omega
    .have:=ih p (by rw[hl];simp[h]);simp;omega
def YA(l:List UInt8):List (List UInt8):=if l=[47]then []else MZ (Lib.trimPrefix l [47])
def J4(l:List UInt8):Bool:=decide (l.length<=200)&&Lib.hasPrefix l [47]&&(YA l).all JA
def CE9(c:Nat):Nat:=(c/2)^^^(3988292384*(c%2))
def BU6:Nat->Nat->Nat
 |0,c=>c
 |n+1,c=>CE9 (BU6 n c)
def CQ4(c:Nat)(b:UInt8):Nat:=BU6 8 (c^^^b.toNat)
def BD5(l:List UInt8):Nat:=l.foldl CQ4 4294967295
def A59(l:List UInt8):Nat:=4294967295^^^BD5 l
theorem AR8:(2:Nat)^32=4294967296:=by decide
theorem ZH{a b:Nat}(ha:a<4294967296)(hb:b<4294967296):a^^^b<4294967296:=by
 have h:=Nat.xor_lt_two_pow (n:=32) (x:=a) (y:=b) (by rw[AR8];exact ha) (by rw[AR8];exact hb);rwa[AR8]at h
theorem BY5{c:Nat}(h:c<4294967296):CE9 c<4294967296:=by
 unfold CE9;refine ZH (by omega) ?_;rcases Nat.mod_two_eq_zero_or_one c with e|e<;>rw[e]<;>decide
theorem yK{c:Nat}(h:c<4294967296):∀n,BU6 n c<4294967296
 |0=>h
 |n+1=>BY5 (yK h n)
theorem AR9(b:UInt8):b.toNat<4294967296:=by have:=b.toNat_lt;omega
theorem BY6{c:Nat}(h:c<4294967296)(b:UInt8):CQ4 c b<4294967296:=yK (ZH h (AR9 b)) 8
theorem BD6(l:List UInt8):∀c,c<4294967296->l.foldl CQ4 c<4294967296:=by
 induction l with
 |nil=>intro c h;exact h
 |cons b l ih=>intro c h;exact ih _ (BY6 h b)
theorem AS0(l:List UInt8):BD5 l<4294967296:=BD6 l _ (by decide)
theorem AS1(l:List UInt8):A59 l<4294967296:=ZH (by decide) (AS0 l)
theorem AS2(l:List UInt8)(b:UInt8):BD5 (l++[b])=CQ4 (BD5 l) b:=by simp[BD5]
theorem sO(n:Int)(h₀:0<=n)(h₁:n<2^32):IntKind.u32.wrap n=n:=by rw[IntKind.wrap_u32];omega
theorem sQ(k:IntKind)(j:Nat)(hj:j<=k.bits)(hk:∀n:Int,0<=n->n<2^j->k.wrap n=n)(a b:Nat)(ha:a<2^j)(hb:b<2^j):bits .xor k a b=((a^^^b:Nat):Int):=by
 have hp:2^j<=2^k.bits:=Nat.pow_le_pow_right (by decide) hj;have ha':a%2^k.bits=a:=Nat.mod_eq_of_lt (Nat.lt_of_lt_of_le ha hp);have hb':b%2^k.bits=b:=Nat.mod_eq_of_lt (Nat.lt_of_lt_of_le hb hp);simp only[bits,BitVec.ofInt_natCast,BitVec.toNat_xor,BitVec.toNat_ofNat,ha',hb'];exact hk _ (Int.natCast_nonneg _) (by exact_mod_cast Nat.xor_lt_two_pow ha hb)
theorem yL{a b:Nat}(ha:a<4294967296)(hb:b<4294967296):bits .xor .u32 a b=((a^^^b:Nat):Int):=
 sQ .u32 32 (by decide) sO a b (by rw[AR8];exact ha) (by rw[AR8];exact hb)
theorem BD7{a:Nat}(ha:a<4294967296):bits .and .u32 a 1=((a%2:Nat):Int):=by
 have h:=bits_mask .u32 32 (by decide) sO 1 (by decide) (a:Int) (by omega) (by omega)
 exact_mod_cast h
def be:Nat->Nat->List UInt8
 |0,_=>[]
 |k+1,n=>be k (n/256)++[UInt8.ofNat n]
def un(l:List UInt8):Nat:=l.foldl (fun a b=>a*256+b.toNat) 0
theorem IG:∀k n,(be k n).length=k
 |0,_=>rfl
 |k+1,n=>by rw[be,List.length_append,IG k];rfl
theorem yM(l:List UInt8)(b:UInt8):un (l++[b])=un l*256+b.toNat:=by simp[un]
theorem iK:∀k n,n<256^k->un (be k n)=n
 |0,n,h=>by
  have:n=0:=by simpa using h
  subst this;rfl
 |k+1,n,h=>by
  rw[be,yM,iK k (n/256) (by rw[Nat.pow_succ]at h;omega)];have:(UInt8.ofNat n).toNat=n%256:=by simp
  omega
theorem BD8(l:List UInt8):un l<256^l.length:=by
 induction h:l.length generalizing l with
 |zero=>obtain rfl:=List.eq_nil_of_length_eq_zero h;decide
 |succ k ih=>
  rcases List.eq_nil_or_concat l with rfl|⟨a,b,rfl⟩
  .simp at h
  .rw[List.concat_eq_append]at h⊢;have hk:a.length=k:=by simpa using h
   have h1:=ih a hk;have h2:=b.toNat_lt;rw[yM,Nat.pow_succ];omega
structure GK where
 z:Int
 o:Int
 s:Int
 p:List UInt8
 d:List UInt8
 v:Int
 w:Int
def t0:GK:=⟨0,0,0,[],[],0,0⟩
def yN(n least:Int):Bool:=decide (least<=n)&&decide (n<=2147483647)
theorem UH{n k:Int}:yN n k=true↔k<=n/\n<=2147483647:=by simp[yN]
def opB(o:Int):Bool:=decide (1<=o)&&decide (o<=5)
theorem iL{o:Int}:opB o=true↔1<=o/\o<=5:=by simp[opB]
def BD0(t:GK):Bool:=KL t.z&&yN t.s 1&&yN t.v 0&&yN t.w 0
theorem oU{t:GK}:BD0 t=true↔KL t.z=true/\yN t.s 1=true/\yN t.v 0=true/\yN t.w 0=true:=by simp[BD0,and_assoc]
def fmB(t:GK):Bool:=
 if t.o=3 then J4 t.p&& !(t.p==[47])&&t.v==0
 else if t.o=4 then J4 t.p&& !(t.p==[47])&&t.d==[]&&t.v==0&&t.w==0
 else if t.o=5 then J4 t.p&&t.w==0
 else t.p==[]&&t.d==[]&&t.v==0&&t.w==0
def gdE(t:GK):Int:=
 if opB t.o then(if BD0 t then(if t.d.length<=256 then(if fmB t then 0 else 2)else 1)else 3)else 4
theorem BD9{t:GK}(h:opB t.o=false):gdE t=4:=by simp[gdE,h]
theorem ZI{t:GK}(h:opB t.o=true)(h1:BD0 t=false):gdE t=3:=by simp[gdE,h,h1]
theorem BE0{t:GK}(h:opB t.o=true)(h1:BD0 t=true)(h2:256<t.d.length):gdE t=1:=by
 simp[gdE,h,h1,show ¬t.d.length<=256 from by omega]
theorem BE1{t:GK}(h:opB t.o=true)(h1:BD0 t=true)(h2:t.d.length<=256)(h3:fmB t=false):gdE t=2:=by simp[gdE,h,h1,h2,h3]
theorem CF0{t:GK}(h:opB t.o=true)(h1:BD0 t=true)(h2:t.d.length<=256)(h3:fmB t=true):gdE t=0:=by simp[gdE,h,h1,h2,h3]
theorem fO{t:GK}(h:gdE t=0):opB t.o=true/\BD0 t=true/\t.d.length<=256/\fmB t=true:=by
 unfold gdE at h
 split at h
 .split at h
  .split at h
   .split at h
    .exact⟨‹_›,‹_›,‹_›,‹_›⟩
    .exact absurd h (by decide)
   .exact absurd h (by decide)
  .exact absurd h (by decide)
 .exact absurd h (by decide)
theorem yO{p:List UInt8}(h:J4 p=true):p.length<=200:=by
 unfold J4 at h;simp only[Bool.and_eq_true,decide_eq_true_eq]at h;exact h.1.1
theorem BU7{t:GK}(h:fmB t=true):t.p.length<=200:=by
 unfold fmB at h
 split at h
 .simp only[Bool.and_eq_true]at h;exact yO h.1.1
 .split at h
  .simp only[Bool.and_eq_true]at h;exact yO h.1.1.1.1
  .split at h
   .simp only[Bool.and_eq_true]at h;exact yO h.1
   .simp only[Bool.and_eq_true,beq_iff_eq]at h;rw[h.1.1.1];decide
theorem VR{t:GK}(h:gdE t=0):(0<=t.z/\t.z<4611686018427387904)/\(1<=t.o/\t.o<=5)/\(1<=t.s/\t.s<=2147483647)/\(0<=t.v/\t.v<=2147483647)/\(0<=t.w/\t.w<=2147483647)/\t.p.length<=200/\t.d.length<=256:=by
 obtain⟨h1,h2,h3,h4⟩:=fO h;obtain⟨a,b,c,d⟩:=oU.1 h2;exact⟨LY.1 a,iL.1 h1,UH.1 b,UH.1 c,UH.1 d,BU7 h4,h3⟩
def QN(t:GK):List UInt8:=
 be 8 t.z.toNat++(be 1 t.o.toNat++(be 4 t.s.toNat++(be 4 t.v.toNat++(be 4 t.w.toNat++(be 1 t.p.length++(t.p++(be 2 t.d.length++t.d)))))))
def MQ(b:List UInt8):List UInt8:=84::(be 2 b.length++b)
def QO(t:GK):List UInt8:=MQ (QN t)++be 4 (A59 (MQ (QN t)))
theorem QE(t:GK):(QN t).length=24+t.p.length+t.d.length:=by
 simp only[QN,List.length_append,IG];omega
theorem UJ(b:List UInt8):(MQ b).length=b.length+3:=by
 simp only[MQ,List.length_cons,List.length_append,IG];omega
theorem UK(t:GK):(QO t).length=31+t.p.length+t.d.length:=by
 simp only[QO,List.length_append,IG,UJ,QE];omega
def XJ(b:List UInt8):Nat:=un ((b.drop 21).take 1)
def yE(b:List UInt8):Nat:=un ((b.drop (22+XJ b)).take 2)
def tOf(b:List UInt8):GK:=
 ⟨wrap64 (un (b.take 8)),un ((b.drop 8).take 1),un ((b.drop 9).take 4),(b.drop 22).take (XJ b),b.drop (24+XJ b),un ((b.drop 13).take 4),un ((b.drop 17).take 4)⟩
def BD1(b:List UInt8):Bool:=decide (24+XJ b<=b.length)&&decide (b.length=24+XJ b+yE b)
def rZ(b:List UInt8):Int:=if BD1 b then gdE (tOf b)else 2
def AS3(b:List UInt8):GK:=if rZ b=0 then tOf b else t0
def lenOf(s:List UInt8):Nat:=un ((s.drop 1).take 2)
def VT(s:List UInt8):Bool:=s.take 1==[84]&&decide (lenOf s<=1024)&&decide (lenOf s+7<=s.length)
def AS4(s:List UInt8):Bool:=un ((s.drop (lenOf s+3)).take 4)==A59 (s.take (lenOf s+3))
def UL(s:List UInt8):List UInt8:=(s.drop 3).take (lenOf s)
def bQ(s:List UInt8):Int:=if VT s then(if AS4 s then rZ (UL s)else 5)else 2
def lX(s:List UInt8):GK:=if bQ s=0 then tOf (UL s)else t0
def sD(s:List UInt8):Int:=if bQ s=0 then(lenOf s+7:Nat)else 0
theorem bT{s:List UInt8}(h:VT s=false):bQ s=2/\lX s=t0/\sD s=0:=by
 have e:bQ s=2:=by simp[bQ,h]
 exact⟨e,by simp[lX,e],by simp[sD,e]⟩
theorem BY7{s:List UInt8}(h:VT s=true)(h1:AS4 s=false):bQ s=5/\lX s=t0/\sD s=0:=by
 have e:bQ s=5:=by simp[bQ,h,h1]
 exact⟨e,by simp[lX,e],by simp[sD,e]⟩
theorem BE2{s:List UInt8}(h:VT s=true)(h1:AS4 s=true){e:Int}(h2:rZ (UL s)=e)(h3:e≠0):bQ s=e/\lX s=t0/\sD s=0:=by
 have e:bQ s=e:=by simp[bQ,h,h1,h2]
 exact⟨e,by rw[lX,e,if_neg h3],by rw[sD,e,if_neg h3]⟩
theorem BU8{s:List UInt8}(h:VT s=true)(h1:AS4 s=true)(h2:rZ (UL s)=0):bQ s=0/\lX s=tOf (UL s)/\sD s=(lenOf s+7:Nat):=by
 have e:bQ s=0:=by simp[bQ,h,h1,h2]
 exact⟨e,by rw[lX,e,if_pos rfl],by rw[sD,e,if_pos rfl]⟩
theorem BY8{b:List UInt8}(h:BD1 b=false):rZ b=2/\AS3 b=t0:=by
 have e:rZ b=2:=by simp[rZ,h]
 exact⟨e,by simp[AS3,e]⟩
theorem CF1{b:List UInt8}(h:BD1 b=true)(h1:gdE (tOf b)≠0):rZ b=gdE (tOf b)/\AS3 b=t0:=by
 have e:rZ b=gdE (tOf b):=by simp[rZ,h]
 exact⟨e,by rw[AS3,e,if_neg h1]⟩
theorem CF2{b:List UInt8}(h:BD1 b=true)(h1:gdE (tOf b)=0):rZ b=0/\AS3 b=tOf b:=by
 have e:rZ b=0:=by simp[rZ,h,h1]
 exact⟨e,by rw[AS3,e,if_pos rfl]⟩
theorem bU{s:List UInt8}:VT s=true↔s.take 1=[84]/\lenOf s<=1024/\lenOf s+7<=s.length:=by
 simp[VT,and_assoc]
theorem ZJ{s:List UInt8}(h:¬ (s.take 1=[84]/\lenOf s<=1024/\lenOf s+7<=s.length)):VT s=false:=by
 cases hw:VT s with
 |false=>rfl
 |true=>exact absurd (bU.1 hw) h
theorem ZK{b:List UInt8}:BD1 b=true↔24+XJ b<=b.length/\b.length=24+XJ b+yE b:=by simp[BD1]
theorem A60{s:List UInt8}:AS4 s=true↔un ((s.drop (lenOf s+3)).take 4)=A59 (s.take (lenOf s+3)):=by simp[AS4]
theorem sS{a b:List UInt8}{k:Nat}(h:a.length=k):(a++b).take k=a/\(a++b).drop k=b:=by
 subst h;simp
theorem OW{l a b:List UInt8}{j k:Nat}(h:l.drop j=a++b)(hk:a.length=k):l.drop (j+k)=b:=by
 rw[<-List.drop_drop,h];exact(sS hk).2
theorem N7{l a b:List UInt8}{j k:Nat}(h:l.drop j=a++b)(hk:a.length=k):(l.drop j).take k=a:=by
 rw[h];exact(sS hk).1
theorem CF3{n:Int}(h:0<=n)(h1:n<9223372036854775808):wrap64 n=n:=by unfold wrap64;omega
theorem BU9{t:GK}(h:gdE t=0):BD1 (QN t)=true/\tOf (QN t)=t:=by
 obtain⟨hz,ho,hs,hv,hw,hp,hd⟩:=VR h;have e0:(QN t).drop 0=be 8 t.z.toNat++_:=rfl;have e1:=OW e0 (IG 8 _);have e2:=OW e1 (IG 1 _);have e3:=OW e2 (IG 4 _);have e4:=OW e3 (IG 4 _);have e5:=OW e4 (IG 4 _);have e6:=OW e5 (IG 1 _);have e7:=OW e6 (rfl:t.p.length=t.p.length);have e8:=OW e7 (IG 2 _);have g0:=N7 e0 (IG 8 _);have g1:=N7 e1 (IG 1 _);have g2:=N7 e2 (IG 4 _);have g3:=N7 e3 (IG 4 _);have g4:=N7 e4 (IG 4 _);have g5:=N7 e5 (IG 1 _);have g6:=N7 e6 (rfl:t.p.length=t.p.length);have g7:=N7 e7 (IG 2 _);simp only[Nat.zero_add,Nat.reduceAdd,List.drop_zero]at e1 e2 e3 e4 e5 e6 e7 e8 g0 g1 g2 g3 g4 g5 g6 g7;have hpl:XJ (QN t)=t.p.length:=by rw[XJ,g5];exact iK 1 _ (by omega)
 have hdl:yE (QN t)=t.d.length:=by rw[yE,hpl,g7];exact iK 2 _ (by omega)
 refine⟨ZK.2 ?_,?_⟩
 .rw[hpl,hdl,QE];omega
 .rw[tOf,hpl,g0,g1,g2,g3,g4,g6,show 24+t.p.length=22+t.p.length+2 from by omega,e8];rw[iK 8 _ (by omega),iK 1 _ (by omega),iK 4 _ (by omega),iK 4 _ (by omega),iK 4 _ (by omega),CF3 (by omega) (by omega)];simp only[Int.toNat_of_nonneg hz.1,Int.toNat_of_nonneg hv.1,Int.toNat_of_nonneg hw.1,Int.toNat_of_nonneg (show 0<=t.o by omega),Int.toNat_of_nonneg (show 0<=t.s by omega)]
theorem BE3{t:GK}(h:gdE t=0):rZ (QN t)=0:=by
 obtain⟨h1,h2⟩:=BU9 h;rw[rZ,h1,h2,h];rfl
theorem AS5{b m more:List UInt8}(hb:b.length<=1024)(hm:m.length=4):
  VT (MQ b++(m++more))=true/\lenOf (MQ b++(m++more))=b.length/\UL (MQ b++(m++more))=b/\
  AS4 (MQ b++(m++more))=(un m==A59 (MQ b)):=by
 have e0:(MQ b++(m++more)).drop 1=be 2 b.length++(b++(m++more)):=by simp[MQ]
 have g0:=N7 e0 (IG 2 _);have e1:=OW e0 (IG 2 _);have g1:=N7 e1 (rfl:b.length=b.length);have hl:lenOf (MQ b++(m++more))=b.length:=by rw[lenOf,g0];exact iK 2 _ (by omega)
 have hf:(MQ b).length=b.length+3:=UJ b;refine⟨bU.2 ⟨by simp[MQ],by omega,?_⟩,hl,?_,?_⟩
 .rw[hl,List.length_append,List.length_append,hf];omega
 .rw[UL,hl];exact g1
 .rw[AS4,hl,(sS hf).1,(sS hf).2,(sS hm).1]
theorem AS6(t:GK)(more:List UInt8):QO t++more=MQ (QN t)++(be 4 (A59 (MQ (QN t)))++more):=by rw[QO,List.append_assoc]
theorem bW{t:GK}(h:gdE t=0):(QN t).length<=1024:=by
 obtain⟨_,_,_,_,_,hp,hd⟩:=VR h;rw[QE];omega
theorem BY9{t:GK}(h:gdE t=0)(more:List UInt8):bQ (QO t++more)=0/\lX (QO t++more)=t/\sD (QO t++more)=(QO t).length:=by
 rw[AS6];obtain⟨h1,h2,h3,h4⟩:=AS5 (b:=QN t) (m:=be 4 (A59 (MQ (QN t)))) (more:=more) (bW h) (IG 4 _);have hs:un (be 4 (A59 (MQ (QN t))))=A59 (MQ (QN t)):=iK 4 _ (by have:=AS1 (MQ (QN t));omega);rw[hs,beq_self_eq_true]at h4;obtain⟨a,b,c⟩:=BU8 h1 h4 (by rw[h3];exact BE3 h);refine⟨a,?_,?_⟩
 .rw[b,h3];exact(BU9 h).2
 .rw[c,h2,QE,UK];omega
theorem BZ0{t:GK}(h:gdE t=0){k:Nat}(hk:k<(QO t).length):bQ ((QO t).take k)=2/\sD ((QO t).take k)=0:=by
 have hw:VT ((QO t).take k)=false:=ZJ (by
  rintro⟨h1,h2,h3⟩;rw[List.length_take]at h3;have e0:(QO t).drop 1=be 2 (QN t).length++(QN t++be 4 (A59 (MQ (QN t)))):=by simp[QO,MQ]
  have g0:=N7 e0 (IG 2 _);have hl:lenOf ((QO t).take k)=(QN t).length:=by
   rw[lenOf,List.drop_take,List.take_take,show min 2 (k-1)=2 from by omega,g0];exact iK 2 _ (by have:=bW h;omega)
  rw[hl,QE]at h3;rw[UK]at hk;omega)
 exact⟨(bT hw).1,(bT hw).2.2⟩
def IB:List GK->List UInt8
 |[]=>[]
 |t::l=>QO t++IB l
theorem LH:∀a b,IB (a++b)=IB a++IB b
 |[],_=>rfl
 |t::a,b=>by rw[List.cons_append,IB,IB,LH a b,List.append_assoc]
theorem PL(a:List GK)(t:GK):IB (a++[t])=IB a++QO t:=by rw[LH,IB,IB,List.append_nil]
def J3(l:List GK):Int:=l.foldl (fun _ t=>t.z) 0
theorem TQ(l:List GK)(t:GK):J3 (l++[t])=t.z:=by simp[J3]
theorem VU:J3 []=0:=rfl
def iM(l:List GK)(t:GK):Bool:=decide (l.length=0)||decide (J3 l<t.z)
theorem lY{l:List GK}{t:GK}(h:l.length≠0):iM l t=decide (J3 l<t.z):=by simp[iM,h]
theorem AS7{l:List GK}(h:l.length≠0):∃m x,l=m++[x]:=by
 rcases List.eq_nil_or_concat l with rfl|⟨m,x,rfl⟩
 .exact absurd rfl h
 .exact⟨m,x,List.concat_eq_append⟩
structure Logs(ts:List GK):Prop where
 good:∀t∈ts,gdE t=0
 rise:ts.Pairwise fun a b=>a.z<b.z
theorem Logs.nil:Logs []:=⟨by simp,List.Pairwise.nil⟩
theorem Logs.le_last{ts:List GK}(h:Logs ts){a:GK}(ha:a∈ts):a.z<=J3 ts:=by
 rcases List.eq_nil_or_concat ts with rfl|⟨m,x,e⟩
 .simp at ha
 .rw[List.concat_eq_append]at e;subst e;rw[TQ];rcases List.mem_append.1 ha with h1|h1
  .have:=(List.pairwise_append.1 h.rise).2.2 a h1 x (by simp);omega
  .simp at h1;subst h1;omega
theorem Logs.left{a b:List GK}(h:Logs (a++b)):Logs a:=⟨fun t ht=>h.good t (by simp[ht]),(List.pairwise_append.1 h.rise).1⟩
theorem Logs.at{a b:List GK}{t:GK}(h:Logs (a++t::b)):gdE t=0/\iM a t=true:=by
 refine⟨h.good t (by simp),?_⟩;by_cases h0:a.length=0
 .simp[iM,h0]
 .rw[lY h0];obtain⟨m,x,rfl⟩:=AS7 h0;rw[TQ];exact decide_eq_true ((List.pairwise_append.1 h.rise).2.2 x (by simp) t (by simp))
structure Scan(s:List UInt8)(ts:List GK)(r:List UInt8):Prop where
 eq:s=IB ts++r
 log:Logs ts
 stop:bQ r≠0\/iM ts (lX r)=false
theorem BZ1:bQ []≠0:=by rw[(bT (s:=[]) (by decide)).1];decide
theorem sU{ts:List GK}(h:Logs ts):Scan (IB ts) ts []:=⟨by simp,h,.inl BZ1⟩
theorem AS8{ts:List GK}{t:GK}(h:Logs ts)(hg:gdE t=0){k:Nat}(hk:k<(QO t).length):Scan (IB ts++(QO t).take k) ts ((QO t).take k):=
 ⟨rfl,h,.inl (by rw[(BZ0 hg hk).1];decide)⟩
theorem Scan.len{s r:List UInt8}{ts:List GK}(h:Scan s ts r):(IB ts).length+r.length=s.length:=by rw[h.eq,List.length_append]
theorem oV:∀ts:List GK,ts.length*31<=(IB ts).length
 |[]=>by simp[IB]
 |t::l=>by
  have:=oV l;rw[IB,List.length_append,UK,List.length_cons];omega
theorem iO{t:GK}(h:gdE t=0):(QO t).length<=487:=by
 obtain⟨_,_,_,_,_,hp,hd⟩:=VR h;rw[UK];omega
theorem A61:∀ts:List GK,(∀t∈ts,gdE t=0)->(IB ts).length<=ts.length*487
 |[],_=>by simp[IB]
 |t::l,h=>by
  have h1:=A61 l (fun x hx=>h x (by simp[hx]));have h2:=iO (h t (by simp));rw[IB,List.length_append,List.length_cons];omega
theorem PO{ts:List GK}{k:Nat}{t:GK}(h:ts[k]?=some t):ts.take (k+1)=ts.take k++[t]:=by
 obtain⟨hk,rfl⟩:=List.getElem?_eq_some_iff.1 h;exact List.take_succ_eq_append_getElem hk
abbrev bl(a b:List UInt8):Bool:=Op.bytesLess a b
theorem QF:∀a,bl a a=false
 |[]=>rfl
 |x::a=>by
  have h:¬x<x:=UInt8.lt_irrefl x;have:=QF a;simp only[bl]at this;simp[bl,Op.bytesLess,h,this]
theorem QX:∀a b c,bl a b=true->bl b c=true->bl a c=true
 |[],_,[],_,h=>by cases ‹List UInt8› <;>simp[bl,Op.bytesLess]at h
 |[],_,_::_,_,_=>by simp[bl,Op.bytesLess]
 |_::_,[],_,h,_=>by simp[bl,Op.bytesLess]at h
 |_::_,_::_,[],_,h=>by simp[bl,Op.bytesLess]at h
 |x::a,y::b,z::c,h1,h2=>by
  have ih:=QX a b c;simp only[bl,Op.bytesLess,Bool.or_eq_true,Bool.and_eq_true,decide_eq_true_eq,beq_iff_eq]at h1 h2 ih⊢;rcases h1 with h1|⟨h1,h1'⟩<;>rcases h2 with h2|⟨h2,h2'⟩
  .exact .inl (UInt8.lt_trans h1 h2)
  .subst h2;exact .inl h1
  .subst h1;exact .inl h2
  .subst h1 h2;exact .inr ⟨rfl,ih h1' h2'⟩
theorem TA:∀a b,bl a b=false->bl b a=false->a=b
 |[],[],_,_=>rfl
 |[],_::_,h,_=>by simp[bl,Op.bytesLess]at h
 |_::_,[],_,h=>by simp[bl,Op.bytesLess]at h
 |x::a,y::b,h1,h2=>by
  have ih:=TA a b;simp only[bl,Op.bytesLess,Bool.or_eq_false_iff,Bool.and_eq_false_iff,decide_eq_false_iff_not,beq_eq_false_iff_ne]at h1 h2 ih;have e:x=y:=UInt8.le_antisymm (UInt8.not_lt.1 h2.1) (UInt8.not_lt.1 h1.1);subst e;rw[ih (h1.2.elim (fun h=>absurd rfl h) id) (h2.2.elim (fun h=>absurd rfl h) id)]
theorem OB{a b:List UInt8}(h:bl a b=true):bl b a=false:=by
 cases h':bl b a with
 |false=>rfl
 |true=>have:=QX a b a h h';rw[QF]at this;cases this
theorem VW{a b:List UInt8}(h:bl a b=true):a≠b:=by rintro rfl;rw[QF]at h;cases h
theorem A65:∀a b,decide (Lib.compareBytes a b<0)=bl a b
 |[],[]=>by simp[bl,Op.bytesLess,Lib.compareBytes]
 |[],_::_=>by simp[bl,Op.bytesLess,Lib.compareBytes]
 |_::_,[]=>by simp[bl,Op.bytesLess,Lib.compareBytes]
 |x::a,y::b=>by
  have ih:=A65 a b;simp only[bl]at ih;simp only[bl,Op.bytesLess,Lib.compareBytes];by_cases h1:x<y
  .simp[h1]
  .by_cases h2:y<x
   .have:x≠y:=by rintro rfl;exact h1 h2
    simp[h1,h2,this]
   .have:x=y:=UInt8.le_antisymm (UInt8.not_lt.1 h2) (UInt8.not_lt.1 h1);subst this;simp[h1,<-ih]
theorem fP:∀a b,decide (Lib.compareBytes a b=0)=decide (a=b)
 |[],[]=>by simp[Lib.compareBytes]
 |[],_::_=>by simp[Lib.compareBytes]
 |_::_,[]=>by simp[Lib.compareBytes]
 |x::a,y::b=>by
  have ih:=fP a b;simp only[Lib.compareBytes];by_cases h1:x<y
  .have:x≠y:=by rintro rfl;exact UInt8.lt_irrefl x h1
   simp[h1,this]
  .by_cases h2:y<x
   .have:x≠y:=by rintro rfl;exact h1 h2
    simp[h1,h2,this]
   .have:x=y:=UInt8.le_antisymm (UInt8.not_lt.1 h2) (UInt8.not_lt.1 h1);subst this;simp[h1,ih]
structure DF where
 n:List UInt8
 s:List UInt8
 t:List UInt8
instance:Inhabited DF:=⟨⟨[],[],[]⟩⟩
def QG(f:DF):Bool:=JA f.n&&decide (f.s.length+f.t.length<=1048576)
def Asc(fs:List DF):Prop:=fs.Pairwise fun a b=>bl a.n b.n=true
structure LP(fs:List DF):Prop where
 few:fs.length<=16
 ok:∀f∈fs,QG f=true
 asc:Asc fs
noncomputable def UN(fs:List DF):Bool:= @decide (LP fs) (Classical.propDecidable _)
theorem MS{fs:List DF}:UN fs=true↔LP fs:=by unfold UN;exact @decide_eq_true_iff _ (Classical.propDecidable _)
theorem YN{fs:List DF}:UN fs=false↔¬LP fs:=by unfold UN;exact @decide_eq_false_iff_not _ (Classical.propDecidable _)
def BZ2(fs:List DF)(k:Nat):Prop:=∀i,i<k->∀f,fs[i]?=some f->QG f=true/\∀g,0<i->fs[i-1]?=some g->bl g.n f.n=true
theorem AT2(fs:List DF):BZ2 fs 0:=fun _ h=>absurd h (Nat.not_lt_zero _)
theorem AT3{fs:List DF}{k:Nat}(h:BZ2 fs k){f:DF}(hf:fs[k]?=some f)(h1:QG f=true)(h2:∀g,0<k->fs[k-1]?=some g->bl g.n f.n=true):BZ2 fs (k+1):=by
 intro i hi f' hf';by_cases e:i=k
 .subst e;rw[hf]at hf'
  cases hf'
  exact⟨h1,h2⟩
 .exact h i (by omega) f' hf'
theorem yP{fs:List DF}(h:BZ2 fs fs.length):Asc fs:=by
 have step:∀j i,(hij:i<j)->∀ (hj:j<fs.length),bl (fs[i]'(Nat.lt_trans hij hj)).n fs[j].n=true:=by
  intro j
  induction j with
  |zero=>intro i hi;omega
  |succ j ih=>
   intro i hi hj;have h1:=(h (j+1) hj _ (List.getElem?_eq_getElem hj)).2 fs[j] (by omega) (by simp);by_cases e:i=j
   .subst e;exact h1
   .exact QX _ _ _ (ih i (by omega) (by omega)) h1
 exact List.pairwise_iff_getElem.2 fun i j hi hj hij=>step j i hij hj
theorem sV{fs:List DF}(hl:fs.length<=16)(h:BZ2 fs fs.length):UN fs=true:=
 MS.2 ⟨hl,fun f hf=>by
  obtain⟨i,hi,rfl⟩:=List.getElem_of_mem hf;exact(h i hi _ (List.getElem?_eq_getElem hi)).1,yP h⟩
theorem BZ3{fs:List DF}(h:16<fs.length):UN fs=false:=YN.2 fun g=>by have:=g.few;omega
theorem BE8{fs:List DF}{k:Nat}{f:DF}(hf:fs[k]?=some f)(h:QG f=false):UN fs=false:=
 YN.2 fun g=>by rw[g.ok f (List.mem_of_getElem? hf)]at h;cases h
theorem AT4{fs:List DF}{k:Nat}{f g:DF}(hf:fs[k]?=some f)(hg:fs[k-1]?=some g)(h0:0<k)(h:bl g.n f.n=false):UN fs=false:=
 YN.2 fun G=>by
  obtain⟨hk,rfl⟩:=List.getElem?_eq_some_iff.1 hf;obtain⟨hk',rfl⟩:=List.getElem?_eq_some_iff.1 hg;rw[List.pairwise_iff_getElem.1 G.asc (k-1) k hk' hk (by omega)]at h
  cases h
structure There(fs A:List DF)(f:DF)(B:List DF)(name:List UInt8):Prop where
 eq:fs=A++f::B
 nm:f.n=name
 lo:∀a∈A,bl a.n name=true
 hi:∀b∈B,bl name b.n=true
structure Gap(fs A B:List DF)(name:List UInt8):Prop where
 eq:fs=A++B
 lo:∀a∈A,bl a.n name=true
 hi:∀b∈B,bl name b.n=true
theorem A66(name:List UInt8):∀fs:List DF,Asc fs->(∃A f B,There fs A f B name)\/∃A B,Gap fs A B name
 |[],_=>.inr ⟨[],[],rfl,by simp,by simp⟩
 |x::r,h=>by
  obtain⟨hx,hr⟩:=List.pairwise_cons.1 h
  cases h1:bl x.n name with
  |true=>
   rcases A66 name r hr with⟨A,f,B,T⟩|⟨A,B,G⟩
   .exact .inl ⟨x::A,f,B,by rw[T.eq];rfl,T.nm,by simp[h1];exact T.lo,T.hi⟩
   .exact .inr ⟨x::A,B,by rw[G.eq];rfl,by simp[h1];exact G.lo,G.hi⟩
  |false=>
   cases h2:bl name x.n with
   |true=>exact .inr ⟨[],x::r,rfl,by simp,by simp[h2];exact fun b hb=>QX _ _ _ h2 (hx b hb)⟩
   |false=>
    have e:=TA _ _ h1 h2;exact .inl ⟨[],x,r,rfl,e,by simp,fun b hb=>by rw[<-e];exact hx b hb⟩
theorem There.ok{fs A B:List DF}{f:DF}{name:List UInt8}(T:There fs A f B name)(g:LP fs):QG f=true:=g.ok f (by rw[T.eq];simp)
theorem NI{f:DF}(h:QG f=true):f.s.length+f.t.length<=1048576:=by simp[QG]at h;exact h.2
theorem VX{f:DF}(h:QG f=true):JA f.n=true:=by simp[QG]at h;exact h.1
end Go.Proofs.YtnlikdglijgjpaaGreatDoor
namespace Go.Proofs.YtnlikdglijgjpaaGreatDoor
structure Ev where
 k:Int
 p:List UInt8
end Go.Proofs.YtnlikdglijgjpaaGreatDoor
namespace Go.Proofs.YtnlikdglijgjpaaGreatDoor
open Go.RowKit
def JC(f:DF):List Value:=[S0 f.n,S0 f.s,S0 f.t]
def BH0(f:DF):Value:=.agg #[S0 f.n,S0 f.s,S0 f.t]
def I5:List DF->List Value
 |[]=>[]
 |f::r=>JC f++I5 r
theorem GZ:∀fs:List DF,(I5 fs).length=fs.length*3
 |[]=>rfl
 |f::r=>by rw[I5,List.length_append,GZ r];simp[JC];omega
theorem JO:∀a b:List DF,I5 (a++b)=I5 a++I5 b
 |[],_=>rfl
 |f::r,b=>by rw[List.cons_append,I5,I5,JO r b,List.append_assoc]
theorem XL:∀ (fs:List DF) (i:Nat) (f:DF),fs[i]?=some f->∀c,c<3->(I5 fs)[i*3+c]?=(JC f)[c]?
 |[],i,f,h,_,_=>by simp at h
 |x::r,0,f,h,c,hc=>by
  simp at h;subst h;rw[I5,List.getElem?_append_left (by simp[JC];omega)];simp
 |x::r,i+1,f,h,c,hc=>by
  rw[I5,List.getElem?_append_right (by simp[JC];omega),<-XL r i f (by simpa using h) c hc]
  congr 1
  simp[JC];omega
theorem XM(fs:List DF):∀u∈I5 fs,u.oneCell'=true:=by
 induction fs with
 |nil=>simp[I5]
 |cons f r ih=>
  intro u hu;rcases List.mem_append.1 hu with h|h
  .simp[JC]at h;rcases h with rfl|rfl|rfl<;>rfl
  .exact ih u h
theorem mW:∀ (fs:List DF) (i:Nat) (f g:DF),fs[i]?=some f->∀c v,c<3->(JC g)=(JC f).set c v->(I5 fs).set (i*3+c) v=I5 (fs.set i g)
 |[],i,f,g,h,_,_,_,_=>by simp at h
 |x::r,0,f,g,h,c,v,hc,hg=>by
  simp at h;subst h;rw[I5,List.set_cons_zero,I5,hg,List.set_append_left _ _ (by simp[JC];omega)];simp
 |x::r,i+1,f,g,h,c,v,hc,hg=>by
  rw[I5,List.set_cons_succ,I5,List.set_append_right _ _ (by simp[JC];omega),<-mW r i f g (by simpa using h) c v hc hg]
  congr 2
  simp[JC];omega
def IC(w:World)(b off:Nat)(cs:List Value):Prop:=∀j v,cs[j]?=some v->w.cell? ⟨b,off+j,none⟩=some v
theorem IC.c0{w:World}{b off:Nat}{fs:List DF}(h:IC w b off (I5 fs)){i:Nat}{f:DF}(hi:fs[i]?=some f):w.cell? ⟨b,off+i*3,none⟩=some (S0 f.n):=
 h (i*3) _ (by have:=XL fs i f hi 0 (by omega);simpa [JC]using this)
theorem IC.c1{w:World}{b off:Nat}{fs:List DF}(h:IC w b off (I5 fs)){i:Nat}{f:DF}(hi:fs[i]?=some f):w.cell? ⟨b,off+i*3+1,none⟩=some (S0 f.s):=by
 rw[Nat.add_assoc];exact h (i*3+1) _ (by have:=XL fs i f hi 1 (by omega);simpa [JC]using this)
theorem IC.c2{w:World}{b off:Nat}{fs:List DF}(h:IC w b off (I5 fs)){i:Nat}{f:DF}(hi:fs[i]?=some f):w.cell? ⟨b,off+i*3+2,none⟩=some (S0 f.t):=by
 rw[Nat.add_assoc];exact h (i*3+2) _ (by have:=XL fs i f hi 2 (by omega);simpa [JC]using this)
theorem IC.kept{w w':World}{b off B:Nat}{cs:List Value}(h:IC w b off cs)(hb:Below B w w')(hB:b<B):IC w' b off cs:=
 fun j v hj=>by rw[hb.cell (p:=⟨b,off+j,none⟩) hB];exact h j v hj
def IQ(w:World)(v:Value)(fs:List DF):Prop:=
 (∃a cap,v=.slice a 0 cap/\fs=[]/\cap<=maxLen)\/
 ∃b off cap,v=.slice (some ⟨b,off,none⟩) fs.length cap/\fs.length<=cap/\cap<=maxLen/\b<w.heap.size/\fs≠[]/\IC w b off (I5 fs)
theorem IQ.kept{w w':World}{B:Nat}{v:Value}{fs:List DF}(h:IQ w v fs)(hb:Below B w w')(hB:w.heap.size<=B):IQ w' v fs:=by
 rcases h with h|⟨b,off,cap,rfl,h1,h2,h3,h0,h4⟩
 .exact .inl h
 .exact .inr ⟨b,off,cap,rfl,h1,h2,Nat.lt_of_lt_of_le h3 hb.size,h0,h4.kept hb (Nat.lt_of_lt_of_le h3 hB)⟩
theorem IQ.next{w w':World}{v:Value}{fs:List DF}(h:IQ w v fs)(hb:B0 w w'):IQ w' v fs:=h.kept hb (Nat.le_refl _)
theorem IQ.alloc{w:World}{v:Value}{fs:List DF}(h:IQ w v fs)(o:Obj):IQ (w.alloc o) v fs:=h.next ((Below.refl _ _).alloc (Nat.le_refl _) o)
theorem IQ.drew{w:World}{v:Value}{fs:List DF}(h:IQ w v fs):IQ w.drew v fs:=h.next (Below.refl _ _).drew
theorem IQ.nil(w:World):IQ w (N0) []:=.inl ⟨none,0,rfl,rfl,by decide⟩
def Own(W:World)(g cap:Nat)(fs:List DF):Prop:=∃rest:List Value,W.heap[g]?=some (.cells (I5 fs++rest).toArray 69 (0,0))/\fs.length*3+rest.length=cap*3/\cap<=maxLen
theorem Own.lt{W:World}{g cap:Nat}{fs:List DF}(h:Own W g cap fs):g<W.heap.size:=by
 obtain⟨rest,h1,_⟩:=h;exact(Array.getElem?_eq_some_iff.1 h1).1
theorem Own.le{W:World}{g cap:Nat}{fs:List DF}(h:Own W g cap fs):fs.length<=cap:=by obtain⟨rest,_,h2,_⟩:=h;omega
theorem Own.capLe{W:World}{g cap:Nat}{fs:List DF}(h:Own W g cap fs):cap<=maxLen:=by obtain⟨rest,_,_,h3⟩:=h;exact h3
theorem Own.row{W:World}{g cap:Nat}{fs:List DF}(h:Own W g cap fs):IC W g 0 (I5 fs):=by
 obtain⟨rest,h1,_⟩:=h;intro j v hj;have hlt:j<(I5 fs).length:=(List.getElem?_eq_some_iff.1 hj).1;simp[World.cell?,h1,List.getElem?_append_left hlt,hj]
theorem Own.frozen{W:World}{g cap:Nat}{fs:List DF}(h:Own W g cap fs)(j:Nat):W.frozen? ⟨g,j,none⟩=false:=by
 obtain⟨rest,h1,_⟩:=h;simp[World.frozen?,h1]
theorem Own.c0{W:World}{g cap:Nat}{fs:List DF}(h:Own W g cap fs){i:Nat}{f:DF}(hi:fs[i]?=some f):W.cell? ⟨g,i*3,none⟩=some (S0 f.n):=by simpa using h.row.c0 hi
theorem Own.c1{W:World}{g cap:Nat}{fs:List DF}(h:Own W g cap fs){i:Nat}{f:DF}(hi:fs[i]?=some f):W.cell? ⟨g,i*3+1,none⟩=some (S0 f.s):=by simpa using h.row.c1 hi
theorem Own.c2{W:World}{g cap:Nat}{fs:List DF}(h:Own W g cap fs){i:Nat}{f:DF}(hi:fs[i]?=some f):W.cell? ⟨g,i*3+2,none⟩=some (S0 f.t):=by simpa using h.row.c2 hi
theorem Own.kept{W V:World}{g B cap:Nat}{fs:List DF}(h:Own W g cap fs)(hb:Below B W V)(hg:g<B):Own V g cap fs:=by
 obtain⟨rest,h1,h2⟩:=h;exact⟨rest,(hb.block _ hg).trans h1,h2⟩
theorem Own.next{W V:World}{g cap:Nat}{fs:List DF}(h:Own W g cap fs)(hb:B0 W V):Own V g cap fs:=h.kept hb h.lt
theorem Own.alloc{W:World}{g cap:Nat}{fs:List DF}(h:Own W g cap fs)(o:Obj):Own (W.alloc o) g cap fs:=h.next ((Below.refl _ _).alloc (Nat.le_refl _) o)
theorem Own.drew{W:World}{g cap:Nat}{fs:List DF}(h:Own W g cap fs):Own W.drew g cap fs:=h
theorem Own.other{W:World}{g cap:Nat}{fs:List DF}(h:Own W g cap fs){a:Addr}(ha:g≠a.block)(v:Value):Own (W.setCell a v) g cap fs:=by
 obtain⟨rest,h1,h2⟩:=h;exact⟨rest,(Below.heap_setCell W a v g ha).trans h1,h2⟩
theorem GU{w:World}{g j:Nat}{cur:Array Value}{t:TypeId}{fz:Nat×Nat}(v:Value)(h:w.heap[g]?=some (.cells cur t fz)):
  (w.setCell ⟨g,j,none⟩ v).heap[g]?=some (.cells (cur.setIfInBounds j v) t fz):=by
 obtain⟨hlt,hk⟩:=Array.getElem?_eq_some_iff.1 h;show (w.heap.modify g _)[g]?=_;rw[Array.getElem?_eq_getElem (by rw[Array.size_modify];exact hlt),Array.getElem_modify_self,hk];rfl
theorem Own.set{W:World}{g cap:Nat}{fs:List DF}(h:Own W g cap fs){i:Nat}{f f':DF}(hi:fs[i]?=some f){c:Nat}(hc:c<3){v:Value}(hf:JC f'=(JC f).set c v):Own (W.setCell ⟨g,i*3+c,none⟩ v) g cap (fs.set i f'):=by
 obtain⟨rest,h1,h2,h3⟩:=h;refine⟨rest,?_,by simpa using h2,h3⟩;have hl:i<fs.length:=(List.getElem?_eq_some_iff.1 hi).1;rw[GU v h1,<-mW fs i f f' hi c v hc hf];simp[List.set_append_left _ _ (show i*3+c<(I5 fs).length by rw[GZ];omega)]
theorem Own.s1{W:World}{g cap:Nat}{fs:List DF}(h:Own W g cap fs){i:Nat}{f:DF}(hi:fs[i]?=some f)(x:List UInt8):Own (W.setCell ⟨g,i*3+1,none⟩ (S0 x)) g cap (fs.set i ⟨f.n,x,f.t⟩):=h.set hi (c:=1) (by omega) rfl
theorem Own.s2{W:World}{g cap:Nat}{fs:List DF}(h:Own W g cap fs){i:Nat}{f:DF}(hi:fs[i]?=some f)(x:List UInt8):Own (W.setCell ⟨g,i*3+2,none⟩ (S0 x)) g cap (fs.set i ⟨f.n,f.s,x⟩):=h.set hi (c:=2) (by omega) rfl
def XO(W:World)(B:Nat)(v:Value)(fs:List DF):Prop:=(v=N0/\fs=[])\/∃g cap,v=.slice (some ⟨g,0,none⟩) fs.length cap/\B<=g/\Own W g cap fs
theorem XO.disk{W:World}{B:Nat}{v:Value}{fs:List DF}(h:XO W B v fs):IQ W v fs:=by
 rcases h with⟨rfl,rfl⟩|⟨g,cap,rfl,_,h⟩
 .exact IQ.nil W
 .by_cases h0:fs=[]
  .subst h0;exact .inl ⟨_,cap,rfl,rfl,h.capLe⟩
  .exact .inr ⟨g,0,cap,rfl,h.le,h.capLe,h.lt,h0,h.row⟩
theorem XO.next{W V:World}{B:Nat}{v:Value}{fs:List DF}(h:XO W B v fs)(hb:B0 W V):XO V B v fs:=by
 rcases h with h|⟨g,cap,rfl,hB,h⟩
 .exact .inl h
 .exact .inr ⟨g,cap,rfl,hB,h.next hb⟩
theorem XO.L9{W:World}{B:Nat}{v:Value}{fs:List DF}(h:W.ownsRow B 69 3 v fs.length (I5 fs)):XO W B v fs:=by
 obtain⟨_,⟨rfl,h0⟩|⟨g,cap,cur,rfl,hB,hg,hn,hm,hs,ht⟩⟩:=h
 .exact .inl ⟨rfl,List.eq_nil_of_length_eq_zero h0⟩
 .refine .inr ⟨g,cap,rfl,hB,cur.toList.drop (fs.length*3),?_,?_,hm⟩
  .rw[hg,<-ht,List.take_append_drop]
  .simp[hs];omega
theorem XO.row{W:World}{B:Nat}{v:Value}{fs:List DF}(h:XO W B v fs):W.ownsRow B 69 3 v fs.length (I5 fs):=by
 refine⟨GZ fs,?_⟩;rcases h with⟨rfl,rfl⟩|⟨g,cap,rfl,hB,h⟩
 .exact .inl ⟨rfl,rfl⟩
 .have hle:=h.le;obtain⟨rest,h1,h2,h3⟩:=h;refine .inr ⟨g,cap,_,rfl,hB,h1,hle,h3,by simp[GZ,h2],?_⟩;simp[<-GZ fs]
class Lay (α:Type) where
 k:Nat
 cs:α->List Value
 ty:TypeId
 len:∀x,(cs x).length=k
 one:∀x,∀u∈cs x,u.oneCell'=true
def AW5(e:Ev):List Value:=[I0 e.k,S0 e.p]
def evV(e:Ev):Value:=.agg #[I0 e.k,S0 e.p]
instance layE:Lay Ev:=⟨2,AW5,46,fun _=>rfl,fun x u hu=>by simp[AW5]at hu;rcases hu with rfl|rfl<;>rfl⟩
instance layI:Lay Int:=⟨1,fun x=>[I0 x],3,fun _=>rfl,fun x u hu=>by simp at hu;subst hu;rfl⟩
instance layS:Lay (List UInt8):=⟨1,fun x=>[S0 x],9,fun _=>rfl,fun x u hu=>by simp at hu;subst hu;rfl⟩
section
variable {α:Type} [Lay α]
def GH(xs:List α):List Value:=xs.flatMap Lay.cs
theorem RX:GH ([]:List α)=[]:=rfl
theorem JK(x:α)(r:List α):GH (x::r)=Lay.cs x++GH r:=by simp[GH]
theorem GN(xs:List α):(GH xs).length=xs.length*Lay.k α:=by
 induction xs with
 |nil=>simp[GH]
 |cons x r ih=>rw[JK,List.length_append,Lay.len,ih,List.length_cons,Nat.add_mul];omega
theorem H6(a b:List α):GH (a++b)=GH a++GH b:=by simp[GH]
theorem J8(a:List α)(x:α):GH (a++[x])=GH a++Lay.cs x:=by simp[GH]
theorem AW6(A:List α)(x:α)(B:List α)(c:Nat)(hc:c<Lay.k α):(GH (A++x::B))[A.length*Lay.k α+c]?=(Lay.cs x)[c]? :=by
 rw[H6,List.getElem?_append_right (by rw[GN];omega),GN,Nat.add_sub_cancel_left,JK,List.getElem?_append_left (by rw[Lay.len];exact hc)]
theorem GV(xs:List α)(i:Nat)(x:α)(h:xs[i]?=some x)(c:Nat)(hc:c<Lay.k α):(GH xs)[i*Lay.k α+c]?=(Lay.cs x)[c]? :=by
 obtain⟨hi,rfl⟩:=List.getElem?_eq_some_iff.1 h;have e:xs=xs.take i++xs[i]::xs.drop (i+1):=by simp
 have:=AW6 (xs.take i) xs[i] (xs.drop (i+1)) c hc;rw[<-e,List.length_take,Nat.min_eq_left (Nat.le_of_lt hi)]at this;exact this
theorem JF(xs:List α):∀u∈GH xs,u.oneCell'=true:=by
 intro u hu;obtain⟨x,_,hx⟩:=List.mem_flatMap.1 hu;exact Lay.one x u hx
theorem AH9(A:List α)(x y:α)(B:List α)(c:Nat)(v:Value)(hc:c<Lay.k α)(hy:Lay.cs y=(Lay.cs x).set c v):(GH (A++x::B)).set (A.length*Lay.k α+c) v=GH (A++y::B):=by
 rw[H6,H6,List.set_append_right _ _ (by rw[GN];omega),GN,Nat.add_sub_cancel_left,JK,JK,List.set_append_left _ _ (by rw[Lay.len];exact hc),hy]
def IE(w:World)(v:Value)(xs:List α):Prop:=
 (∃a cap,v=.slice a 0 cap/\xs=[]/\cap<=maxLen)\/
 ∃b off cap,v=.slice (some ⟨b,off,none⟩) xs.length cap/\xs.length<=cap/\cap<=maxLen/\b<w.heap.size/\xs≠[]/\IC w b off (GH xs)
theorem IE.kept{w w':World}{B:Nat}{v:Value}{xs:List α}(h:IE w v xs)(hb:Below B w w')(hB:w.heap.size<=B):IE w' v xs:=by
 rcases h with h|⟨b,off,cap,rfl,h1,h2,h3,h0,h4⟩
 .exact .inl h
 .exact .inr ⟨b,off,cap,rfl,h1,h2,Nat.lt_of_lt_of_le h3 hb.size,h0,h4.kept hb (Nat.lt_of_lt_of_le h3 hB)⟩
theorem IE.next{w w':World}{v:Value}{xs:List α}(h:IE w v xs)(hb:B0 w w'):IE w' v xs:=h.kept hb (Nat.le_refl _)
theorem IE.alloc{w:World}{v:Value}{xs:List α}(h:IE w v xs)(o:Obj):IE (w.alloc o) v xs:=h.next ((Below.refl _ _).alloc (Nat.le_refl _) o)
theorem IE.nil(w:World):IE w (N0) ([]:List α):=.inl ⟨none,0,rfl,rfl,by decide⟩
theorem GL{w:World}{v:Value}{xs:List α}(hv:IE w v xs):∃a c,v=.slice a xs.length c:=by
 rcases hv with⟨a,cap,rfl,rfl,_⟩|⟨b,off,cap,rfl,_⟩
 .exact⟨_,_,rfl⟩
 .exact⟨_,_,rfl⟩
theorem N8{w:World}{v:Value}{xs:List α}(hv:IE w v xs)(h0:xs≠[]):
  ∃b off cap,v=.slice (some ⟨b,off,none⟩) xs.length cap/\b<w.heap.size/\IC w b off (GH xs)/\xs.length<=cap/\cap<=maxLen:=by
 rcases hv with⟨a,cap,rfl,rfl,_⟩|⟨b,off,cap,rfl,h1,h2,hb,_,hr⟩
 .exact absurd rfl h0
 .exact⟨b,off,cap,rfl,hb,hr,h1,h2⟩
def J9(W:World)(g cap:Nat)(xs:List α):Prop:=∃rest:List Value,W.heap[g]?=some (.cells (GH xs++rest).toArray (Lay.ty α) (0,0))/\xs.length*Lay.k α+rest.length=cap*Lay.k α/\xs.length<=cap/\cap<=maxLen
theorem J9.lt{W:World}{g cap:Nat}{xs:List α}(h:J9 W g cap xs):g<W.heap.size:=by
 obtain⟨rest,h1,_⟩:=h;exact(Array.getElem?_eq_some_iff.1 h1).1
theorem J9.le{W:World}{g cap:Nat}{xs:List α}(h:J9 W g cap xs):xs.length<=cap:=by obtain⟨rest,_,_,h2,_⟩:=h;exact h2
theorem J9.capLe{W:World}{g cap:Nat}{xs:List α}(h:J9 W g cap xs):cap<=maxLen:=by obtain⟨rest,_,_,_,h3⟩:=h;exact h3
theorem J9.row{W:World}{g cap:Nat}{xs:List α}(h:J9 W g cap xs):IC W g 0 (GH xs):=by
 obtain⟨rest,h1,_⟩:=h;intro j v hj;have hlt:j<(GH xs).length:=(List.getElem?_eq_some_iff.1 hj).1;simp[World.cell?,h1,List.getElem?_append_left hlt,hj]
theorem J9.frozen{W:World}{g cap:Nat}{xs:List α}(h:J9 W g cap xs)(j:Nat):W.frozen? ⟨g,j,none⟩=false:=by
 obtain⟨rest,h1,_⟩:=h;simp[World.frozen?,h1]
theorem J9.kept{W V:World}{g B cap:Nat}{xs:List α}(h:J9 W g cap xs)(hb:Below B W V)(hg:g<B):J9 V g cap xs:=by
 obtain⟨rest,h1,h2⟩:=h;exact⟨rest,(hb.block _ hg).trans h1,h2⟩
theorem J9.next{W V:World}{g cap:Nat}{xs:List α}(h:J9 W g cap xs)(hb:B0 W V):J9 V g cap xs:=h.kept hb h.lt
theorem J9.other{W:World}{g cap:Nat}{xs:List α}(h:J9 W g cap xs){a:Addr}(ha:g≠a.block)(v:Value):J9 (W.setCell a v) g cap xs:=by
 obtain⟨rest,h1,h2⟩:=h;exact⟨rest,(Below.heap_setCell W a v g ha).trans h1,h2⟩
theorem J9.set{W:World}{g cap:Nat}{A B:List α}{x y:α}(h:J9 W g cap (A++x::B)){c:Nat}(hc:c<Lay.k α){v:Value}(hy:Lay.cs y=(Lay.cs x).set c v):J9 (W.setCell ⟨g,A.length*Lay.k α+c,none⟩ v) g cap (A++y::B):=by
 obtain⟨rest,h1,h2,h3⟩:=h;refine⟨rest,?_,by simpa using h2,by simpa using h3⟩;rw[GU v h1,<-AH9 A x y B c v hc hy];have hlt:A.length*Lay.k α+c<(GH (A++x::B)).length:=by
  rw[GN];simp[Nat.add_mul];omega
 simp[List.set_append_left _ _ hlt]
def H7(W:World)(B:Nat)(v:Value)(xs:List α):Prop:=(v=N0/\xs=[])\/∃g cap,v=.slice (some ⟨g,0,none⟩) xs.length cap/\B<=g/\J9 W g cap xs
theorem H7.seq{W:World}{B:Nat}{v:Value}{xs:List α}(h:H7 W B v xs):IE W v xs:=by
 rcases h with⟨rfl,rfl⟩|⟨g,cap,rfl,_,h⟩
 .exact IE.nil W
 .by_cases h0:xs=[]
  .subst h0;exact .inl ⟨_,cap,rfl,rfl,h.capLe⟩
  .exact .inr ⟨g,0,cap,rfl,h.le,h.capLe,h.lt,h0,h.row⟩
theorem H7.kept{W V:World}{B C:Nat}{v:Value}{xs:List α}(h:H7 W B v xs)(hb:Below C W V)(hC:W.heap.size<=C):H7 V B v xs:=by
 rcases h with h|⟨g,cap,rfl,hB,h⟩
 .exact .inl h
 .exact .inr ⟨g,cap,rfl,hB,h.kept hb (Nat.lt_of_lt_of_le h.lt hC)⟩
theorem H7.next{W V:World}{B:Nat}{v:Value}{xs:List α}(h:H7 W B v xs)(hb:B0 W V):H7 V B v xs:=h.kept hb (Nat.le_refl _)
theorem H7.other{W:World}{B:Nat}{v:Value}{xs:List α}(h:H7 W B v xs){a:Addr}(ha:v.ownBlock≠some a.block)(u:Value):H7 (W.setCell a u) B v xs:=by
 rcases h with h|⟨g,cap,rfl,hB,h⟩
 .exact .inl h
 .exact .inr ⟨g,cap,rfl,hB,h.other (by intro e;apply ha;simp[Value.ownBlock,e]) u⟩
theorem H7.lower{W:World}{B C:Nat}{v:Value}{xs:List α}(h:H7 W B v xs)(hC:C<=B):H7 W C v xs:=by
 rcases h with h|⟨g,cap,rfl,hB,h⟩
 .exact .inl h
 .exact .inr ⟨g,cap,rfl,Nat.le_trans hC hB,h⟩
theorem H7.L9{W:World}{B:Nat}{v:Value}{xs:List α}(h:W.ownsRow B (Lay.ty α) (Lay.k α) v xs.length (GH xs)):H7 W B v xs:=by
 obtain⟨_,⟨rfl,h0⟩|⟨g,cap,cur,rfl,hB,hg,hn,hm,hs,ht⟩⟩:=h
 .exact .inl ⟨rfl,List.eq_nil_of_length_eq_zero h0⟩
 .refine .inr ⟨g,cap,rfl,hB,cur.toList.drop (xs.length*Lay.k α),?_,?_,hn,hm⟩
  .rw[hg,<-ht,List.take_append_drop]
  .have:=Nat.mul_le_mul_right (Lay.k α) hn;simp[hs];omega
theorem H7.row{W:World}{B:Nat}{v:Value}{xs:List α}(h:H7 W B v xs):W.ownsRow B (Lay.ty α) (Lay.k α) v xs.length (GH xs):=by
 refine⟨GN xs,?_⟩;rcases h with⟨rfl,rfl⟩|⟨g,cap,rfl,hB,h⟩
 .exact .inl ⟨rfl,rfl⟩
 .obtain⟨rest,h1,h2,hle,h3⟩:=h;refine .inr ⟨g,cap,_,rfl,hB,h1,hle,h3,by simp[GN,h2],?_⟩;simp[<-GN xs]
theorem H7.slice{W:World}{B:Nat}{v:Value}{xs:List α}(h:H7 W B v xs):∃a c,v=.slice a xs.length c/\c<=maxLen:=by
 rcases h with⟨rfl,rfl⟩|⟨g,cap,rfl,_,h⟩
 .exact⟨none,0,rfl,by decide⟩
 .exact⟨_,_,rfl,h.capLe⟩
end
theorem IC.i0{w:World}{b off:Nat}{xs:List Int}(h:IC w b off (GH xs)){i:Nat}{x:Int}(hi:xs[i]?=some x):w.cell? ⟨b,off+i,none⟩=some (I0 x):=
 h i _ (by have:=GV xs i x hi 0 (by decide);simpa [Lay.k,Lay.cs]using this)
theorem IC.s0{w:World}{b off:Nat}{xs:List (List UInt8)}(h:IC w b off (GH xs)){i:Nat}{x:List UInt8}(hi:xs[i]?=some x):w.cell? ⟨b,off+i,none⟩=some (S0 x):=
 h i _ (by have:=GV xs i x hi 0 (by decide);simpa [Lay.k,Lay.cs]using this)
theorem IC.e0{w:World}{b off:Nat}{xs:List Ev}(h:IC w b off (GH xs)){i:Nat}{x:Ev}(hi:xs[i]?=some x):w.cell? ⟨b,off+i*2,none⟩=some (I0 x.k):=
 h (i*2) _ (GV xs i x hi 0 (by decide))
theorem IC.e1{w:World}{b off:Nat}{xs:List Ev}(h:IC w b off (GH xs)){i:Nat}{x:Ev}(hi:xs[i]?=some x):w.cell? ⟨b,off+i*2+1,none⟩=some (S0 x.p):=by
 rw[Nat.add_assoc];exact h (i*2+1) _ (GV xs i x hi 1 (by decide))
theorem GY{w:World}{o:Obj}{w1:World}(h:Below (w.alloc o).heap.size (w.alloc o) w1):B0 w w1:=
 ((Below.refl _ _).alloc (Nat.le_refl _) _).trans (h.mono (by simp))
theorem G9{w W V:World}(h:B0 w W)(h':B0 W V):B0 w V:=h.trans (h'.mono h.size)
theorem G8(w:World)(o:Obj):B0 w (w.alloc o):=(Below.refl _ _).alloc (Nat.le_refl _) _
theorem PU{w:World}{g j:Nat}(v:Value):w.grownBy (w.setCell ⟨g,j,none⟩ v) (some g):=⟨rfl,rfl,rfl,by simp[World.setCell],fun k _ hne=>Below.heap_setCell w ⟨g,j,none⟩ v k (fun e=>hne (by rw[e]))⟩
theorem IL{w w' w'':World}{g:Nat}(h:w.grownBy w' (some g))(h':w'.grownBy w'' (some g)):w.grownBy w'' (some g):=
 ⟨h'.os.trans h.os,h'.tape.trans h.tape,h'.output.trans h.output,Nat.le_trans h.size h'.size,fun k hk hne=>(h'.block k (Nat.lt_of_lt_of_le hk h.size) hne).trans (h.block k hk hne)⟩
theorem MC{g:Nat}{t:TypeId}{fz:Nat×Nat}:∀ (vs:List Value) (o:Nat) (w:World) (l:List Value),w.heap[g]?=some (.cells l.toArray t fz)->o+vs.length<=l.length->
  (w.setCells g o vs).heap[g]?=some (.cells (l.take o++vs++l.drop (o+vs.length)).toArray t fz)
 |[],o,w,l,h,_=>by simpa [World.setCells]using h
 |v::r,o,w,l,h,hl=>by
  have h1:(w.setCell ⟨g,o,none⟩ v).heap[g]?=some (.cells (l.set o v).toArray t fz):=by rw[GU v h];simp
  rw[World.setCells,MC r (o+1) _ _ h1 (by simp at hl⊢;omega)];have ho:o<l.length:=by simp at hl;omega
  have e1:(l.set o v).take (o+1)=l.take o++[v]:=by
   rw[List.take_set,List.take_succ_eq_append_getElem ho,List.set_append_right _ _ (by simp;omega)];simp[Nat.min_eq_left (Nat.le_of_lt ho)]
  have e2:(l.set o v).drop (o+1+r.length)=l.drop (o+(r.length+1)):=by
   rw[List.drop_set_of_lt (by omega)];congr 1;omega
  rw[e1,e2];simp
theorem H8{g:Nat}:∀ (vs:List Value) (o:Nat) (w:World),w.grownBy (w.setCells g o vs) (some g)
 |[],_,_=>⟨rfl,rfl,rfl,Nat.le_refl _,fun _ _ _=>rfl⟩
 |v::r,o,_=>IL (PU v) (H8 r (o+1) _)
section
variable {α:Type} [Lay α]
theorem J9.splice{W:World}{g cap:Nat}{pre tl:List α}(h:J9 W g cap (pre++tl))(new:List α)(hfit:pre.length+new.length<=cap):J9 (W.setCells g (pre.length*Lay.k α) (GH new)) g cap (pre++new):=by
 obtain⟨rest,h1,h2,h4,h3⟩:=h;have hlen:(GH (pre++tl)++rest).length=cap*Lay.k α:=by rw[List.length_append,GN];exact h2
 have hf:pre.length*Lay.k α+new.length*Lay.k α<=cap*Lay.k α:=by rw[<-Nat.add_mul];exact Nat.mul_le_mul_right _ hfit
 refine⟨(GH (pre++tl)++rest).drop (pre.length*Lay.k α+(GH new).length),?_,?_,by simpa using hfit,h3⟩
 .rw[MC (GH new) (pre.length*Lay.k α) W _ h1 (by rw[hlen,GN];omega),H6 pre new]
  congr 3
  have e:GH (pre++tl)++rest=GH pre++(GH tl++rest):=by rw[H6,List.append_assoc]
  rw[e,<-GN pre,List.take_left]
 .rw[List.length_drop,hlen,GN,List.length_append,Nat.add_mul];omega
theorem J9.spare{W:World}{g cap:Nat}{fs:List α}(h:J9 W g cap fs)(vs:List Value)(o:Nat)(ho:fs.length*Lay.k α<=o)(hfit:o+vs.length<=cap*Lay.k α):J9 (W.setCells g o vs) g cap fs:=by
 obtain⟨rest,h1,h2,h4,h3⟩:=h;have hlen:(GH fs++rest).length=cap*Lay.k α:=by rw[List.length_append,GN];exact h2
 have hc:=GN fs;refine⟨rest.take (o-fs.length*Lay.k α)++vs++(GH fs++rest).drop (o+vs.length),?_,?_,h4,h3⟩
 .rw[MC vs o W _ h1 (by rw[hlen];omega)]
  congr 2
  rw[List.take_append,List.take_of_length_le (by omega),hc];simp only[List.append_assoc]
 .simp only[List.length_append,List.length_take,List.length_drop,hc];omega
theorem J9.uI{W:World}{g cap:Nat}{A B:List α}{y:α}(h:J9 W g cap (A++y::B))(x:α):J9 (W.setCells g (A.length*Lay.k α) (Lay.cs x)) g cap (A++x::B):=by
 obtain⟨rest,h1,h2,h4,h3⟩:=h;have hlen:(GH (A++y::B)++rest).length=cap*Lay.k α:=by rw[List.length_append,GN];exact h2
 refine⟨rest,?_,by simpa using h2,by simpa using h4,h3⟩;have hA:=GN A;have hx3:(Lay.cs x).length=Lay.k α:=Lay.len x;have hy3:(Lay.cs y).length=Lay.k α:=Lay.len y;rw[MC (Lay.cs x) (A.length*Lay.k α) W _ h1 (by rw[hlen,hx3];simp[Nat.add_mul]at h2;omega)];have e:GH (A++y::B)++rest=GH A++(Lay.cs y++(GH B++rest)):=by simp[H6,JK]
 have e':GH (A++x::B)++rest=GH A++(Lay.cs x++(GH B++rest)):=by simp[H6,JK]
 rw[e,e']
 congr 2
 rw[hx3,<-hA,List.take_left,show (GH A).length+Lay.k α=(GH A++Lay.cs y).length by rw[List.length_append,hy3],<-List.append_assoc (GH A) (Lay.cs y),List.drop_left,List.append_assoc]
theorem J9.some{W:World}{g cap:Nat}{fs:List α}(h:J9 W g cap fs){j:Nat}(hj:j<cap*Lay.k α):(W.cell? ⟨g,j,none⟩).isSome=true:=by
 obtain⟨rest,h1,h2,_⟩:=h;have hl:j<(GH fs++rest).length:=by rw[List.length_append,GN,h2];exact hj
 rw[List.length_append]at hl;simp[World.cell?,h1,hl]
theorem J9.drew{W:World}{g cap:Nat}{fs:List α}(h:J9 W g cap fs):J9 W.drew g cap fs:=h
def JM(W:World)(b:Nat)(x:α):Prop:=W.heap[b]?=some (.cells (Lay.cs x).toArray (Lay.ty α) (0,0))
theorem JM.row{W:World}{b:Nat}{x:α}(h:JM W b x):∀j v,(Lay.cs x)[j]?=some v->W.cell? ⟨b,0+j,none⟩=some v:=by
 intro j v hj;unfold JM at h;simp[World.cell?,h,hj]
end
theorem J5(ss:List Int):(GH ss).length=ss.length:=(GN ss).trans (Nat.mul_one _)
structure Touch(F:Nat->Prop)(w w':World):Prop where
 os:w'.os=w.os
 tape:w'.tape=w.tape
 output:w'.output=w.output
 size:w.heap.size<=w'.heap.size
 block:∀k,k<w.heap.size->¬F k->w'.heap[k]?=w.heap[k]?
theorem Touch.refl(F:Nat->Prop)(w:World):Touch F w w:=⟨rfl,rfl,rfl,Nat.le_refl _,fun _ _ _=>rfl⟩
theorem Touch.trans{F:Nat->Prop}{a b c:World}(h:Touch F a b)(k:Touch F b c):Touch F a c:=
 ⟨k.os.trans h.os,k.tape.trans h.tape,k.output.trans h.output,Nat.le_trans h.size k.size,fun i hi hf=>(k.block i (Nat.lt_of_lt_of_le hi h.size) hf).trans (h.block i hi hf)⟩
theorem Touch.of_below{F:Nat->Prop}{w w':World}(h:B0 w w'):Touch F w w':=⟨h.os,h.tape,h.output,h.size,fun k hk _=>h.block k hk⟩
theorem Touch.RG{F:Nat->Prop}{w w':World}{r:Option Nat}(h:w.grownBy w' r)(hr:∀k,r=some k->F k):Touch F w w':=⟨h.os,h.tape,h.output,h.size,fun k hk hf=>h.block k hk (fun e=>hf (hr k e.symm))⟩
theorem Touch.set{F:Nat->Prop}{w:World}{a:Addr}(hf:F a.block)(v:Value):Touch F w (w.setCell a v):=⟨rfl,rfl,rfl,by simp[World.setCell],fun k _ hn=>Below.heap_setCell w a v k (fun e=>hn (by rw[e];exact hf))⟩
theorem Touch.drew{F:Nat->Prop}{w w':World}(h:Touch F w w'):Touch F w w'.drew:=⟨h.os,h.tape,h.output,h.size,h.block⟩
theorem Touch.mono{F G:Nat->Prop}{w w':World}(h:Touch F w w')(hg:∀k,k<w.heap.size->F k->G k):Touch G w w':=⟨h.os,h.tape,h.output,h.size,fun k hk hn=>h.block k hk (fun hf=>hn (hg k hk hf))⟩
theorem Touch.below{F:Nat->Prop}{w w':World}{B:Nat}(h:Touch F w w')(hB:B<=w.heap.size)(hF:∀k,F k->B<=k):Below B w w':=
 ⟨h.os,h.tape,h.output,h.size,fun k hk=>h.block k (Nat.lt_of_lt_of_le hk hB) (fun hf=>by have:=hF k hf;omega)⟩
theorem H7.low{α:Type}[Lay α]{W:World}{B:Nat}{v:Value}{xs:List α}(h:H7 W B v xs)(k:Nat)(hk:v.ownBlock=some k):k<W.heap.size:=by
 rcases h with⟨rfl,rfl⟩|⟨g,cap,rfl,_,h⟩
 .simp[Value.ownBlock]at hk
 .simp only[Value.ownBlock,Option.some.injEq]at hk;rw[<-hk];exact h.lt
theorem H7.grown{α:Type}[Lay α]{W V:World}{B:Nat}{v:Value}{xs:List α}(h:H7 W B v xs){r:Option Nat}(hg:W.grownBy V r)(hr:∀k,v.ownBlock=some k->some k≠r):H7 V B v xs:=by
 rcases h with h|⟨g,cap,rfl,hB,h⟩
 .exact .inl h
 .obtain⟨rest,h1,h2⟩:=h;have hlt:=(Array.getElem?_eq_some_iff.1 h1).1;exact .inr ⟨g,cap,rfl,hB,rest,(hg.block g hlt (hr g rfl)).trans h1,h2⟩
theorem I8{w:World}{a:Addr}{v:Value}(h:w.cell? a=some v):w.setCell a v=w:=by
 obtain⟨heap,tape,drawn,os,output⟩:=w;simp only[World.setCell,World.cell?]at*
 congr 1
 apply Array.ext_getElem?
 intro k;rw[Array.getElem?_modify];by_cases hk:a.block=k
 .subst hk;simp only[if_true]
  cases ho:heap[a.block]? with
  |none=>rfl
  |some o=>
   rw[ho]at h
   cases o with
   |cells c e fz=>
    simp only at h;by_cases hs:a.spot.isSome=true
    .simp[hs]at h
    .simp only[hs]at h;simp[hs];have hlt:a.off<c.size:=(Array.getElem?_eq_some_iff.1 (by simpa using h)).1;have hv:c[a.off]=v:=(Array.getElem?_eq_some_iff.1 (by simpa using h)).2;rw[<-hv];simp[Array.setIfInBounds,hlt]
   |_=>simp at h
 .simp[hk]
theorem I9{W V:World}(h:Below W.drew.heap.size W.drew V):B0 W V:=((Below.refl _ W).drew).trans h
theorem CG6:(Tryz.prog.info? 46).map (fun i=>(i.zero,i.size,i.bytes))=some (some (.agg #[I0 0,.string ⟨#[]⟩]),2,24):=by kernel_rfl
theorem CS7:∃i0,Tryz.prog.info? 46=some i0/\i0.zero=some (.agg #[I0 0,.string ⟨#[]⟩])/\i0.size=2/\i0.bytes=24:=by
 obtain⟨i0,h,e⟩:=Option.map_eq_some_iff.1 CG6;simp only[Prod.mk.injEq]at e;exact⟨i0,h,e⟩
theorem Q8{α:Type}[Lay α]{W:World}{g:Nat}{x:α}(h:JM W g x)(j:Nat)(u:Value)(hj:(Lay.cs x)[j]?=some u):W.cell? ((⟨g,0,none⟩:Addr).add j)=some u:=by
 rw[Addr.add_lit];exact h.row j u hj
theorem zF(w:World)(k:Int)(p:List UInt8):JM (w.alloc (.cells #[I0 k,S0 p] 46)) w.heap.size (⟨k,p⟩:Ev):=heap_alloc_new w _
def J7(t:GK):Value:=.agg #[I0 t.z,I0 t.o,I0 t.s,S0 t.p,S0 t.d,I0 t.v,I0 t.w]
def MW(t:GK):List Value:=[I0 t.z,I0 t.o,I0 t.s,S0 t.p,S0 t.d,I0 t.v,I0 t.w]
def KH:List GK->List Value
 |[]=>[]
 |t::r=>MW t++KH r
theorem ZY:∀ts:List GK,(KH ts).length=ts.length*7
 |[]=>rfl
 |t::r=>by rw[KH,List.length_append,ZY r];simp[MW];omega
theorem RI:∀a b:List GK,KH (a++b)=KH a++KH b
 |[],_=>rfl
 |t::r,b=>by rw[List.cons_append,KH,KH,RI r b,List.append_assoc]
theorem zG(a:List GK)(t:GK):KH (a++[t])=KH a++MW t:=by rw[RI,KH,KH,List.append_nil]
theorem OJ:∀ (ts:List GK) (i:Nat) (t:GK),ts[i]?=some t->∀c,c<7->(KH ts)[i*7+c]?=(MW t)[c]?
 |[],i,t,h,_,_=>by simp at h
 |x::r,0,t,h,c,hc=>by
  simp at h;subst h;rw[KH,List.getElem?_append_left (by simp[MW];omega)];simp
 |x::r,i+1,t,h,c,hc=>by
  rw[KH,List.getElem?_append_right (by simp[MW];omega),<-OJ r i t (by simpa using h) c hc]
  congr 1
  simp[MW];omega
theorem mX(t:GK):∀u∈MW t,u.oneCell'=true:=by
 intro u hu;simp[MW]at hu;rcases hu with rfl|rfl|rfl|rfl|rfl|rfl|rfl<;>rfl
theorem IC.z{w:World}{b off:Nat}{ts:List GK}(h:IC w b off (KH ts)){i:Nat}{t:GK}(hi:ts[i]?=some t):w.cell? ⟨b,off+i*7,none⟩=some (I0 t.z):=
 h (i*7) _ (by have:=OJ ts i t hi 0 (by omega);simpa [MW]using this)
theorem IC.o{w:World}{b off:Nat}{ts:List GK}(h:IC w b off (KH ts)){i:Nat}{t:GK}(hi:ts[i]?=some t):w.cell? ⟨b,off+i*7+1,none⟩=some (I0 t.o):=by
 rw[Nat.add_assoc];exact h (i*7+1) _ (by have:=OJ ts i t hi 1 (by omega);simpa [MW]using this)
theorem IC.s{w:World}{b off:Nat}{ts:List GK}(h:IC w b off (KH ts)){i:Nat}{t:GK}(hi:ts[i]?=some t):w.cell? ⟨b,off+i*7+2,none⟩=some (I0 t.s):=by
 rw[Nat.add_assoc];exact h (i*7+2) _ (by have:=OJ ts i t hi 2 (by omega);simpa [MW]using this)
theorem IC.p{w:World}{b off:Nat}{ts:List GK}(h:IC w b off (KH ts)){i:Nat}{t:GK}(hi:ts[i]?=some t):w.cell? ⟨b,off+i*7+3,none⟩=some (S0 t.p):=by
 rw[Nat.add_assoc];exact h (i*7+3) _ (by have:=OJ ts i t hi 3 (by omega);simpa [MW]using this)
theorem IC.d{w:World}{b off:Nat}{ts:List GK}(h:IC w b off (KH ts)){i:Nat}{t:GK}(hi:ts[i]?=some t):w.cell? ⟨b,off+i*7+4,none⟩=some (S0 t.d):=by
 rw[Nat.add_assoc];exact h (i*7+4) _ (by have:=OJ ts i t hi 4 (by omega);simpa [MW]using this)
theorem IC.v{w:World}{b off:Nat}{ts:List GK}(h:IC w b off (KH ts)){i:Nat}{t:GK}(hi:ts[i]?=some t):w.cell? ⟨b,off+i*7+5,none⟩=some (I0 t.v):=by
 rw[Nat.add_assoc];exact h (i*7+5) _ (by have:=OJ ts i t hi 5 (by omega);simpa [MW]using this)
theorem IC.w{w:World}{b off:Nat}{ts:List GK}(h:IC w b off (KH ts)){i:Nat}{t:GK}(hi:ts[i]?=some t):w.cell? ⟨b,off+i*7+6,none⟩=some (I0 t.w):=by
 rw[Nat.add_assoc];exact h (i*7+6) _ (by have:=OJ ts i t hi 6 (by omega);simpa [MW]using this)
def NT(w:World)(v:Value)(ts:List GK):Prop:=
 (∃a cap,v=.slice a 0 cap/\ts=[]/\cap<=maxLen)\/
 ∃b off cap,v=.slice (some ⟨b,off,none⟩) ts.length cap/\ts.length<=cap/\cap<=maxLen/\b<w.heap.size/\ts≠[]/\IC w b off (KH ts)
theorem NT.kept{w w':World}{B:Nat}{v:Value}{ts:List GK}(h:NT w v ts)(hb:Below B w w')(hB:w.heap.size<=B):NT w' v ts:=by
 rcases h with h|⟨b,off,cap,rfl,h1,h2,h3,h0,h4⟩
 .exact .inl h
 .exact .inr ⟨b,off,cap,rfl,h1,h2,Nat.lt_of_lt_of_le h3 hb.size,h0,h4.kept hb (Nat.lt_of_lt_of_le h3 hB)⟩
theorem NT.next{w w':World}{v:Value}{ts:List GK}(h:NT w v ts)(hb:B0 w w'):NT w' v ts:=h.kept hb (Nat.le_refl _)
theorem NT.drew{w:World}{v:Value}{ts:List GK}(h:NT w v ts):NT w.drew v ts:=h.next (Below.refl _ _).drew
theorem NT.nil(w:World):NT w (N0) []:=.inl ⟨none,0,rfl,rfl,by decide⟩
theorem MF{w:World}{v:Value}{ts:List GK}(hv:NT w v ts):∃a c,v=.slice a ts.length c:=by
 rcases hv with⟨a,cap,rfl,rfl,_⟩|⟨b,off,cap,rfl,_⟩
 .exact⟨_,_,rfl⟩
 .exact⟨_,_,rfl⟩
theorem YU{w:World}{v:Value}{ts:List GK}(hv:NT w v ts){i:Nat}{t:GK}(hi:ts[i]?=some t):
  ∃b off cap,v=.slice (some ⟨b,off,none⟩) ts.length cap/\b<w.heap.size/\IC w b off (KH ts)/\i<ts.length/\ts.length<=cap/\cap<=maxLen:=by
 have hlt:=(List.getElem?_eq_some_iff.1 hi).1;rcases hv with⟨a,cap,rfl,rfl,_⟩|⟨b,off,cap,rfl,h1,h2,hb,_,hr⟩
 .simp at hi
 .exact⟨b,off,cap,rfl,hb,hr,hlt,h1,h2⟩
def lM(W:World)(B:Nat)(v:Value)(ts:List GK):Prop:=W.ownsRow B 65 7 v ts.length (KH ts)
theorem lM.nil(W:World)(B:Nat):lM W B (N0) []:=⟨rfl,.inl ⟨rfl,rfl⟩⟩
theorem lM.log{W:World}{B:Nat}{v:Value}{ts:List GK}(h:lM W B v ts):NT W v ts:=by
 obtain⟨hl,⟨rfl,h0⟩|⟨g,cap,cur,rfl,hB,hg,hn,hm,hs,ht⟩⟩:=h
 .rw[List.eq_nil_of_length_eq_zero h0];exact NT.nil W
 .by_cases h0:ts=[]
  .subst h0;exact .inl ⟨_,cap,rfl,rfl,hm⟩
  .refine .inr ⟨g,0,cap,rfl,hn,hm,(Array.getElem?_eq_some_iff.1 hg).1,h0,fun j v hj=>?_⟩;have hlt:j<(KH ts).length:=(List.getElem?_eq_some_iff.1 hj).1;have:cur[j]?=some v:=by
    rw[<-ht,List.getElem?_take_of_lt (by rw[hl]at hlt;exact hlt)]at hj;simpa using hj
   simp[World.cell?,hg,this]
theorem lM.next{W V:World}{B:Nat}{v:Value}{ts:List GK}(h:lM W B v ts)(hb:B0 W V):lM V B v ts:=by
 obtain⟨hl,h|⟨g,cap,cur,e,hB,hg,hr⟩⟩:=h
 .exact⟨hl,.inl h⟩
 .exact⟨hl,.inr ⟨g,cap,cur,e,hB,(hb.block _ (Array.getElem?_eq_some_iff.1 hg).1).trans hg,hr⟩⟩
theorem AI1{W:World}{B:Nat}{v:Value}{ts:List GK}(h:lM W B v ts):∃a c,v=.slice a ts.length c:=MF h.log
theorem AI2{W:World}{B:Nat}{v:Value}{ts:List GK}(h:lM W B v ts):∀k,v.ownBlock=some k->B<=k/\k<W.heap.size:=World.ownsRow.lt h
theorem lM.more{W:World}{B:Nat}{v:Value}{ts:List GK}{t:GK}(h:W.ownsRow B 65 7 v (ts.length+1) (KH ts++MW t)):lM W B v (ts++[t]):=by
 unfold lM;rw[zG,List.length_append];exact h
def TAt(W:World)(g:Nat)(t:GK):Prop:=W.heap[g]?=some (.cells #[I0 t.z,I0 t.o,I0 t.s,S0 t.p,S0 t.d,I0 t.v,I0 t.w] 65 (0,0))
theorem TAt.new(W:World)(t:GK):TAt (W.alloc (.cells #[I0 t.z,I0 t.o,I0 t.s,S0 t.p,S0 t.d,I0 t.v,I0 t.w] 65)) W.heap.size t:=heap_alloc_new W _
theorem TAt.next{W V:World}{g:Nat}{t:GK}(h:TAt W g t)(hb:B0 W V):TAt V g t:=(hb.block g (by unfold TAt at h;exact(Array.getElem?_eq_some_iff.1 h).1)).trans h
theorem TAt.lt{W:World}{g:Nat}{t:GK}(h:TAt W g t):g<W.heap.size:=by unfold TAt at h;exact(Array.getElem?_eq_some_iff.1 h).1
theorem TAt.c0{W:World}{g:Nat}{t:GK}(h:TAt W g t):W.cell? ⟨g,0,none⟩=some (I0 t.z):=by unfold TAt at h;simp[World.cell?,h]
theorem TAt.c1{W:World}{g:Nat}{t:GK}(h:TAt W g t):W.cell? ⟨g,1,none⟩=some (I0 t.o):=by unfold TAt at h;simp[World.cell?,h]
theorem TAt.c2{W:World}{g:Nat}{t:GK}(h:TAt W g t):W.cell? ⟨g,2,none⟩=some (I0 t.s):=by unfold TAt at h;simp[World.cell?,h]
theorem TAt.c3{W:World}{g:Nat}{t:GK}(h:TAt W g t):W.cell? ⟨g,3,none⟩=some (S0 t.p):=by unfold TAt at h;simp[World.cell?,h]
theorem TAt.c4{W:World}{g:Nat}{t:GK}(h:TAt W g t):W.cell? ⟨g,4,none⟩=some (S0 t.d):=by unfold TAt at h;simp[World.cell?,h]
theorem TAt.c5{W:World}{g:Nat}{t:GK}(h:TAt W g t):W.cell? ⟨g,5,none⟩=some (I0 t.v):=by unfold TAt at h;simp[World.cell?,h]
theorem TAt.c6{W:World}{g:Nat}{t:GK}(h:TAt W g t):W.cell? ⟨g,6,none⟩=some (I0 t.w):=by unfold TAt at h;simp[World.cell?,h]
theorem TAt.f{W:World}{g:Nat}{t:GK}(h:TAt W g t)(j:Nat):W.frozen? ⟨g,j,none⟩=false:=by unfold TAt at h;simp[World.frozen?,h]
theorem AX5:(Tryz.prog.info? 65).map (fun i=>(i.zero,i.size,i.bytes))=some (some (J7 t0),7,72):=by kernel_rfl
theorem pV:∃i0,Tryz.prog.info? 65=some i0/\i0.zero=some (J7 t0)/\i0.size=7/\i0.bytes=72:=by
 obtain⟨i0,h,e⟩:=Option.map_eq_some_iff.1 AX5;simp only[Prod.mk.injEq]at e;exact⟨i0,h,e.1,e.2.1,e.2.2⟩
instance layX:Lay GK:=⟨7,MW,65,fun _=>rfl,fun x u hu=>mX x u hu⟩
theorem BH8(ts:List GK):GH ts=KH ts:=by
 induction ts with
 |nil=>rfl
 |cons f r ih=>rw[JK,ih];rfl
theorem OY{w:World}{v:Value}{ts:List GK}:IE w v ts↔NT w v ts:=by unfold IE NT;rw[BH8]
end Go.Proofs.YtnlikdglijgjpaaGreatDoor
