/-
  Part.
-/
import Derived.WalkKit
import Derived.Lib.IndexLaws
import Derived.Laws.Cover1
import Derived.Test.YtbaacalmgfkojaaGreatDoorProg
import Derived.Deep.LoopGhost
import Derived.Lib.QuietBelow
set_option maxRecDepth 20000
set_option maxHeartbeats 8000000
namespace Go.Proofs.YtbaacalmgfkojaaGreatDoor
open Go.RowKit
abbrev I0 (x:Int):Value:=.int .i64 x
abbrev S0 (l:List UInt8):Value:=.string ⟨l.toArray⟩
abbrev N0:Value:=.slice none 0 0
abbrev P0 (k:Nat):Value:=.pointer (some ⟨k,0,none⟩)
abbrev R0 (w:World)(x:Value):Ending->World->Prop:=fun e w'=>e=.returned x/\Below w.heap.size w w'
abbrev B0 (w W:World):Prop:=Below w.heap.size w W
theorem G6{p:Prop}(h:p):Hid p:=h
theorem G5{p:Prop}(h:Hid p):p:=h
def TJ(c:UInt8):Bool:=(decide (97<=c.toNat)&&decide (c.toNat<=122))||(decide (48<=c.toNat)&&decide (c.toNat<=57))||c.toNat==45||c.toNat==95
def J9(l:List UInt8):Bool:=decide (1<=l.length)&&decide (l.length<=40)&&l.all TJ
theorem gQ(s:ByteArray)(k:Nat)(h:k<s.size):s.data.toList.take (k+1)=s.data.toList.take k++[s[k]]:=by
 rw[List.take_succ_eq_append_getElem (by simpa using h)];rfl
theorem UK(s:ByteArray)(k:Nat)(h:k<s.size)(p:UInt8->Bool)(h1:(s.data.toList.take k).all p=true)(h2:p s[k]=true):(s.data.toList.take (k+1)).all p=true:=by
 rw[gQ s k h,List.all_append,h1];simpa using h2
theorem YH(s:ByteArray)(k:Nat)(h:s.size<=k)(p:UInt8->Bool)(h1:(s.data.toList.take k).all p=true):s.data.toList.all p=true:=by
 rwa[List.take_of_length_le (by simpa using h)]at h1
theorem bD(s:ByteArray)(k:Nat)(h:k<s.size)(p:UInt8->Bool)(h2:p s[k]=false):s.data.toList.all p=false:=by
 rw[List.all_eq_false];exact⟨s[k],by have:s[k]∈s.data:=Array.getElem_mem h;simpa using this,by simp[h2]⟩
theorem Z5(s:ByteArray):s.data.toList.length=s.size:=by simp
theorem rZ(s:ByteArray)(h:s.size<1):J9 s.data.toList=false:=by
 simp only[J9,Z5,show ¬1<=s.size from by omega,decide_false,Bool.false_and]
theorem xX(s:ByteArray)(h:40<s.size):J9 s.data.toList=false:=by
 simp only[J9,Z5,show ¬s.size<=40 from by omega,decide_false,Bool.and_false,Bool.false_and]
theorem lK(s:ByteArray)(h:1<=s.size)(h':s.size<=40):J9 s.data.toList=s.data.toList.all TJ:=by
 simp only[J9,Z5,h,h',decide_true,Bool.true_and]
def KH(z:Int):Bool:=decide (0<=z)&&decide (z<4611686018427387904)
def zIn(n:Int):Bool:=decide (0<=n)&&decide (n<2147483648)
def IW(z:Int):Int:=if KH z then z/2147483648 else 0
def lM(z:Int):Int:=if KH z then z%2147483648 else 0
def KU(e c:Int):Int:=if zIn e&&zIn c then e*2147483648+c else 0
def NG(e c:Int):Int:=if zIn e&&zIn c then 0 else 3
def gU(z:Int):Int:=if KH z&&zIn (z%2147483648+1)then z+1 else 0
def VO(z:Int):Int:=if KH z then(if zIn (z%2147483648+1)then 0 else 6)else 3
theorem LX{z:Int}:KH z=true↔0<=z/\z<4611686018427387904:=by simp[KH]
theorem PD{z:Int}:zIn z=true↔0<=z/\z<2147483648:=by simp[zIn]
theorem A39{z:Int}(h:¬ (0<=z/\z<2147483648)):zIn z=false:=by
 cases hg:zIn z with
 |false=>rfl
 |true=>exact absurd (PD.1 hg) h
theorem LY{z:Int}(h:KH z=true):IW z=z/2147483648:=by rw[IW,if_pos h]
theorem sD{z:Int}(h:KH z=false):IW z=0:=by rw[IW,h];rfl
theorem XG{z:Int}(h:KH z=true):lM z=z%2147483648:=by rw[lM,if_pos h]
theorem AO4{z:Int}(h:KH z=false):lM z=0:=by rw[lM,h];rfl
theorem TP{e c:Int}(he:zIn e=true)(hc:zIn c=true):KU e c=e*2147483648+c/\NG e c=0:=by
 constructor<;>simp[KU,NG,he,hc]
theorem fD{e c:Int}(h:zIn e=false\/zIn c=false):KU e c=0/\NG e c=3:=by
 rcases h with h|h<;>constructor<;>simp[KU,NG,h]
theorem AO5{z:Int}(h:KH z=false):gU z=0/\VO z=3:=by constructor<;>simp[gU,VO,h]
theorem AD1{z:Int}(h:KH z=true)(h1:zIn (z%2147483648+1)=false):gU z=0/\VO z=6:=by constructor<;>simp[gU,VO,h,h1]
theorem oI{z:Int}(h:KH z=true)(h1:zIn (z%2147483648+1)=true):gU z=z+1/\VO z=0:=by constructor<;>simp[gU,VO,h,h1]
theorem sF(n:Int)(h₀:0<=n)(h₁:n<2^63):IntKind.i64.wrap n=n:=by rw[IntKind.wrap_i64];omega
theorem BU0{e c:Int}(he:0<=e)(he1:e<2147483648)(hc:0<=c)(hc1:c<2147483648):bits .or .i64 (e*2147483648) c=e*2147483648+c:=
 bits_join .i64 63 (by decide) sF 31 (e*2147483648) c (by omega) (by omega) (by omega) hc (by omega) (by omega)
theorem B94{z:Int}(h:0<=z)(h1:z<4611686018427387904):bits .and .i64 z 2147483647=z%2147483648:=
 bits_mask .i64 63 (by decide) sF 31 (by decide) z h (by omega)
theorem oJ{a b:Int}(h:a=b):Ending.returned (I0 a)=.returned (I0 b):=by rw[h]
theorem OU{a b i j:Int}(h:a=b)(h':i=j):Ending.returned (.tuple #[I0 a,I0 i])=.returned (.tuple #[I0 b,I0 j]):=by rw[h,h']
def MV:List UInt8->List (List UInt8)
 |[]=>[[]]
 |c::l=>if c=47 then []::MV l else match MV l with
  |[]=>[[c]]
  |p::ps=>(c::p)::ps
theorem AO6(l:List UInt8):MV l≠[]:=by
 cases l with
 |nil=>simp[MV]
 |cons c l=>
  simp only[MV]
  split
  .simp
  .split<;>simp
theorem dL(l:List UInt8):MV (47::l)=[]::MV l:=by simp[MV]
theorem VP{c:UInt8}(h:c≠47){l p:List UInt8}{ps:List (List UInt8)}(hl:MV l=p::ps):MV (c::l)=(c::p)::ps:=by
 simp[MV,h,hl]
theorem gV:∀l:List UInt8,Lib.indexByte l 47=-1->MV l=[l]
 |[],_=>rfl
 |c::l,h=>by
  have h1:(c==47)=false:=by
   cases hc:(c==47)with
   |false=>rfl
   |true=>rw[Lib.indexByte,if_pos hc]at h;exact absurd h (by decide)
  have h2:Lib.indexByte l 47=-1:=by
   by_cases h3:(Lib.indexByte l 47==-1)=true
   .simpa using h3
   .rw[Lib.indexByte,if_neg (by simp[h1]),if_neg h3]at h;have:=Lib.indexByte_ge l 47;omega
  exact VP (by simpa using h1) (gV l h2)
theorem gW:∀ (l:List UInt8) (i:Nat),Lib.indexByte l 47=i->i<l.length/\MV l=l.take i::MV (l.drop (i+1))
 |[],i,h=>by simp[Lib.indexByte]at h
 |c::l,i,h=>by
  by_cases hc:(c==47)=true
  .rw[Lib.indexByte,if_pos hc]at h;have hi:i=0:=by omega
   subst hi;have:c=47:=by simpa using hc
   subst this;exact⟨by simp,by simp[dL]⟩
  .have hc':c≠47:=by simpa using hc
   by_cases h3:(Lib.indexByte l 47==-1)=true
   .rw[Lib.indexByte,if_neg hc,if_pos h3]at h;omega
   .rw[Lib.indexByte,if_neg hc,if_neg h3]at h;have hge:=Lib.indexByte_ge l 47;have hne:Lib.indexByte l 47≠ -1:=by simpa using h3
    obtain⟨j,rfl⟩:∃j,i=j+1:=⟨i-1,by omega⟩;obtain⟨h4,h5⟩:=gW l j (by omega);exact⟨by simp;omega,by rw[VP hc' h5];simp⟩
theorem gX(l:List UInt8):Lib.indexByte l 47=-1\/∃i:Nat,Lib.indexByte l 47=i:=by
 have:=Lib.indexByte_ge l 47;by_cases h:Lib.indexByte l 47=-1
 .exact .inl h
 .exact .inr ⟨(Lib.indexByte l 47).toNat,by omega⟩
theorem oK(l:List UInt8):∀p∈MV l,p.length<=l.length:=by
 induction l with
 |nil=>intro p hp;simp[MV]at hp;simp[hp]
 |cons c l ih=>
  intro p hp;by_cases hc:c=47
  .subst hc;rw[dL]at hp;rcases List.mem_cons.1 hp with rfl|h
   .simp
   .have:=ih p h;simp;omega
  .cases hl:MV l with
   |nil=>exact absurd hl (AO6 l)
   |cons q qs=>
    rw[VP hc hl]at hp;rcases List.mem_cons.1 hp with rfl|h
    .have:=ih q (by rw[hl];simp);simp;omega
    .have:=ih p (by rw[hl];simp[h]);simp;omega
def Y6(l:List UInt8):List (List UInt8):=if l=[47]then []else MV (Lib.trimPrefix l [47])
def J4(l:List UInt8):Bool:=decide (l.length<=200)&&Lib.hasPrefix l [47]&&(Y6 l).all J9
def C95(c:Nat):Nat:=(c/2)^^^(3988292384*(c%2))
def BQ3:Nat->Nat->Nat
 |0,c=>c
 |n+1,c=>C95 (BQ3 n c)
def CL1(c:Nat)(b:UInt8):Nat:=BQ3 8 (c^^^b.toNat)
def B95(l:List UInt8):Nat:=l.foldl CL1 4294967295
def A40(l:List UInt8):Nat:=4294967295^^^B95 l
theorem AO7:(2:Nat)^32=4294967296:=by decide
theorem Z7{a b:Nat}(ha:a<4294967296)(hb:b<4294967296):a^^^b<4294967296:=by
 have h:=Nat.xor_lt_two_pow (n:=32) (x:=a) (y:=b) (by rw[AO7];exact ha) (by rw[AO7];exact hb);rwa[AO7]at h
theorem BU1{c:Nat}(h:c<4294967296):C95 c<4294967296:=by
 unfold C95;refine Z7 (by omega) ?_;rcases Nat.mod_two_eq_zero_or_one c with e|e<;>rw[e]<;>decide
theorem xY{c:Nat}(h:c<4294967296):∀n,BQ3 n c<4294967296
 |0=>h
 |n+1=>BU1 (xY h n)
theorem AO8(b:UInt8):b.toNat<4294967296:=by have:=b.toNat_lt;omega
theorem BU2{c:Nat}(h:c<4294967296)(b:UInt8):CL1 c b<4294967296:=xY (Z7 h (AO8 b)) 8
theorem B96(l:List UInt8):∀c,c<4294967296->l.foldl CL1 c<4294967296:=by
 induction l with
 |nil=>intro c h;exact h
 |cons b l ih=>intro c h;exact ih _ (BU2 h b)
theorem AO9(l:List UInt8):B95 l<4294967296:=B96 l _ (by decide)
theorem AP0(l:List UInt8):A40 l<4294967296:=Z7 (by decide) (AO9 l)
theorem AP1(l:List UInt8)(b:UInt8):B95 (l++[b])=CL1 (B95 l) b:=by simp[B95]
theorem sG(n:Int)(h₀:0<=n)(h₁:n<2^32):IntKind.u32.wrap n=n:=by rw[IntKind.wrap_u32];omega
theorem sH(k:IntKind)(j:Nat)(hj:j<=k.bits)(hk:∀n:Int,0<=n->n<2^j->k.wrap n=n)(a b:Nat)(ha:a<2^j)(hb:b<2^j):bits .xor k a b=((a^^^b:Nat):Int):=by
 have hp:2^j<=2^k.bits:=Nat.pow_le_pow_right (by decide) hj;have ha':a%2^k.bits=a:=Nat.mod_eq_of_lt (Nat.lt_of_lt_of_le ha hp);have hb':b%2^k.bits=b:=Nat.mod_eq_of_lt (Nat.lt_of_lt_of_le hb hp);simp only[bits,BitVec.ofInt_natCast,BitVec.toNat_xor,BitVec.toNat_ofNat,ha',hb'];exact hk _ (Int.natCast_nonneg _) (by exact_mod_cast Nat.xor_lt_two_pow ha hb)
theorem xZ{a b:Nat}(ha:a<4294967296)(hb:b<4294967296):bits .xor .u32 a b=((a^^^b:Nat):Int):=
 sH .u32 32 (by decide) sG a b (by rw[AO7];exact ha) (by rw[AO7];exact hb)
theorem B97{a:Nat}(ha:a<4294967296):bits .and .u32 a 1=((a%2:Nat):Int):=by
 have h:=bits_mask .u32 32 (by decide) sG 1 (by decide) (a:Int) (by omega) (by omega)
 exact_mod_cast h
def be:Nat->Nat->List UInt8
 |0,_=>[]
 |k+1,n=>be k (n/256)++[UInt8.ofNat n]
def un(l:List UInt8):Nat:=l.foldl (fun a b=>a*256+b.toNat) 0
theorem IE:∀k n,(be k n).length=k
 |0,_=>rfl
 |k+1,n=>by rw[be,List.length_append,IE k];rfl
theorem yA(l:List UInt8)(b:UInt8):un (l++[b])=un l*256+b.toNat:=by simp[un]
theorem gY:∀k n,n<256^k->un (be k n)=n
 |0,n,h=>by
  have:n=0:=by simpa using h
  subst this;rfl
 |k+1,n,h=>by
  rw[be,yA,gY k (n/256) (by rw[Nat.pow_succ]at h;omega)];have:(UInt8.ofNat n).toNat=n%256:=by simp
  omega
theorem B98(l:List UInt8):un l<256^l.length:=by
 induction h:l.length generalizing l with
 |zero=>obtain rfl:=List.eq_nil_of_length_eq_zero h;decide
 |succ k ih=>
  rcases List.eq_nil_or_concat l with rfl|⟨a,b,rfl⟩
  .simp at h
  .rw[List.concat_eq_append]at h⊢;have hk:a.length=k:=by simpa using h
   have h1:=ih a hk;have h2:=b.toNat_lt;rw[yA,Nat.pow_succ];omega
structure GI where
 z:Int
 o:Int
 s:Int
 p:List UInt8
 d:List UInt8
 v:Int
 w:Int
def t0:GI:=⟨0,0,0,[],[],0,0⟩
def yB(n least:Int):Bool:=decide (least<=n)&&decide (n<=2147483647)
theorem UL{n k:Int}:yB n k=true↔k<=n/\n<=2147483647:=by simp[yB]
def opB(o:Int):Bool:=decide (1<=o)&&decide (o<=5)
theorem gZ{o:Int}:opB o=true↔1<=o/\o<=5:=by simp[opB]
def B90(t:GI):Bool:=KH t.z&&yB t.s 1&&yB t.v 0&&yB t.w 0
theorem oL{t:GI}:B90 t=true↔KH t.z=true/\yB t.s 1=true/\yB t.v 0=true/\yB t.w 0=true:=by simp[B90,and_assoc]
def fmB(t:GI):Bool:=
 if t.o=3 then J4 t.p&& !(t.p==[47])&&t.v==0
 else if t.o=4 then J4 t.p&& !(t.p==[47])&&t.d==[]&&t.v==0&&t.w==0
 else if t.o=5 then J4 t.p&&t.w==0
 else t.p==[]&&t.d==[]&&t.v==0&&t.w==0
def gdE(t:GI):Int:=
 if opB t.o then(if B90 t then(if t.d.length<=256 then(if fmB t then 0 else 2)else 1)else 3)else 4
theorem B99{t:GI}(h:opB t.o=false):gdE t=4:=by simp[gdE,h]
theorem Z9{t:GI}(h:opB t.o=true)(h1:B90 t=false):gdE t=3:=by simp[gdE,h,h1]
theorem BA0{t:GI}(h:opB t.o=true)(h1:B90 t=true)(h2:256<t.d.length):gdE t=1:=by
 simp[gdE,h,h1,show ¬t.d.length<=256 from by omega]
theorem BA1{t:GI}(h:opB t.o=true)(h1:B90 t=true)(h2:t.d.length<=256)(h3:fmB t=false):gdE t=2:=by simp[gdE,h,h1,h2,h3]
theorem C96{t:GI}(h:opB t.o=true)(h1:B90 t=true)(h2:t.d.length<=256)(h3:fmB t=true):gdE t=0:=by simp[gdE,h,h1,h2,h3]
theorem fE{t:GI}(h:gdE t=0):opB t.o=true/\B90 t=true/\t.d.length<=256/\fmB t=true:=by
 unfold gdE at h
 split at h
 .split at h
  .split at h
   .split at h
    .exact⟨‹_›,‹_›,‹_›,‹_›⟩
    .exact absurd h (by decide)
   .exact absurd h (by decide)
  .exact absurd h (by decide)
 .exact absurd h (by decide)
theorem yC{p:List UInt8}(h:J4 p=true):p.length<=200:=by
 unfold J4 at h;simp only[Bool.and_eq_true,decide_eq_true_eq]at h;exact h.1.1
theorem BQ4{t:GI}(h:fmB t=true):t.p.length<=200:=by
 unfold fmB at h
 split at h
 .simp only[Bool.and_eq_true]at h;exact yC h.1.1
 .split at h
  .simp only[Bool.and_eq_true]at h;exact yC h.1.1.1.1
  .split at h
   .simp only[Bool.and_eq_true]at h;exact yC h.1
   .simp only[Bool.and_eq_true,beq_iff_eq]at h;rw[h.1.1.1];decide
theorem VQ{t:GI}(h:gdE t=0):(0<=t.z/\t.z<4611686018427387904)/\(1<=t.o/\t.o<=5)/\(1<=t.s/\t.s<=2147483647)/\(0<=t.v/\t.v<=2147483647)/\(0<=t.w/\t.w<=2147483647)/\t.p.length<=200/\t.d.length<=256:=by
 obtain⟨h1,h2,h3,h4⟩:=fE h;obtain⟨a,b,c,d⟩:=oL.1 h2;exact⟨LX.1 a,gZ.1 h1,UL.1 b,UL.1 c,UL.1 d,BQ4 h4,h3⟩
def QJ(t:GI):List UInt8:=
 be 8 t.z.toNat++(be 1 t.o.toNat++(be 4 t.s.toNat++(be 4 t.v.toNat++(be 4 t.w.toNat++(be 1 t.p.length++(t.p++(be 2 t.d.length++t.d)))))))
def MN(b:List UInt8):List UInt8:=84::(be 2 b.length++b)
def QK(t:GI):List UInt8:=MN (QJ t)++be 4 (A40 (MN (QJ t)))
theorem QA(t:GI):(QJ t).length=24+t.p.length+t.d.length:=by
 simp only[QJ,List.length_append,IE];omega
theorem UM(b:List UInt8):(MN b).length=b.length+3:=by
 simp only[MN,List.length_cons,List.length_append,IE];omega
theorem UN(t:GI):(QK t).length=31+t.p.length+t.d.length:=by
 simp only[QK,List.length_append,IE,UM,QA];omega
def XH(b:List UInt8):Nat:=un ((b.drop 21).take 1)
def xP(b:List UInt8):Nat:=un ((b.drop (22+XH b)).take 2)
def tOf(b:List UInt8):GI:=
 ⟨wrap64 (un (b.take 8)),un ((b.drop 8).take 1),un ((b.drop 9).take 4),(b.drop 22).take (XH b),b.drop (24+XH b),un ((b.drop 13).take 4),un ((b.drop 17).take 4)⟩
def B91(b:List UInt8):Bool:=decide (24+XH b<=b.length)&&decide (b.length=24+XH b+xP b)
def rU(b:List UInt8):Int:=if B91 b then gdE (tOf b)else 2
def AP2(b:List UInt8):GI:=if rU b=0 then tOf b else t0
def lenOf(s:List UInt8):Nat:=un ((s.drop 1).take 2)
def VR(s:List UInt8):Bool:=s.take 1==[84]&&decide (lenOf s<=1024)&&decide (lenOf s+7<=s.length)
def AP3(s:List UInt8):Bool:=un ((s.drop (lenOf s+3)).take 4)==A40 (s.take (lenOf s+3))
def UO(s:List UInt8):List UInt8:=(s.drop 3).take (lenOf s)
def bF(s:List UInt8):Int:=if VR s then(if AP3 s then rU (UO s)else 5)else 2
def lN(s:List UInt8):GI:=if bF s=0 then tOf (UO s)else t0
def rV(s:List UInt8):Int:=if bF s=0 then(lenOf s+7:Nat)else 0
theorem bG{s:List UInt8}(h:VR s=false):bF s=2/\lN s=t0/\rV s=0:=by
 have e:bF s=2:=by simp[bF,h]
 exact⟨e,by simp[lN,e],by simp[rV,e]⟩
theorem BU3{s:List UInt8}(h:VR s=true)(h1:AP3 s=false):bF s=5/\lN s=t0/\rV s=0:=by
 have e:bF s=5:=by simp[bF,h,h1]
 exact⟨e,by simp[lN,e],by simp[rV,e]⟩
theorem BA2{s:List UInt8}(h:VR s=true)(h1:AP3 s=true){e:Int}(h2:rU (UO s)=e)(h3:e≠0):bF s=e/\lN s=t0/\rV s=0:=by
 have e:bF s=e:=by simp[bF,h,h1,h2]
 exact⟨e,by rw[lN,e,if_neg h3],by rw[rV,e,if_neg h3]⟩
theorem BQ5{s:List UInt8}(h:VR s=true)(h1:AP3 s=true)(h2:rU (UO s)=0):bF s=0/\lN s=tOf (UO s)/\rV s=(lenOf s+7:Nat):=by
 have e:bF s=0:=by simp[bF,h,h1,h2]
 exact⟨e,by rw[lN,e,if_pos rfl],by rw[rV,e,if_pos rfl]⟩
theorem BU4{b:List UInt8}(h:B91 b=false):rU b=2/\AP2 b=t0:=by
 have e:rU b=2:=by simp[rU,h]
 exact⟨e,by simp[AP2,e]⟩
theorem C97{b:List UInt8}(h:B91 b=true)(h1:gdE (tOf b)≠0):rU b=gdE (tOf b)/\AP2 b=t0:=by
 have e:rU b=gdE (tOf b):=by simp[rU,h]
 exact⟨e,by rw[AP2,e,if_neg h1]⟩
theorem C98{b:List UInt8}(h:B91 b=true)(h1:gdE (tOf b)=0):rU b=0/\AP2 b=tOf b:=by
 have e:rU b=0:=by simp[rU,h,h1]
 exact⟨e,by rw[AP2,e,if_pos rfl]⟩
theorem bH{s:List UInt8}:VR s=true↔s.take 1=[84]/\lenOf s<=1024/\lenOf s+7<=s.length:=by
 simp[VR,and_assoc]
theorem ZA{s:List UInt8}(h:¬ (s.take 1=[84]/\lenOf s<=1024/\lenOf s+7<=s.length)):VR s=false:=by
 cases hw:VR s with
 |false=>rfl
 |true=>exact absurd (bH.1 hw) h
theorem ZB{b:List UInt8}:B91 b=true↔24+XH b<=b.length/\b.length=24+XH b+xP b:=by simp[B91]
theorem A41{s:List UInt8}:AP3 s=true↔un ((s.drop (lenOf s+3)).take 4)=A40 (s.take (lenOf s+3)):=by simp[AP3]
theorem sJ{a b:List UInt8}{k:Nat}(h:a.length=k):(a++b).take k=a/\(a++b).drop k=b:=by
 subst h;simp
theorem OV{l a b:List UInt8}{j k:Nat}(h:l.drop j=a++b)(hk:a.length=k):l.drop (j+k)=b:=by
 rw[<-List.drop_drop,h];exact(sJ hk).2
theorem MW{l a b:List UInt8}{j k:Nat}(h:l.drop j=a++b)(hk:a.length=k):(l.drop j).take k=a:=by
 rw[h];exact(sJ hk).1
theorem C99{n:Int}(h:0<=n)(h1:n<9223372036854775808):wrap64 n=n:=by unfold wrap64;omega
theorem BQ6{t:GI}(h:gdE t=0):B91 (QJ t)=true/\tOf (QJ t)=t:=by
 obtain⟨hz,ho,hs,hv,hw,hp,hd⟩:=VQ h;have e0:(QJ t).drop 0=be 8 t.z.toNat++_:=rfl;have e1:=OV e0 (IE 8 _);have e2:=OV e1 (IE 1 _);have e3:=OV e2 (IE 4 _);have e4:=OV e3 (IE 4 _);have e5:=OV e4 (IE 4 _);have e6:=OV e5 (IE 1 _);have e7:=OV e6 (rfl:t.p.length=t.p.length);have e8:=OV e7 (IE 2 _);have g0:=MW e0 (IE 8 _);have g1:=MW e1 (IE 1 _);have g2:=MW e2 (IE 4 _);have g3:=MW e3 (IE 4 _);have g4:=MW e4 (IE 4 _);have g5:=MW e5 (IE 1 _);have g6:=MW e6 (rfl:t.p.length=t.p.length);have g7:=MW e7 (IE 2 _);simp only[Nat.zero_add,Nat.reduceAdd,List.drop_zero]at e1 e2 e3 e4 e5 e6 e7 e8 g0 g1 g2 g3 g4 g5 g6 g7;have hpl:XH (QJ t)=t.p.length:=by rw[XH,g5];exact gY 1 _ (by omega)
 have hdl:xP (QJ t)=t.d.length:=by rw[xP,hpl,g7];exact gY 2 _ (by omega)
 refine⟨ZB.2 ?_,?_⟩
 .rw[hpl,hdl,QA];omega
 .rw[tOf,hpl,g0,g1,g2,g3,g4,g6,show 24+t.p.length=22+t.p.length+2 from by omega,e8];rw[gY 8 _ (by omega),gY 1 _ (by omega),gY 4 _ (by omega),gY 4 _ (by omega),gY 4 _ (by omega),C99 (by omega) (by omega)];simp only[Int.toNat_of_nonneg hz.1,Int.toNat_of_nonneg hv.1,Int.toNat_of_nonneg hw.1,Int.toNat_of_nonneg (show 0<=t.o by omega),Int.toNat_of_nonneg (show 0<=t.s by omega)]
theorem BA3{t:GI}(h:gdE t=0):rU (QJ t)=0:=by
 obtain⟨h1,h2⟩:=BQ6 h;rw[rU,h1,h2,h];rfl
theorem AP4{b m more:List UInt8}(hb:b.length<=1024)(hm:m.length=4):
  VR (MN b++(m++more))=true/\lenOf (MN b++(m++more))=b.length/\UO (MN b++(m++more))=b/\
  AP3 (MN b++(m++more))=(un m==A40 (MN b)):=by
 have e0:(MN b++(m++more)).drop 1=be 2 b.length++(b++(m++more)):=by simp[MN]
 have g0:=MW e0 (IE 2 _);have e1:=OV e0 (IE 2 _);have g1:=MW e1 (rfl:b.length=b.length);have hl:lenOf (MN b++(m++more))=b.length:=by rw[lenOf,g0];exact gY 2 _ (by omega)
 have hf:(MN b).length=b.length+3:=UM b;refine⟨bH.2 ⟨by simp[MN],by omega,?_⟩,hl,?_,?_⟩
 .rw[hl,List.length_append,List.length_append,hf];omega
 .rw[UO,hl];exact g1
 .rw[AP3,hl,(sJ hf).1,(sJ hf).2,(sJ hm).1]
theorem AP5(t:GI)(more:List UInt8):QK t++more=MN (QJ t)++(be 4 (A40 (MN (QJ t)))++more):=by rw[QK,List.append_assoc]
theorem bI{t:GI}(h:gdE t=0):(QJ t).length<=1024:=by
 obtain⟨_,_,_,_,_,hp,hd⟩:=VQ h;rw[QA];omega
theorem BU5{t:GI}(h:gdE t=0)(more:List UInt8):bF (QK t++more)=0/\lN (QK t++more)=t/\rV (QK t++more)=(QK t).length:=by
 rw[AP5];obtain⟨h1,h2,h3,h4⟩:=AP4 (b:=QJ t) (m:=be 4 (A40 (MN (QJ t)))) (more:=more) (bI h) (IE 4 _);have hs:un (be 4 (A40 (MN (QJ t))))=A40 (MN (QJ t)):=gY 4 _ (by have:=AP0 (MN (QJ t));omega);rw[hs,beq_self_eq_true]at h4;obtain⟨a,b,c⟩:=BQ5 h1 h4 (by rw[h3];exact BA3 h);refine⟨a,?_,?_⟩
 .rw[b,h3];exact(BQ6 h).2
 .rw[c,h2,QA,UN];omega
theorem BU6{t:GI}(h:gdE t=0){k:Nat}(hk:k<(QK t).length):bF ((QK t).take k)=2/\rV ((QK t).take k)=0:=by
 have hw:VR ((QK t).take k)=false:=ZA (by
  rintro⟨h1,h2,h3⟩;rw[List.length_take]at h3;have e0:(QK t).drop 1=be 2 (QJ t).length++(QJ t++be 4 (A40 (MN (QJ t)))):=by simp[QK,MN]
  have g0:=MW e0 (IE 2 _);have hl:lenOf ((QK t).take k)=(QJ t).length:=by
   rw[lenOf,List.drop_take,List.take_take,show min 2 (k-1)=2 from by omega,g0];exact gY 2 _ (by have:=bI h;omega)
  rw[hl,QA]at h3;rw[UN]at hk;omega)
 exact⟨(bG hw).1,(bG hw).2.2⟩
def I9:List GI->List UInt8
 |[]=>[]
 |t::l=>QK t++I9 l
theorem LD:∀a b,I9 (a++b)=I9 a++I9 b
 |[],_=>rfl
 |t::a,b=>by rw[List.cons_append,I9,I9,LD a b,List.append_assoc]
theorem PG(a:List GI)(t:GI):I9 (a++[t])=I9 a++QK t:=by rw[LD,I9,I9,List.append_nil]
def IZ(l:List GI):Int:=l.foldl (fun _ t=>t.z) 0
theorem TQ(l:List GI)(t:GI):IZ (l++[t])=t.z:=by simp[IZ]
theorem VT:IZ []=0:=rfl
def iC(l:List GI)(t:GI):Bool:=decide (l.length=0)||decide (IZ l<t.z)
theorem lQ{l:List GI}{t:GI}(h:l.length≠0):iC l t=decide (IZ l<t.z):=by simp[iC,h]
theorem AP6{l:List GI}(h:l.length≠0):∃m x,l=m++[x]:=by
 rcases List.eq_nil_or_concat l with rfl|⟨m,x,rfl⟩
 .exact absurd rfl h
 .exact⟨m,x,List.concat_eq_append⟩
structure Logs(ts:List GI):Prop where
 good:∀t∈ts,gdE t=0
 rise:ts.Pairwise fun a b=>a.z<b.z
theorem Logs.nil:Logs []:=⟨by simp,List.Pairwise.nil⟩
theorem Logs.le_last{ts:List GI}(h:Logs ts){a:GI}(ha:a∈ts):a.z<=IZ ts:=by
 rcases List.eq_nil_or_concat ts with rfl|⟨m,x,e⟩
 .simp at ha
 .rw[List.concat_eq_append]at e;subst e;rw[TQ];rcases List.mem_append.1 ha with h1|h1
  .have:=(List.pairwise_append.1 h.rise).2.2 a h1 x (by simp);omega
  .simp at h1;subst h1;omega
theorem Logs.left{a b:List GI}(h:Logs (a++b)):Logs a:=⟨fun t ht=>h.good t (by simp[ht]),(List.pairwise_append.1 h.rise).1⟩
theorem Logs.at{a b:List GI}{t:GI}(h:Logs (a++t::b)):gdE t=0/\iC a t=true:=by
 refine⟨h.good t (by simp),?_⟩;by_cases h0:a.length=0
 .simp[iC,h0]
 .rw[lQ h0];obtain⟨m,x,rfl⟩:=AP6 h0;rw[TQ];exact decide_eq_true ((List.pairwise_append.1 h.rise).2.2 x (by simp) t (by simp))
structure Scan(s:List UInt8)(ts:List GI)(r:List UInt8):Prop where
 eq:s=I9 ts++r
 log:Logs ts
 stop:bF r≠0\/iC ts (lN r)=false
theorem BU7:bF []≠0:=by rw[(bG (s:=[]) (by decide)).1];decide
theorem sK{ts:List GI}(h:Logs ts):Scan (I9 ts) ts []:=⟨by simp,h,.inl BU7⟩
theorem AP7{ts:List GI}{t:GI}(h:Logs ts)(hg:gdE t=0){k:Nat}(hk:k<(QK t).length):Scan (I9 ts++(QK t).take k) ts ((QK t).take k):=
 ⟨rfl,h,.inl (by rw[(BU6 hg hk).1];decide)⟩
theorem Scan.len{s r:List UInt8}{ts:List GI}(h:Scan s ts r):(I9 ts).length+r.length=s.length:=by rw[h.eq,List.length_append]
theorem oM:∀ts:List GI,ts.length*31<=(I9 ts).length
 |[]=>by simp[I9]
 |t::l=>by
  have:=oM l;rw[I9,List.length_append,UN,List.length_cons];omega
theorem iD{t:GI}(h:gdE t=0):(QK t).length<=487:=by
 obtain⟨_,_,_,_,_,hp,hd⟩:=VQ h;rw[UN];omega
theorem A42:∀ts:List GI,(∀t∈ts,gdE t=0)->(I9 ts).length<=ts.length*487
 |[],_=>by simp[I9]
 |t::l,h=>by
  have h1:=A42 l (fun x hx=>h x (by simp[hx]));have h2:=iD (h t (by simp));rw[I9,List.length_append,List.length_cons];omega
theorem PI{ts:List GI}{k:Nat}{t:GI}(h:ts[k]?=some t):ts.take (k+1)=ts.take k++[t]:=by
 obtain⟨hk,rfl⟩:=List.getElem?_eq_some_iff.1 h;exact List.take_succ_eq_append_getElem hk
abbrev bl(a b:List UInt8):Bool:=Op.bytesLess a b
theorem QB:∀a,bl a a=false
 |[]=>rfl
 |x::a=>by
  have h:¬x<x:=UInt8.lt_irrefl x;have:=QB a;simp only[bl]at this;simp[bl,Op.bytesLess,h,this]
theorem QT:∀a b c,bl a b=true->bl b c=true->bl a c=true
 |[],_,[],_,h=>by cases ‹List UInt8› <;>simp[bl,Op.bytesLess]at h
 |[],_,_::_,_,_=>by simp[bl,Op.bytesLess]
 |_::_,[],_,h,_=>by simp[bl,Op.bytesLess]at h
 |_::_,_::_,[],_,h=>by simp[bl,Op.bytesLess]at h
 |x::a,y::b,z::c,h1,h2=>by
  have ih:=QT a b c;simp only[bl,Op.bytesLess,Bool.or_eq_true,Bool.and_eq_true,decide_eq_true_eq,beq_iff_eq]at h1 h2 ih⊢;rcases h1 with h1|⟨h1,h1'⟩<;>rcases h2 with h2|⟨h2,h2'⟩
  .exact .inl (UInt8.lt_trans h1 h2)
  .subst h2;exact .inl h1
  .subst h1;exact .inl h2
  .subst h1 h2;exact .inr ⟨rfl,ih h1' h2'⟩
theorem SQ:∀a b,bl a b=false->bl b a=false->a=b
 |[],[],_,_=>rfl
 |[],_::_,h,_=>by simp[bl,Op.bytesLess]at h
 |_::_,[],_,h=>by simp[bl,Op.bytesLess]at h
 |x::a,y::b,h1,h2=>by
  have ih:=SQ a b;simp only[bl,Op.bytesLess,Bool.or_eq_false_iff,Bool.and_eq_false_iff,decide_eq_false_iff_not,beq_eq_false_iff_ne]at h1 h2 ih;have e:x=y:=UInt8.le_antisymm (UInt8.not_lt.1 h2.1) (UInt8.not_lt.1 h1.1);subst e;rw[ih (h1.2.elim (fun h=>absurd rfl h) id) (h2.2.elim (fun h=>absurd rfl h) id)]
theorem O9{a b:List UInt8}(h:bl a b=true):bl b a=false:=by
 cases h':bl b a with
 |false=>rfl
 |true=>have:=QT a b a h h';rw[QB]at this;cases this
theorem TU{a b:List UInt8}(h:bl a b=true):a≠b:=by rintro rfl;rw[QB]at h;cases h
theorem A45:∀a b,decide (Lib.compareBytes a b<0)=bl a b
 |[],[]=>by simp[bl,Op.bytesLess,Lib.compareBytes]
 |[],_::_=>by simp[bl,Op.bytesLess,Lib.compareBytes]
 |_::_,[]=>by simp[bl,Op.bytesLess,Lib.compareBytes]
 |x::a,y::b=>by
  have ih:=A45 a b;simp only[bl]at ih;simp only[bl,Op.bytesLess,Lib.compareBytes];by_cases h1:x<y
  .simp[h1]
  .by_cases h2:y<x
   .have:x≠y:=by rintro rfl;exact h1 h2
    simp[h1,h2,this]
   .have:x=y:=UInt8.le_antisymm (UInt8.not_lt.1 h2) (UInt8.not_lt.1 h1);subst this;simp[h1,<-ih]
theorem fF:∀a b,decide (Lib.compareBytes a b=0)=decide (a=b)
 |[],[]=>by simp[Lib.compareBytes]
 |[],_::_=>by simp[Lib.compareBytes]
 |_::_,[]=>by simp[Lib.compareBytes]
 |x::a,y::b=>by
  have ih:=fF a b;simp only[Lib.compareBytes];by_cases h1:x<y
  .have:x≠y:=by rintro rfl;exact UInt8.lt_irrefl x h1
   simp[h1,this]
  .by_cases h2:y<x
   .have:x≠y:=by rintro rfl;exact h1 h2
    simp[h1,h2,this]
   .have:x=y:=UInt8.le_antisymm (UInt8.not_lt.1 h2) (UInt8.not_lt.1 h1);subst this;simp[h1,ih]
structure DF where
 n:List UInt8
 s:List UInt8
 t:List UInt8
instance:Inhabited DF:=⟨⟨[],[],[]⟩⟩
def QC(f:DF):Bool:=J9 f.n&&decide (f.s.length+f.t.length<=1048576)
def Asc(fs:List DF):Prop:=fs.Pairwise fun a b=>bl a.n b.n=true
structure LK(fs:List DF):Prop where
 few:fs.length<=16
 ok:∀f∈fs,QC f=true
 asc:Asc fs
noncomputable def UQ(fs:List DF):Bool:= @decide (LK fs) (Classical.propDecidable _)
theorem MP{fs:List DF}:UQ fs=true↔LK fs:=by unfold UQ;exact @decide_eq_true_iff _ (Classical.propDecidable _)
theorem YI{fs:List DF}:UQ fs=false↔¬LK fs:=by unfold UQ;exact @decide_eq_false_iff_not _ (Classical.propDecidable _)
def BU9(fs:List DF)(k:Nat):Prop:=∀i,i<k->∀f,fs[i]?=some f->QC f=true/\∀g,0<i->fs[i-1]?=some g->bl g.n f.n=true
theorem AQ1(fs:List DF):BU9 fs 0:=fun _ h=>absurd h (Nat.not_lt_zero _)
theorem AQ2{fs:List DF}{k:Nat}(h:BU9 fs k){f:DF}(hf:fs[k]?=some f)(h1:QC f=true)(h2:∀g,0<k->fs[k-1]?=some g->bl g.n f.n=true):BU9 fs (k+1):=by
 intro i hi f' hf';by_cases e:i=k
 .subst e;rw[hf]at hf'
  cases hf'
  exact⟨h1,h2⟩
 .exact h i (by omega) f' hf'
theorem yE{fs:List DF}(h:BU9 fs fs.length):Asc fs:=by
 have step:∀j i,(hij:i<j)->∀ (hj:j<fs.length),bl (fs[i]'(Nat.lt_trans hij hj)).n fs[j].n=true:=by
  intro j
  induction j with
  |zero=>intro i hi;omega
  |succ j ih=>
   intro i hi hj;have h1:=(h (j+1) hj _ (List.getElem?_eq_getElem hj)).2 fs[j] (by omega) (by simp);by_cases e:i=j
   .subst e;exact h1
   .exact QT _ _ _ (ih i (by omega) (by omega)) h1
 exact List.pairwise_iff_getElem.2 fun i j hi hj hij=>step j i hij hj
theorem sN{fs:List DF}(hl:fs.length<=16)(h:BU9 fs fs.length):UQ fs=true:=
 MP.2 ⟨hl,fun f hf=>by
  obtain⟨i,hi,rfl⟩:=List.getElem_of_mem hf;exact(h i hi _ (List.getElem?_eq_getElem hi)).1,yE h⟩
theorem BV0{fs:List DF}(h:16<fs.length):UQ fs=false:=YI.2 fun g=>by have:=g.few;omega
theorem BA8{fs:List DF}{k:Nat}{f:DF}(hf:fs[k]?=some f)(h:QC f=false):UQ fs=false:=
 YI.2 fun g=>by rw[g.ok f (List.mem_of_getElem? hf)]at h;cases h
theorem AQ3{fs:List DF}{k:Nat}{f g:DF}(hf:fs[k]?=some f)(hg:fs[k-1]?=some g)(h0:0<k)(h:bl g.n f.n=false):UQ fs=false:=
 YI.2 fun G=>by
  obtain⟨hk,rfl⟩:=List.getElem?_eq_some_iff.1 hf;obtain⟨hk',rfl⟩:=List.getElem?_eq_some_iff.1 hg;rw[List.pairwise_iff_getElem.1 G.asc (k-1) k hk' hk (by omega)]at h
  cases h
structure There(fs A:List DF)(f:DF)(B:List DF)(name:List UInt8):Prop where
 eq:fs=A++f::B
 nm:f.n=name
 lo:∀a∈A,bl a.n name=true
 hi:∀b∈B,bl name b.n=true
structure Gap(fs A B:List DF)(name:List UInt8):Prop where
 eq:fs=A++B
 lo:∀a∈A,bl a.n name=true
 hi:∀b∈B,bl name b.n=true
theorem A46(name:List UInt8):∀fs:List DF,Asc fs->(∃A f B,There fs A f B name)\/∃A B,Gap fs A B name
 |[],_=>.inr ⟨[],[],rfl,by simp,by simp⟩
 |x::r,h=>by
  obtain⟨hx,hr⟩:=List.pairwise_cons.1 h
  cases h1:bl x.n name with
  |true=>
   rcases A46 name r hr with⟨A,f,B,T⟩|⟨A,B,G⟩
   .exact .inl ⟨x::A,f,B,by rw[T.eq];rfl,T.nm,by simp[h1];exact T.lo,T.hi⟩
   .exact .inr ⟨x::A,B,by rw[G.eq];rfl,by simp[h1];exact G.lo,G.hi⟩
  |false=>
   cases h2:bl name x.n with
   |true=>exact .inr ⟨[],x::r,rfl,by simp,by simp[h2];exact fun b hb=>QT _ _ _ h2 (hx b hb)⟩
   |false=>
    have e:=SQ _ _ h1 h2;exact .inl ⟨[],x,r,rfl,e,by simp,fun b hb=>by rw[<-e];exact hx b hb⟩
theorem There.ok{fs A B:List DF}{f:DF}{name:List UInt8}(T:There fs A f B name)(g:LK fs):QC f=true:=g.ok f (by rw[T.eq];simp)
theorem NC{f:DF}(h:QC f=true):f.s.length+f.t.length<=1048576:=by simp[QC]at h;exact h.2
theorem VU{f:DF}(h:QC f=true):J9 f.n=true:=by simp[QC]at h;exact h.1
end Go.Proofs.YtbaacalmgfkojaaGreatDoor
namespace Go.Proofs.YtbaacalmgfkojaaGreatDoor
structure Ev where
 k:Int
 p:List UInt8
end Go.Proofs.YtbaacalmgfkojaaGreatDoor
namespace Go.Proofs.YtbaacalmgfkojaaGreatDoor
open Go.RowKit
def JB(f:DF):List Value:=[S0 f.n,S0 f.s,S0 f.t]
def BD0(f:DF):Value:=.agg #[S0 f.n,S0 f.s,S0 f.t]
def H6:List DF->List Value
 |[]=>[]
 |f::r=>JB f++H6 r
theorem GY:∀fs:List DF,(H6 fs).length=fs.length*3
 |[]=>rfl
 |f::r=>by rw[H6,List.length_append,GY r];simp[JB];omega
theorem JO:∀a b:List DF,H6 (a++b)=H6 a++H6 b
 |[],_=>rfl
 |f::r,b=>by rw[List.cons_append,H6,H6,JO r b,List.append_assoc]
theorem XJ:∀ (fs:List DF) (i:Nat) (f:DF),fs[i]?=some f->∀c,c<3->(H6 fs)[i*3+c]?=(JB f)[c]?
 |[],i,f,h,_,_=>by simp at h
 |x::r,0,f,h,c,hc=>by
  simp at h;subst h;rw[H6,List.getElem?_append_left (by simp[JB];omega)];simp
 |x::r,i+1,f,h,c,hc=>by
  rw[H6,List.getElem?_append_right (by simp[JB];omega),<-XJ r i f (by simpa using h) c hc]
  congr 1
  simp[JB];omega
theorem XK(fs:List DF):∀u∈H6 fs,u.oneCell'=true:=by
 induction fs with
 |nil=>simp[H6]
 |cons f r ih=>
  intro u hu;rcases List.mem_append.1 hu with h|h
  .simp[JB]at h;rcases h with rfl|rfl|rfl<;>rfl
  .exact ih u h
theorem mG:∀ (fs:List DF) (i:Nat) (f g:DF),fs[i]?=some f->∀c v,c<3->(JB g)=(JB f).set c v->(H6 fs).set (i*3+c) v=H6 (fs.set i g)
 |[],i,f,g,h,_,_,_,_=>by simp at h
 |x::r,0,f,g,h,c,v,hc,hg=>by
  simp at h;subst h;rw[H6,List.set_cons_zero,H6,hg,List.set_append_left _ _ (by simp[JB];omega)];simp
 |x::r,i+1,f,g,h,c,v,hc,hg=>by
  rw[H6,List.set_cons_succ,H6,List.set_append_right _ _ (by simp[JB];omega),<-mG r i f g (by simpa using h) c v hc hg]
  congr 2
  simp[JB];omega
def IB(w:World)(b off:Nat)(cs:List Value):Prop:=∀j v,cs[j]?=some v->w.cell? ⟨b,off+j,none⟩=some v
theorem IB.c0{w:World}{b off:Nat}{fs:List DF}(h:IB w b off (H6 fs)){i:Nat}{f:DF}(hi:fs[i]?=some f):w.cell? ⟨b,off+i*3,none⟩=some (S0 f.n):=
 h (i*3) _ (by have:=XJ fs i f hi 0 (by omega);simpa [JB]using this)
theorem IB.c1{w:World}{b off:Nat}{fs:List DF}(h:IB w b off (H6 fs)){i:Nat}{f:DF}(hi:fs[i]?=some f):w.cell? ⟨b,off+i*3+1,none⟩=some (S0 f.s):=by
 rw[Nat.add_assoc];exact h (i*3+1) _ (by have:=XJ fs i f hi 1 (by omega);simpa [JB]using this)
theorem IB.c2{w:World}{b off:Nat}{fs:List DF}(h:IB w b off (H6 fs)){i:Nat}{f:DF}(hi:fs[i]?=some f):w.cell? ⟨b,off+i*3+2,none⟩=some (S0 f.t):=by
 rw[Nat.add_assoc];exact h (i*3+2) _ (by have:=XJ fs i f hi 2 (by omega);simpa [JB]using this)
theorem IB.kept{w w':World}{b off B:Nat}{cs:List Value}(h:IB w b off cs)(hb:Below B w w')(hB:b<B):IB w' b off cs:=
 fun j v hj=>by rw[hb.cell (p:=⟨b,off+j,none⟩) hB];exact h j v hj
def IK(w:World)(v:Value)(fs:List DF):Prop:=
 (∃a cap,v=.slice a 0 cap/\fs=[]/\cap<=maxLen)\/
 ∃b off cap,v=.slice (some ⟨b,off,none⟩) fs.length cap/\fs.length<=cap/\cap<=maxLen/\b<w.heap.size/\fs≠[]/\IB w b off (H6 fs)
theorem IK.kept{w w':World}{B:Nat}{v:Value}{fs:List DF}(h:IK w v fs)(hb:Below B w w')(hB:w.heap.size<=B):IK w' v fs:=by
 rcases h with h|⟨b,off,cap,rfl,h1,h2,h3,h0,h4⟩
 .exact .inl h
 .exact .inr ⟨b,off,cap,rfl,h1,h2,Nat.lt_of_lt_of_le h3 hb.size,h0,h4.kept hb (Nat.lt_of_lt_of_le h3 hB)⟩
theorem IK.next{w w':World}{v:Value}{fs:List DF}(h:IK w v fs)(hb:B0 w w'):IK w' v fs:=h.kept hb (Nat.le_refl _)
theorem IK.alloc{w:World}{v:Value}{fs:List DF}(h:IK w v fs)(o:Obj):IK (w.alloc o) v fs:=h.next ((Below.refl _ _).alloc (Nat.le_refl _) o)
theorem IK.drew{w:World}{v:Value}{fs:List DF}(h:IK w v fs):IK w.drew v fs:=h.next (Below.refl _ _).drew
theorem IK.nil(w:World):IK w (N0) []:=.inl ⟨none,0,rfl,rfl,by decide⟩
def Own(W:World)(g cap:Nat)(fs:List DF):Prop:=∃rest:List Value,W.heap[g]?=some (.cells (H6 fs++rest).toArray 88 (0,0))/\fs.length*3+rest.length=cap*3/\cap<=maxLen
theorem Own.lt{W:World}{g cap:Nat}{fs:List DF}(h:Own W g cap fs):g<W.heap.size:=by
 obtain⟨rest,h1,_⟩:=h;exact(Array.getElem?_eq_some_iff.1 h1).1
theorem Own.le{W:World}{g cap:Nat}{fs:List DF}(h:Own W g cap fs):fs.length<=cap:=by obtain⟨rest,_,h2,_⟩:=h;omega
theorem Own.capLe{W:World}{g cap:Nat}{fs:List DF}(h:Own W g cap fs):cap<=maxLen:=by obtain⟨rest,_,_,h3⟩:=h;exact h3
theorem Own.row{W:World}{g cap:Nat}{fs:List DF}(h:Own W g cap fs):IB W g 0 (H6 fs):=by
 obtain⟨rest,h1,_⟩:=h;intro j v hj;have hlt:j<(H6 fs).length:=(List.getElem?_eq_some_iff.1 hj).1;simp[World.cell?,h1,List.getElem?_append_left hlt,hj]
theorem Own.frozen{W:World}{g cap:Nat}{fs:List DF}(h:Own W g cap fs)(j:Nat):W.frozen? ⟨g,j,none⟩=false:=by
 obtain⟨rest,h1,_⟩:=h;simp[World.frozen?,h1]
theorem Own.c0{W:World}{g cap:Nat}{fs:List DF}(h:Own W g cap fs){i:Nat}{f:DF}(hi:fs[i]?=some f):W.cell? ⟨g,i*3,none⟩=some (S0 f.n):=by simpa using h.row.c0 hi
theorem Own.c1{W:World}{g cap:Nat}{fs:List DF}(h:Own W g cap fs){i:Nat}{f:DF}(hi:fs[i]?=some f):W.cell? ⟨g,i*3+1,none⟩=some (S0 f.s):=by simpa using h.row.c1 hi
theorem Own.c2{W:World}{g cap:Nat}{fs:List DF}(h:Own W g cap fs){i:Nat}{f:DF}(hi:fs[i]?=some f):W.cell? ⟨g,i*3+2,none⟩=some (S0 f.t):=by simpa using h.row.c2 hi
theorem Own.kept{W V:World}{g B cap:Nat}{fs:List DF}(h:Own W g cap fs)(hb:Below B W V)(hg:g<B):Own V g cap fs:=by
 obtain⟨rest,h1,h2⟩:=h;exact⟨rest,(hb.block _ hg).trans h1,h2⟩
theorem Own.next{W V:World}{g cap:Nat}{fs:List DF}(h:Own W g cap fs)(hb:B0 W V):Own V g cap fs:=h.kept hb h.lt
theorem Own.alloc{W:World}{g cap:Nat}{fs:List DF}(h:Own W g cap fs)(o:Obj):Own (W.alloc o) g cap fs:=h.next ((Below.refl _ _).alloc (Nat.le_refl _) o)
theorem Own.drew{W:World}{g cap:Nat}{fs:List DF}(h:Own W g cap fs):Own W.drew g cap fs:=h
theorem Own.other{W:World}{g cap:Nat}{fs:List DF}(h:Own W g cap fs){a:Addr}(ha:g≠a.block)(v:Value):Own (W.setCell a v) g cap fs:=by
 obtain⟨rest,h1,h2⟩:=h;exact⟨rest,(Below.heap_setCell W a v g ha).trans h1,h2⟩
theorem GL{w:World}{g j:Nat}{cur:Array Value}{t:TypeId}{fz:Nat×Nat}(v:Value)(h:w.heap[g]?=some (.cells cur t fz)):
  (w.setCell ⟨g,j,none⟩ v).heap[g]?=some (.cells (cur.setIfInBounds j v) t fz):=by
 obtain⟨hlt,hk⟩:=Array.getElem?_eq_some_iff.1 h;show (w.heap.modify g _)[g]?=_;rw[Array.getElem?_eq_getElem (by rw[Array.size_modify];exact hlt),Array.getElem_modify_self,hk];rfl
theorem Own.set{W:World}{g cap:Nat}{fs:List DF}(h:Own W g cap fs){i:Nat}{f f':DF}(hi:fs[i]?=some f){c:Nat}(hc:c<3){v:Value}(hf:JB f'=(JB f).set c v):Own (W.setCell ⟨g,i*3+c,none⟩ v) g cap (fs.set i f'):=by
 obtain⟨rest,h1,h2,h3⟩:=h;refine⟨rest,?_,by simpa using h2,h3⟩;have hl:i<fs.length:=(List.getElem?_eq_some_iff.1 hi).1;rw[GL v h1,<-mG fs i f f' hi c v hc hf];simp[List.set_append_left _ _ (show i*3+c<(H6 fs).length by rw[GY];omega)]
theorem Own.s1{W:World}{g cap:Nat}{fs:List DF}(h:Own W g cap fs){i:Nat}{f:DF}(hi:fs[i]?=some f)(x:List UInt8):Own (W.setCell ⟨g,i*3+1,none⟩ (S0 x)) g cap (fs.set i ⟨f.n,x,f.t⟩):=h.set hi (c:=1) (by omega) rfl
theorem Own.s2{W:World}{g cap:Nat}{fs:List DF}(h:Own W g cap fs){i:Nat}{f:DF}(hi:fs[i]?=some f)(x:List UInt8):Own (W.setCell ⟨g,i*3+2,none⟩ (S0 x)) g cap (fs.set i ⟨f.n,f.s,x⟩):=h.set hi (c:=2) (by omega) rfl
def XL(W:World)(B:Nat)(v:Value)(fs:List DF):Prop:=(v=N0/\fs=[])\/∃g cap,v=.slice (some ⟨g,0,none⟩) fs.length cap/\B<=g/\Own W g cap fs
theorem XL.disk{W:World}{B:Nat}{v:Value}{fs:List DF}(h:XL W B v fs):IK W v fs:=by
 rcases h with⟨rfl,rfl⟩|⟨g,cap,rfl,_,h⟩
 .exact IK.nil W
 .by_cases h0:fs=[]
  .subst h0;exact .inl ⟨_,cap,rfl,rfl,h.capLe⟩
  .exact .inr ⟨g,0,cap,rfl,h.le,h.capLe,h.lt,h0,h.row⟩
theorem XL.next{W V:World}{B:Nat}{v:Value}{fs:List DF}(h:XL W B v fs)(hb:B0 W V):XL V B v fs:=by
 rcases h with h|⟨g,cap,rfl,hB,h⟩
 .exact .inl h
 .exact .inr ⟨g,cap,rfl,hB,h.next hb⟩
theorem XL.KY{W:World}{B:Nat}{v:Value}{fs:List DF}(h:W.ownsRow B 88 3 v fs.length (H6 fs)):XL W B v fs:=by
 obtain⟨_,⟨rfl,h0⟩|⟨g,cap,cur,rfl,hB,hg,hn,hm,hs,ht⟩⟩:=h
 .exact .inl ⟨rfl,List.eq_nil_of_length_eq_zero h0⟩
 .refine .inr ⟨g,cap,rfl,hB,cur.toList.drop (fs.length*3),?_,?_,hm⟩
  .rw[hg,<-ht,List.take_append_drop]
  .simp[hs];omega
theorem XL.row{W:World}{B:Nat}{v:Value}{fs:List DF}(h:XL W B v fs):W.ownsRow B 88 3 v fs.length (H6 fs):=by
 refine⟨GY fs,?_⟩;rcases h with⟨rfl,rfl⟩|⟨g,cap,rfl,hB,h⟩
 .exact .inl ⟨rfl,rfl⟩
 .have hle:=h.le;obtain⟨rest,h1,h2,h3⟩:=h;refine .inr ⟨g,cap,_,rfl,hB,h1,hle,h3,by simp[GY,h2],?_⟩;simp[<-GY fs]
class Lay (α:Type) where
 k:Nat
 cs:α->List Value
 ty:TypeId
 len:∀x,(cs x).length=k
 one:∀x,∀u∈cs x,u.oneCell'=true
def AT0(e:Ev):List Value:=[I0 e.k,S0 e.p]
def evV(e:Ev):Value:=.agg #[I0 e.k,S0 e.p]
instance layE:Lay Ev:=⟨2,AT0,248,fun _=>rfl,fun x u hu=>by simp[AT0]at hu;rcases hu with rfl|rfl<;>rfl⟩
instance layI:Lay Int:=⟨1,fun x=>[I0 x],3,fun _=>rfl,fun x u hu=>by simp at hu;subst hu;rfl⟩
instance layS:Lay (List UInt8):=⟨1,fun x=>[S0 x],9,fun _=>rfl,fun x u hu=>by simp at hu;subst hu;rfl⟩
section
variable {α:Type} [Lay α]
def G9(xs:List α):List Value:=xs.flatMap Lay.cs
theorem RQ:G9 ([]:List α)=[]:=rfl
theorem JQ(x:α)(r:List α):G9 (x::r)=Lay.cs x++G9 r:=by simp[G9]
theorem GX(xs:List α):(G9 xs).length=xs.length*Lay.k α:=by
 induction xs with
 |nil=>simp[G9]
 |cons x r ih=>rw[JQ,List.length_append,Lay.len,ih,List.length_cons,Nat.add_mul];omega
theorem H7(a b:List α):G9 (a++b)=G9 a++G9 b:=by simp[G9]
theorem JE(a:List α)(x:α):G9 (a++[x])=G9 a++Lay.cs x:=by simp[G9]
theorem AT1(A:List α)(x:α)(B:List α)(c:Nat)(hc:c<Lay.k α):(G9 (A++x::B))[A.length*Lay.k α+c]?=(Lay.cs x)[c]? :=by
 rw[H7,List.getElem?_append_right (by rw[GX];omega),GX,Nat.add_sub_cancel_left,JQ,List.getElem?_append_left (by rw[Lay.len];exact hc)]
theorem GV(xs:List α)(i:Nat)(x:α)(h:xs[i]?=some x)(c:Nat)(hc:c<Lay.k α):(G9 xs)[i*Lay.k α+c]?=(Lay.cs x)[c]? :=by
 obtain⟨hi,rfl⟩:=List.getElem?_eq_some_iff.1 h;have e:xs=xs.take i++xs[i]::xs.drop (i+1):=by simp
 have:=AT1 (xs.take i) xs[i] (xs.drop (i+1)) c hc;rw[<-e,List.length_take,Nat.min_eq_left (Nat.le_of_lt hi)]at this;exact this
theorem JL(xs:List α):∀u∈G9 xs,u.oneCell'=true:=by
 intro u hu;obtain⟨x,_,hx⟩:=List.mem_flatMap.1 hu;exact Lay.one x u hx
theorem AF4(A:List α)(x y:α)(B:List α)(c:Nat)(v:Value)(hc:c<Lay.k α)(hy:Lay.cs y=(Lay.cs x).set c v):(G9 (A++x::B)).set (A.length*Lay.k α+c) v=G9 (A++y::B):=by
 rw[H7,H7,List.set_append_right _ _ (by rw[GX];omega),GX,Nat.add_sub_cancel_left,JQ,JQ,List.set_append_left _ _ (by rw[Lay.len];exact hc),hy]
def IL(w:World)(v:Value)(xs:List α):Prop:=
 (∃a cap,v=.slice a 0 cap/\xs=[]/\cap<=maxLen)\/
 ∃b off cap,v=.slice (some ⟨b,off,none⟩) xs.length cap/\xs.length<=cap/\cap<=maxLen/\b<w.heap.size/\xs≠[]/\IB w b off (G9 xs)
theorem IL.kept{w w':World}{B:Nat}{v:Value}{xs:List α}(h:IL w v xs)(hb:Below B w w')(hB:w.heap.size<=B):IL w' v xs:=by
 rcases h with h|⟨b,off,cap,rfl,h1,h2,h3,h0,h4⟩
 .exact .inl h
 .exact .inr ⟨b,off,cap,rfl,h1,h2,Nat.lt_of_lt_of_le h3 hb.size,h0,h4.kept hb (Nat.lt_of_lt_of_le h3 hB)⟩
theorem IL.next{w w':World}{v:Value}{xs:List α}(h:IL w v xs)(hb:B0 w w'):IL w' v xs:=h.kept hb (Nat.le_refl _)
theorem IL.alloc{w:World}{v:Value}{xs:List α}(h:IL w v xs)(o:Obj):IL (w.alloc o) v xs:=h.next ((Below.refl _ _).alloc (Nat.le_refl _) o)
theorem IL.nil(w:World):IL w (N0) ([]:List α):=.inl ⟨none,0,rfl,rfl,by decide⟩
theorem GK{w:World}{v:Value}{xs:List α}(hv:IL w v xs):∃a c,v=.slice a xs.length c:=by
 rcases hv with⟨a,cap,rfl,rfl,_⟩|⟨b,off,cap,rfl,_⟩
 .exact⟨_,_,rfl⟩
 .exact⟨_,_,rfl⟩
theorem NT{w:World}{v:Value}{xs:List α}(hv:IL w v xs)(h0:xs≠[]):
  ∃b off cap,v=.slice (some ⟨b,off,none⟩) xs.length cap/\b<w.heap.size/\IB w b off (G9 xs)/\xs.length<=cap/\cap<=maxLen:=by
 rcases hv with⟨a,cap,rfl,rfl,_⟩|⟨b,off,cap,rfl,h1,h2,hb,_,hr⟩
 .exact absurd rfl h0
 .exact⟨b,off,cap,rfl,hb,hr,h1,h2⟩
def J8(W:World)(g cap:Nat)(xs:List α):Prop:=∃rest:List Value,W.heap[g]?=some (.cells (G9 xs++rest).toArray (Lay.ty α) (0,0))/\xs.length*Lay.k α+rest.length=cap*Lay.k α/\xs.length<=cap/\cap<=maxLen
theorem J8.lt{W:World}{g cap:Nat}{xs:List α}(h:J8 W g cap xs):g<W.heap.size:=by
 obtain⟨rest,h1,_⟩:=h;exact(Array.getElem?_eq_some_iff.1 h1).1
theorem J8.le{W:World}{g cap:Nat}{xs:List α}(h:J8 W g cap xs):xs.length<=cap:=by obtain⟨rest,_,_,h2,_⟩:=h;exact h2
theorem J8.capLe{W:World}{g cap:Nat}{xs:List α}(h:J8 W g cap xs):cap<=maxLen:=by obtain⟨rest,_,_,_,h3⟩:=h;exact h3
theorem J8.row{W:World}{g cap:Nat}{xs:List α}(h:J8 W g cap xs):IB W g 0 (G9 xs):=by
 obtain⟨rest,h1,_⟩:=h;intro j v hj;have hlt:j<(G9 xs).length:=(List.getElem?_eq_some_iff.1 hj).1;simp[World.cell?,h1,List.getElem?_append_left hlt,hj]
theorem J8.frozen{W:World}{g cap:Nat}{xs:List α}(h:J8 W g cap xs)(j:Nat):W.frozen? ⟨g,j,none⟩=false:=by
 obtain⟨rest,h1,_⟩:=h;simp[World.frozen?,h1]
theorem J8.kept{W V:World}{g B cap:Nat}{xs:List α}(h:J8 W g cap xs)(hb:Below B W V)(hg:g<B):J8 V g cap xs:=by
 obtain⟨rest,h1,h2⟩:=h;exact⟨rest,(hb.block _ hg).trans h1,h2⟩
theorem J8.next{W V:World}{g cap:Nat}{xs:List α}(h:J8 W g cap xs)(hb:B0 W V):J8 V g cap xs:=h.kept hb h.lt
theorem J8.other{W:World}{g cap:Nat}{xs:List α}(h:J8 W g cap xs){a:Addr}(ha:g≠a.block)(v:Value):J8 (W.setCell a v) g cap xs:=by
 obtain⟨rest,h1,h2⟩:=h;exact⟨rest,(Below.heap_setCell W a v g ha).trans h1,h2⟩
theorem J8.set{W:World}{g cap:Nat}{A B:List α}{x y:α}(h:J8 W g cap (A++x::B)){c:Nat}(hc:c<Lay.k α){v:Value}(hy:Lay.cs y=(Lay.cs x).set c v):J8 (W.setCell ⟨g,A.length*Lay.k α+c,none⟩ v) g cap (A++y::B):=by
 obtain⟨rest,h1,h2,h3⟩:=h;refine⟨rest,?_,by simpa using h2,by simpa using h3⟩;rw[GL v h1,<-AF4 A x y B c v hc hy];have hlt:A.length*Lay.k α+c<(G9 (A++x::B)).length:=by
  rw[GX];simp[Nat.add_mul];omega
 simp[List.set_append_left _ _ hlt]
def GZ(W:World)(B:Nat)(v:Value)(xs:List α):Prop:=(v=N0/\xs=[])\/∃g cap,v=.slice (some ⟨g,0,none⟩) xs.length cap/\B<=g/\J8 W g cap xs
theorem GZ.seq{W:World}{B:Nat}{v:Value}{xs:List α}(h:GZ W B v xs):IL W v xs:=by
 rcases h with⟨rfl,rfl⟩|⟨g,cap,rfl,_,h⟩
 .exact IL.nil W
 .by_cases h0:xs=[]
  .subst h0;exact .inl ⟨_,cap,rfl,rfl,h.capLe⟩
  .exact .inr ⟨g,0,cap,rfl,h.le,h.capLe,h.lt,h0,h.row⟩
theorem GZ.kept{W V:World}{B C:Nat}{v:Value}{xs:List α}(h:GZ W B v xs)(hb:Below C W V)(hC:W.heap.size<=C):GZ V B v xs:=by
 rcases h with h|⟨g,cap,rfl,hB,h⟩
 .exact .inl h
 .exact .inr ⟨g,cap,rfl,hB,h.kept hb (Nat.lt_of_lt_of_le h.lt hC)⟩
theorem GZ.next{W V:World}{B:Nat}{v:Value}{xs:List α}(h:GZ W B v xs)(hb:B0 W V):GZ V B v xs:=h.kept hb (Nat.le_refl _)
theorem GZ.other{W:World}{B:Nat}{v:Value}{xs:List α}(h:GZ W B v xs){a:Addr}(ha:v.ownBlock≠some a.block)(u:Value):GZ (W.setCell a u) B v xs:=by
 rcases h with h|⟨g,cap,rfl,hB,h⟩
 .exact .inl h
 .exact .inr ⟨g,cap,rfl,hB,h.other (by intro e;apply ha;simp[Value.ownBlock,e]) u⟩
theorem GZ.lower{W:World}{B C:Nat}{v:Value}{xs:List α}(h:GZ W B v xs)(hC:C<=B):GZ W C v xs:=by
 rcases h with h|⟨g,cap,rfl,hB,h⟩
 .exact .inl h
 .exact .inr ⟨g,cap,rfl,Nat.le_trans hC hB,h⟩
theorem GZ.KY{W:World}{B:Nat}{v:Value}{xs:List α}(h:W.ownsRow B (Lay.ty α) (Lay.k α) v xs.length (G9 xs)):GZ W B v xs:=by
 obtain⟨_,⟨rfl,h0⟩|⟨g,cap,cur,rfl,hB,hg,hn,hm,hs,ht⟩⟩:=h
 .exact .inl ⟨rfl,List.eq_nil_of_length_eq_zero h0⟩
 .refine .inr ⟨g,cap,rfl,hB,cur.toList.drop (xs.length*Lay.k α),?_,?_,hn,hm⟩
  .rw[hg,<-ht,List.take_append_drop]
  .have:=Nat.mul_le_mul_right (Lay.k α) hn;simp[hs];omega
theorem GZ.row{W:World}{B:Nat}{v:Value}{xs:List α}(h:GZ W B v xs):W.ownsRow B (Lay.ty α) (Lay.k α) v xs.length (G9 xs):=by
 refine⟨GX xs,?_⟩;rcases h with⟨rfl,rfl⟩|⟨g,cap,rfl,hB,h⟩
 .exact .inl ⟨rfl,rfl⟩
 .obtain⟨rest,h1,h2,hle,h3⟩:=h;refine .inr ⟨g,cap,_,rfl,hB,h1,hle,h3,by simp[GX,h2],?_⟩;simp[<-GX xs]
theorem GZ.slice{W:World}{B:Nat}{v:Value}{xs:List α}(h:GZ W B v xs):∃a c,v=.slice a xs.length c/\c<=maxLen:=by
 rcases h with⟨rfl,rfl⟩|⟨g,cap,rfl,_,h⟩
 .exact⟨none,0,rfl,by decide⟩
 .exact⟨_,_,rfl,h.capLe⟩
end
theorem IB.i0{w:World}{b off:Nat}{xs:List Int}(h:IB w b off (G9 xs)){i:Nat}{x:Int}(hi:xs[i]?=some x):w.cell? ⟨b,off+i,none⟩=some (I0 x):=
 h i _ (by have:=GV xs i x hi 0 (by decide);simpa [Lay.k,Lay.cs]using this)
theorem IB.s0{w:World}{b off:Nat}{xs:List (List UInt8)}(h:IB w b off (G9 xs)){i:Nat}{x:List UInt8}(hi:xs[i]?=some x):w.cell? ⟨b,off+i,none⟩=some (S0 x):=
 h i _ (by have:=GV xs i x hi 0 (by decide);simpa [Lay.k,Lay.cs]using this)
theorem IB.e0{w:World}{b off:Nat}{xs:List Ev}(h:IB w b off (G9 xs)){i:Nat}{x:Ev}(hi:xs[i]?=some x):w.cell? ⟨b,off+i*2,none⟩=some (I0 x.k):=
 h (i*2) _ (GV xs i x hi 0 (by decide))
theorem IB.e1{w:World}{b off:Nat}{xs:List Ev}(h:IB w b off (G9 xs)){i:Nat}{x:Ev}(hi:xs[i]?=some x):w.cell? ⟨b,off+i*2+1,none⟩=some (S0 x.p):=by
 rw[Nat.add_assoc];exact h (i*2+1) _ (GV xs i x hi 1 (by decide))
theorem GU{w:World}{o:Obj}{w1:World}(h:Below (w.alloc o).heap.size (w.alloc o) w1):B0 w w1:=
 ((Below.refl _ _).alloc (Nat.le_refl _) _).trans (h.mono (by simp))
theorem G8{w W V:World}(h:B0 w W)(h':B0 W V):B0 w V:=h.trans (h'.mono h.size)
theorem G7(w:World)(o:Obj):B0 w (w.alloc o):=(Below.refl _ _).alloc (Nat.le_refl _) _
theorem PL{w:World}{g j:Nat}(v:Value):w.grownBy (w.setCell ⟨g,j,none⟩ v) (some g):=⟨rfl,rfl,rfl,by simp[World.setCell],fun k _ hne=>Below.heap_setCell w ⟨g,j,none⟩ v k (fun e=>hne (by rw[e]))⟩
theorem IJ{w w' w'':World}{g:Nat}(h:w.grownBy w' (some g))(h':w'.grownBy w'' (some g)):w.grownBy w'' (some g):=
 ⟨h'.os.trans h.os,h'.tape.trans h.tape,h'.output.trans h.output,Nat.le_trans h.size h'.size,fun k hk hne=>(h'.block k (Nat.lt_of_lt_of_le hk h.size) hne).trans (h.block k hk hne)⟩
theorem OX{g:Nat}{t:TypeId}{fz:Nat×Nat}:∀ (vs:List Value) (o:Nat) (w:World) (l:List Value),w.heap[g]?=some (.cells l.toArray t fz)->o+vs.length<=l.length->
  (w.setCells g o vs).heap[g]?=some (.cells (l.take o++vs++l.drop (o+vs.length)).toArray t fz)
 |[],o,w,l,h,_=>by simpa [World.setCells]using h
 |v::r,o,w,l,h,hl=>by
  have h1:(w.setCell ⟨g,o,none⟩ v).heap[g]?=some (.cells (l.set o v).toArray t fz):=by rw[GL v h];simp
  rw[World.setCells,OX r (o+1) _ _ h1 (by simp at hl⊢;omega)];have ho:o<l.length:=by simp at hl;omega
  have e1:(l.set o v).take (o+1)=l.take o++[v]:=by
   rw[List.take_set,List.take_succ_eq_append_getElem ho,List.set_append_right _ _ (by simp;omega)];simp[Nat.min_eq_left (Nat.le_of_lt ho)]
  have e2:(l.set o v).drop (o+1+r.length)=l.drop (o+(r.length+1)):=by
   rw[List.drop_set_of_lt (by omega)];congr 1;omega
  rw[e1,e2];simp
theorem H8{g:Nat}:∀ (vs:List Value) (o:Nat) (w:World),w.grownBy (w.setCells g o vs) (some g)
 |[],_,_=>⟨rfl,rfl,rfl,Nat.le_refl _,fun _ _ _=>rfl⟩
 |v::r,o,_=>IJ (PL v) (H8 r (o+1) _)
section
variable {α:Type} [Lay α]
theorem J8.splice{W:World}{g cap:Nat}{pre tl:List α}(h:J8 W g cap (pre++tl))(new:List α)(hfit:pre.length+new.length<=cap):J8 (W.setCells g (pre.length*Lay.k α) (G9 new)) g cap (pre++new):=by
 obtain⟨rest,h1,h2,h4,h3⟩:=h;have hlen:(G9 (pre++tl)++rest).length=cap*Lay.k α:=by rw[List.length_append,GX];exact h2
 have hf:pre.length*Lay.k α+new.length*Lay.k α<=cap*Lay.k α:=by rw[<-Nat.add_mul];exact Nat.mul_le_mul_right _ hfit
 refine⟨(G9 (pre++tl)++rest).drop (pre.length*Lay.k α+(G9 new).length),?_,?_,by simpa using hfit,h3⟩
 .rw[OX (G9 new) (pre.length*Lay.k α) W _ h1 (by rw[hlen,GX];omega),H7 pre new]
  congr 3
  have e:G9 (pre++tl)++rest=G9 pre++(G9 tl++rest):=by rw[H7,List.append_assoc]
  rw[e,<-GX pre,List.take_left]
 .rw[List.length_drop,hlen,GX,List.length_append,Nat.add_mul];omega
theorem J8.spare{W:World}{g cap:Nat}{fs:List α}(h:J8 W g cap fs)(vs:List Value)(o:Nat)(ho:fs.length*Lay.k α<=o)(hfit:o+vs.length<=cap*Lay.k α):J8 (W.setCells g o vs) g cap fs:=by
 obtain⟨rest,h1,h2,h4,h3⟩:=h;have hlen:(G9 fs++rest).length=cap*Lay.k α:=by rw[List.length_append,GX];exact h2
 have hc:=GX fs;refine⟨rest.take (o-fs.length*Lay.k α)++vs++(G9 fs++rest).drop (o+vs.length),?_,?_,h4,h3⟩
 .rw[OX vs o W _ h1 (by rw[hlen];omega)]
  congr 2
  rw[List.take_append,List.take_of_length_le (by omega),hc];simp only[List.append_assoc]
 .simp only[List.length_append,List.length_take,List.length_drop,hc];omega
theorem J8.tY{W:World}{g cap:Nat}{A B:List α}{y:α}(h:J8 W g cap (A++y::B))(x:α):J8 (W.setCells g (A.length*Lay.k α) (Lay.cs x)) g cap (A++x::B):=by
 obtain⟨rest,h1,h2,h4,h3⟩:=h;have hlen:(G9 (A++y::B)++rest).length=cap*Lay.k α:=by rw[List.length_append,GX];exact h2
 refine⟨rest,?_,by simpa using h2,by simpa using h4,h3⟩;have hA:=GX A;have hx3:(Lay.cs x).length=Lay.k α:=Lay.len x;have hy3:(Lay.cs y).length=Lay.k α:=Lay.len y;rw[OX (Lay.cs x) (A.length*Lay.k α) W _ h1 (by rw[hlen,hx3];simp[Nat.add_mul]at h2;omega)];have e:G9 (A++y::B)++rest=G9 A++(Lay.cs y++(G9 B++rest)):=by simp[H7,JQ]
 have e':G9 (A++x::B)++rest=G9 A++(Lay.cs x++(G9 B++rest)):=by simp[H7,JQ]
 rw[e,e']
 congr 2
 rw[hx3,<-hA,List.take_left,show (G9 A).length+Lay.k α=(G9 A++Lay.cs y).length by rw[List.length_append,hy3],<-List.append_assoc (G9 A) (Lay.cs y),List.drop_left,List.append_assoc]
theorem J8.some{W:World}{g cap:Nat}{fs:List α}(h:J8 W g cap fs){j:Nat}(hj:j<cap*Lay.k α):(W.cell? ⟨g,j,none⟩).isSome=true:=by
 obtain⟨rest,h1,h2,_⟩:=h;have hl:j<(G9 fs++rest).length:=by rw[List.length_append,GX,h2];exact hj
 rw[List.length_append]at hl;simp[World.cell?,h1,hl]
theorem J8.drew{W:World}{g cap:Nat}{fs:List α}(h:J8 W g cap fs):J8 W.drew g cap fs:=h
def JM(W:World)(b:Nat)(x:α):Prop:=W.heap[b]?=some (.cells (Lay.cs x).toArray (Lay.ty α) (0,0))
theorem JM.row{W:World}{b:Nat}{x:α}(h:JM W b x):∀j v,(Lay.cs x)[j]?=some v->W.cell? ⟨b,0+j,none⟩=some v:=by
 intro j v hj;unfold JM at h;simp[World.cell?,h,hj]
end
theorem J5(ss:List Int):(G9 ss).length=ss.length:=(GX ss).trans (Nat.mul_one _)
structure Touch(F:Nat->Prop)(w w':World):Prop where
 os:w'.os=w.os
 tape:w'.tape=w.tape
 output:w'.output=w.output
 size:w.heap.size<=w'.heap.size
 block:∀k,k<w.heap.size->¬F k->w'.heap[k]?=w.heap[k]?
theorem Touch.refl(F:Nat->Prop)(w:World):Touch F w w:=⟨rfl,rfl,rfl,Nat.le_refl _,fun _ _ _=>rfl⟩
theorem Touch.trans{F:Nat->Prop}{a b c:World}(h:Touch F a b)(k:Touch F b c):Touch F a c:=
 ⟨k.os.trans h.os,k.tape.trans h.tape,k.output.trans h.output,Nat.le_trans h.size k.size,fun i hi hf=>(k.block i (Nat.lt_of_lt_of_le hi h.size) hf).trans (h.block i hi hf)⟩
theorem Touch.of_below{F:Nat->Prop}{w w':World}(h:B0 w w'):Touch F w w':=⟨h.os,h.tape,h.output,h.size,fun k hk _=>h.block k hk⟩
theorem Touch.UR{F:Nat->Prop}{w w':World}{r:Option Nat}(h:w.grownBy w' r)(hr:∀k,r=some k->F k):Touch F w w':=⟨h.os,h.tape,h.output,h.size,fun k hk hf=>h.block k hk (fun e=>hf (hr k e.symm))⟩
theorem Touch.set{F:Nat->Prop}{w:World}{a:Addr}(hf:F a.block)(v:Value):Touch F w (w.setCell a v):=⟨rfl,rfl,rfl,by simp[World.setCell],fun k _ hn=>Below.heap_setCell w a v k (fun e=>hn (by rw[e];exact hf))⟩
theorem Touch.drew{F:Nat->Prop}{w w':World}(h:Touch F w w'):Touch F w w'.drew:=⟨h.os,h.tape,h.output,h.size,h.block⟩
theorem Touch.mono{F G:Nat->Prop}{w w':World}(h:Touch F w w')(hg:∀k,k<w.heap.size->F k->G k):Touch G w w':=⟨h.os,h.tape,h.output,h.size,fun k hk hn=>h.block k hk (fun hf=>hn (hg k hk hf))⟩
theorem Touch.below{F:Nat->Prop}{w w':World}{B:Nat}(h:Touch F w w')(hB:B<=w.heap.size)(hF:∀k,F k->B<=k):Below B w w':=
 ⟨h.os,h.tape,h.output,h.size,fun k hk=>h.block k (Nat.lt_of_lt_of_le hk hB) (fun hf=>by have:=hF k hf;omega)⟩
theorem GZ.low{α:Type}[Lay α]{W:World}{B:Nat}{v:Value}{xs:List α}(h:GZ W B v xs)(k:Nat)(hk:v.ownBlock=some k):k<W.heap.size:=by
 rcases h with⟨rfl,rfl⟩|⟨g,cap,rfl,_,h⟩
 .simp[Value.ownBlock]at hk
 .simp only[Value.ownBlock,Option.some.injEq]at hk;rw[<-hk];exact h.lt
theorem GZ.grown{α:Type}[Lay α]{W V:World}{B:Nat}{v:Value}{xs:List α}(h:GZ W B v xs){r:Option Nat}(hg:W.grownBy V r)(hr:∀k,v.ownBlock=some k->some k≠r):GZ V B v xs:=by
 rcases h with h|⟨g,cap,rfl,hB,h⟩
 .exact .inl h
 .obtain⟨rest,h1,h2⟩:=h;have hlt:=(Array.getElem?_eq_some_iff.1 h1).1;exact .inr ⟨g,cap,rfl,hB,rest,(hg.block g hlt (hr g rfl)).trans h1,h2⟩
theorem I5{w:World}{a:Addr}{v:Value}(h:w.cell? a=some v):w.setCell a v=w:=by
 obtain⟨heap,tape,drawn,os,output⟩:=w;simp only[World.setCell,World.cell?]at*
 congr 1
 apply Array.ext_getElem?
 intro k;rw[Array.getElem?_modify];by_cases hk:a.block=k
 .subst hk;simp only[if_true]
  cases ho:heap[a.block]? with
  |none=>rfl
  |some o=>
   rw[ho]at h
   cases o with
   |cells c e fz=>
    simp only at h;by_cases hs:a.spot.isSome=true
    .simp[hs]at h
    .simp only[hs]at h;simp[hs];have hlt:a.off<c.size:=(Array.getElem?_eq_some_iff.1 (by simpa using h)).1;have hv:c[a.off]=v:=(Array.getElem?_eq_some_iff.1 (by simpa using h)).2;rw[<-hv];simp[Array.setIfInBounds,hlt]
   |_=>simp at h
 .simp[hk]
theorem I8{W V:World}(h:Below W.drew.heap.size W.drew V):B0 W V:=((Below.refl _ W).drew).trans h
theorem CB0:(Tryz.prog.info? 248).map (fun i=>(i.zero,i.size,i.bytes))=some (some (.agg #[I0 0,.string ⟨#[]⟩]),2,24):=by kernel_rfl
theorem CN5:∃i0,Tryz.prog.info? 248=some i0/\i0.zero=some (.agg #[I0 0,.string ⟨#[]⟩])/\i0.size=2/\i0.bytes=24:=by
 obtain⟨i0,h,e⟩:=Option.map_eq_some_iff.1 CB0;simp only[Prod.mk.injEq]at e;exact⟨i0,h,e⟩
theorem QX{α:Type}[Lay α]{W:World}{g:Nat}{x:α}(h:JM W g x)(j:Nat)(u:Value)(hj:(Lay.cs x)[j]?=some u):W.cell? ((⟨g,0,none⟩:Addr).add j)=some u:=by
 rw[Addr.add_lit];exact h.row j u hj
theorem yR(w:World)(k:Int)(p:List UInt8):JM (w.alloc (.cells #[I0 k,S0 p] 248)) w.heap.size (⟨k,p⟩:Ev):=heap_alloc_new w _
def J7(t:GI):Value:=.agg #[I0 t.z,I0 t.o,I0 t.s,S0 t.p,S0 t.d,I0 t.v,I0 t.w]
end Go.Proofs.YtbaacalmgfkojaaGreatDoor
