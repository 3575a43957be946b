/-
  Part.
-/
import Derived.WalkKit
import Derived.Lib.IndexLaws
import Derived.Laws.Cover1
import Derived.Test.YtkpojhhfjddegaaGreatDoorProg
import Derived.Deep.LoopGhost
import Derived.Lib.QuietBelow
set_option maxRecDepth 20000
set_option maxHeartbeats 8000000
namespace Go.Proofs.YtkpojhhfjddegaaGreatDoor
open Go.RowKit
abbrev I0 (x:Int):Value:=.int .i64 x
abbrev S0 (l:List UInt8):Value:=.string ⟨l.toArray⟩
abbrev N0:Value:=.slice none 0 0
abbrev P0 (k:Nat):Value:=.pointer (some ⟨k,0,none⟩)
abbrev R0 (w:World)(x:Value):Ending->World->Prop:=fun e w'=>e=.returned x/\Below w.heap.size w w'
abbrev B0 (w W:World):Prop:=Below w.heap.size w W
theorem G9{p:Prop}(h:p):Hid p:=h
theorem G8{p:Prop}(h:Hid p):p:=h
def UL(c:UInt8):Bool:=(decide (97<=c.toNat)&&decide (c.toNat<=122))||(decide (48<=c.toNat)&&decide (c.toNat<=57))||c.toNat==45||c.toNat==95
def JC(l:List UInt8):Bool:=decide (1<=l.length)&&decide (l.length<=40)&&l.all UL
theorem jO(s:ByteArray)(k:Nat)(h:k<s.size):s.data.toList.take (k+1)=s.data.toList.take k++[s[k]]:=by
 rw[List.take_succ_eq_append_getElem (by simpa using h)];rfl
theorem VP(s:ByteArray)(k:Nat)(h:k<s.size)(p:UInt8->Bool)(h1:(s.data.toList.take k).all p=true)(h2:p s[k]=true):(s.data.toList.take (k+1)).all p=true:=by
 rw[jO s k h,List.all_append,h1];simpa using h2
theorem ZN(s:ByteArray)(k:Nat)(h:s.size<=k)(p:UInt8->Bool)(h1:(s.data.toList.take k).all p=true):s.data.toList.all p=true:=by
 rwa[List.take_of_length_le (by simpa using h)]at h1
theorem dY(s:ByteArray)(k:Nat)(h:k<s.size)(p:UInt8->Bool)(h2:p s[k]=false):s.data.toList.all p=false:=by
 rw[List.all_eq_false];exact⟨s[k],by have:s[k]∈s.data:=Array.getElem_mem h;simpa using this,by simp[h2]⟩
theorem aP(s:ByteArray):s.data.toList.length=s.size:=by simp
theorem uZ(s:ByteArray)(h:s.size<1):JC s.data.toList=false:=by
 simp only[JC,aP,show ¬1<=s.size from by omega,decide_false,Bool.false_and]
theorem A01(s:ByteArray)(h:40<s.size):JC s.data.toList=false:=by
 simp only[JC,aP,show ¬s.size<=40 from by omega,decide_false,Bool.and_false,Bool.false_and]
theorem o8(s:ByteArray)(h:1<=s.size)(h':s.size<=40):JC s.data.toList=s.data.toList.all UL:=by
 simp only[JC,aP,h,h',decide_true,Bool.true_and]
def KP(z:Int):Bool:=decide (0<=z)&&decide (z<4611686018427387904)
def zIn(n:Int):Bool:=decide (0<=n)&&decide (n<2147483648)
def J4(z:Int):Int:=if KP z then z/2147483648 else 0
def o9(z:Int):Int:=if KP z then z%2147483648 else 0
def L6(e c:Int):Int:=if zIn e&&zIn c then e*2147483648+c else 0
def O7(e c:Int):Int:=if zIn e&&zIn c then 0 else 3
def jP(z:Int):Int:=if KP z&&zIn (z%2147483648+1)then z+1 else 0
def XA(z:Int):Int:=if KP z then(if zIn (z%2147483648+1)then 0 else 6)else 3
theorem MC{z:Int}:KP z=true↔0<=z/\z<4611686018427387904:=by simp[KP]
theorem QF{z:Int}:zIn z=true↔0<=z/\z<2147483648:=by simp[zIn]
theorem A96{z:Int}(h:¬ (0<=z/\z<2147483648)):zIn z=false:=by
 cases hg:zIn z with
 |false=>rfl
 |true=>exact absurd (QF.1 hg) h
theorem MF{z:Int}(h:KP z=true):J4 z=z/2147483648:=by rw[J4,if_pos h]
theorem vC{z:Int}(h:KP z=false):J4 z=0:=by rw[J4,h];rfl
theorem YM{z:Int}(h:KP z=true):o9 z=z%2147483648:=by rw[o9,if_pos h]
theorem AV2{z:Int}(h:KP z=false):o9 z=0:=by rw[o9,h];rfl
theorem UR{e c:Int}(he:zIn e=true)(hc:zIn c=true):L6 e c=e*2147483648+c/\O7 e c=0:=by
 constructor<;>simp[L6,O7,he,hc]
theorem iQ{e c:Int}(h:zIn e=false\/zIn c=false):L6 e c=0/\O7 e c=3:=by
 rcases h with h|h<;>constructor<;>simp[L6,O7,h]
theorem AV3{z:Int}(h:KP z=false):jP z=0/\XA z=3:=by constructor<;>simp[jP,XA,h]
theorem AJ7{z:Int}(h:KP z=true)(h1:zIn (z%2147483648+1)=false):jP z=0/\XA z=6:=by constructor<;>simp[jP,XA,h,h1]
theorem qU{z:Int}(h:KP z=true)(h1:zIn (z%2147483648+1)=true):jP z=z+1/\XA z=0:=by constructor<;>simp[jP,XA,h,h1]
theorem vF(n:Int)(h₀:0<=n)(h₁:n<2^63):IntKind.i64.wrap n=n:=by rw[IntKind.wrap_i64];omega
theorem C30{e c:Int}(he:0<=e)(he1:e<2147483648)(hc:0<=c)(hc1:c<2147483648):bits .or .i64 (e*2147483648) c=e*2147483648+c:=
 bits_join .i64 63 (by decide) vF 31 (e*2147483648) c (by omega) (by omega) (by omega) hc (by omega) (by omega)
theorem BH3{z:Int}(h:0<=z)(h1:z<4611686018427387904):bits .and .i64 z 2147483647=z%2147483648:=
 bits_mask .i64 63 (by decide) vF 31 (by decide) z h (by omega)
theorem qV{a b:Int}(h:a=b):Ending.returned (I0 a)=.returned (I0 b):=by rw[h]
theorem PU{a b i j:Int}(h:a=b)(h':i=j):Ending.returned (.tuple #[I0 a,I0 i])=.returned (.tuple #[I0 b,I0 j]):=by rw[h,h']
def NG:List UInt8->List (List UInt8)
 |[]=>[[]]
 |c::l=>if c=47 then []::NG l else match NG l with
  |[]=>[[c]]
  |p::ps=>(c::p)::ps
theorem AV4(l:List UInt8):NG l≠[]:=by
 cases l with
 |nil=>simp[NG]
 |cons c l=>
  simp only[NG]
  split
  .simp
  .split<;>simp
theorem gQ(l:List UInt8):NG (47::l)=[]::NG l:=by simp[NG]
theorem XB{c:UInt8}(h:c≠47){l p:List UInt8}{ps:List (List UInt8)}(hl:NG l=p::ps):NG (c::l)=(c::p)::ps:=by
 simp[NG,h,hl]
theorem jQ:∀l:List UInt8,Lib.indexByte l 47=-1->NG l=[l]
 |[],_=>rfl
 |c::l,h=>by
  have h1:(c==47)=false:=by
   cases hc:(c==47)with
   |false=>rfl
   |true=>rw[Lib.indexByte,if_pos hc]at h;exact absurd h (by decide)
  have h2:Lib.indexByte l 47=-1:=by
   by_cases h3:(Lib.indexByte l 47==-1)=true
   .simpa using h3
   .rw[Lib.indexByte,if_neg (by simp[h1]),if_neg h3]at h;have:=Lib.indexByte_ge l 47;omega
  exact XB (by simpa using h1) (jQ l h2)
theorem jR:∀ (l:List UInt8) (i:Nat),Lib.indexByte l 47=i->i<l.length/\NG l=l.take i::NG (l.drop (i+1))
 |[],i,h=>by simp[Lib.indexByte]at h
 |c::l,i,h=>by
  by_cases hc:(c==47)=true
  .rw[Lib.indexByte,if_pos hc]at h;have hi:i=0:=by omega
   subst hi;have:c=47:=by simpa using hc
   subst this;exact⟨by simp,by simp[gQ]⟩
  .have hc':c≠47:=by simpa using hc
   by_cases h3:(Lib.indexByte l 47==-1)=true
   .rw[Lib.indexByte,if_neg hc,if_pos h3]at h;omega
   .rw[Lib.indexByte,if_neg hc,if_neg h3]at h;have hge:=Lib.indexByte_ge l 47;have hne:Lib.indexByte l 47≠ -1:=by simpa using h3
    obtain⟨j,rfl⟩:∃j,i=j+1:=⟨i-1,by omega⟩;obtain⟨h4,h5⟩:=jR l j (by omega);exact⟨by simp;omega,by rw[XB hc' h5];simp⟩
theorem jS(l:List UInt8):Lib.indexByte l 47=-1\/∃i:Nat,Lib.indexByte l 47=i:=by
 have:=Lib.indexByte_ge l 47;by_cases h:Lib.indexByte l 47=-1
 .exact .inl h
 .exact .inr ⟨(Lib.indexByte l 47).toNat,by omega⟩
theorem qW(l:List UInt8):∀p∈NG l,p.length<=l.length:=by
 induction l with
 |nil=>intro p hp;simp[NG]at hp;simp[hp]
 |cons c l ih=>
  intro p hp;by_cases hc:c=47
  .subst hc;rw[gQ]at hp;rcases List.mem_cons.1 hp with rfl|h
   .simp
   .have:=ih p h;simp;omega
  .cases hl:NG l with
   |nil=>exact absurd hl (AV4 l)
   |cons q qs=>
    rw[XB hc hl]at hp;rcases List.mem_cons.1 hp with rfl|h
    .have:=ih q (by rw[hl];simp);simp;omega
    .have:=ih p (by rw[hl];simp[h]);simp;omega
def ZA(l:List UInt8):List (List UInt8):=if l=[47]then []else NG (Lib.trimPrefix l [47])
def J7(l:List UInt8):Bool:=decide (l.length<=200)&&Lib.hasPrefix l [47]&&(ZA l).all JC
def CJ5(c:Nat):Nat:=(c/2)^^^(3988292384*(c%2))
def BY8:Nat->Nat->Nat
 |0,c=>c
 |n+1,c=>CJ5 (BY8 n c)
def CV0(c:Nat)(b:UInt8):Nat:=BY8 8 (c^^^b.toNat)
def BH4(l:List UInt8):Nat:=l.foldl CV0 4294967295
def A97(l:List UInt8):Nat:=4294967295^^^BH4 l
theorem AV5:(2:Nat)^32=4294967296:=by decide
theorem aQ{a b:Nat}(ha:a<4294967296)(hb:b<4294967296):a^^^b<4294967296:=by
 have h:=Nat.xor_lt_two_pow (n:=32) (x:=a) (y:=b) (by rw[AV5];exact ha) (by rw[AV5];exact hb);rwa[AV5]at h
theorem C31{c:Nat}(h:c<4294967296):CJ5 c<4294967296:=by
 unfold CJ5;refine aQ (by omega) ?_;rcases Nat.mod_two_eq_zero_or_one c with e|e<;>rw[e]<;>decide
theorem A02{c:Nat}(h:c<4294967296):∀n,BY8 n c<4294967296
 |0=>h
 |n+1=>C31 (A02 h n)
theorem AV6(b:UInt8):b.toNat<4294967296:=by have:=b.toNat_lt;omega
theorem C32{c:Nat}(h:c<4294967296)(b:UInt8):CV0 c b<4294967296:=A02 (aQ h (AV6 b)) 8
theorem BH5(l:List UInt8):∀c,c<4294967296->l.foldl CV0 c<4294967296:=by
 induction l with
 |nil=>intro c h;exact h
 |cons b l ih=>intro c h;exact ih _ (C32 h b)
theorem AV7(l:List UInt8):BH4 l<4294967296:=BH5 l _ (by decide)
theorem AV8(l:List UInt8):A97 l<4294967296:=aQ (by decide) (AV7 l)
theorem AV9(l:List UInt8)(b:UInt8):BH4 (l++[b])=CV0 (BH4 l) b:=by simp[BH4]
theorem vG(n:Int)(h₀:0<=n)(h₁:n<2^32):IntKind.u32.wrap n=n:=by rw[IntKind.wrap_u32];omega
theorem vH(k:IntKind)(j:Nat)(hj:j<=k.bits)(hk:∀n:Int,0<=n->n<2^j->k.wrap n=n)(a b:Nat)(ha:a<2^j)(hb:b<2^j):bits .xor k a b=((a^^^b:Nat):Int):=by
 have hp:2^j<=2^k.bits:=Nat.pow_le_pow_right (by decide) hj;have ha':a%2^k.bits=a:=Nat.mod_eq_of_lt (Nat.lt_of_lt_of_le ha hp);have hb':b%2^k.bits=b:=Nat.mod_eq_of_lt (Nat.lt_of_lt_of_le hb hp);simp only[bits,BitVec.ofInt_natCast,BitVec.toNat_xor,BitVec.toNat_ofNat,ha',hb'];exact hk _ (Int.natCast_nonneg _) (by exact_mod_cast Nat.xor_lt_two_pow ha hb)
theorem A03{a b:Nat}(ha:a<4294967296)(hb:b<4294967296):bits .xor .u32 a b=((a^^^b:Nat):Int):=
 vH .u32 32 (by decide) vG a b (by rw[AV5];exact ha) (by rw[AV5];exact hb)
theorem BH6{a:Nat}(ha:a<4294967296):bits .and .u32 a 1=((a%2:Nat):Int):=by
 have h:=bits_mask .u32 32 (by decide) vG 1 (by decide) (a:Int) (by omega) (by omega)
 exact_mod_cast h
def be:Nat->Nat->List UInt8
 |0,_=>[]
 |k+1,n=>be k (n/256)++[UInt8.ofNat n]
def un(l:List UInt8):Nat:=l.foldl (fun a b=>a*256+b.toNat) 0
theorem IL:∀k n,(be k n).length=k
 |0,_=>rfl
 |k+1,n=>by rw[be,List.length_append,IL k];rfl
theorem A04(l:List UInt8)(b:UInt8):un (l++[b])=un l*256+b.toNat:=by simp[un]
theorem jT:∀k n,n<256^k->un (be k n)=n
 |0,n,h=>by
  have:n=0:=by simpa using h
  subst this;rfl
 |k+1,n,h=>by
  rw[be,A04,jT k (n/256) (by rw[Nat.pow_succ]at h;omega)];have:(UInt8.ofNat n).toNat=n%256:=by simp
  omega
theorem BH7(l:List UInt8):un l<256^l.length:=by
 induction h:l.length generalizing l with
 |zero=>obtain rfl:=List.eq_nil_of_length_eq_zero h;decide
 |succ k ih=>
  rcases List.eq_nil_or_concat l with rfl|⟨a,b,rfl⟩
  .simp at h
  .rw[List.concat_eq_append]at h⊢;have hk:a.length=k:=by simpa using h
   have h1:=ih a hk;have h2:=b.toNat_lt;rw[A04,Nat.pow_succ];omega
structure GU where
 z:Int
 o:Int
 s:Int
 p:List UInt8
 d:List UInt8
 v:Int
 w:Int
def t0:GU:=⟨0,0,0,[],[],0,0⟩
def A05(n least:Int):Bool:=decide (least<=n)&&decide (n<=2147483647)
theorem VQ{n k:Int}:A05 n k=true↔k<=n/\n<=2147483647:=by simp[A05]
def opB(o:Int):Bool:=decide (1<=o)&&decide (o<=5)
theorem jU{o:Int}:opB o=true↔1<=o/\o<=5:=by simp[opB]
def BG8(t:GU):Bool:=KP t.z&&A05 t.s 1&&A05 t.v 0&&A05 t.w 0
theorem qX{t:GU}:BG8 t=true↔KP t.z=true/\A05 t.s 1=true/\A05 t.v 0=true/\A05 t.w 0=true:=by simp[BG8,and_assoc]
def fmB(t:GU):Bool:=
 if t.o=3 then J7 t.p&& !(t.p==[47])&&t.v==0
 else if t.o=4 then J7 t.p&& !(t.p==[47])&&t.d==[]&&t.v==0&&t.w==0
 else if t.o=5 then J7 t.p&&t.w==0
 else t.p==[]&&t.d==[]&&t.v==0&&t.w==0
def gdE(t:GU):Int:=
 if opB t.o then(if BG8 t then(if t.d.length<=256 then(if fmB t then 0 else 2)else 1)else 3)else 4
theorem BH8{t:GU}(h:opB t.o=false):gdE t=4:=by simp[gdE,h]
theorem aS{t:GU}(h:opB t.o=true)(h1:BG8 t=false):gdE t=3:=by simp[gdE,h,h1]
theorem BH9{t:GU}(h:opB t.o=true)(h1:BG8 t=true)(h2:256<t.d.length):gdE t=1:=by
 simp[gdE,h,h1,show ¬t.d.length<=256 from by omega]
theorem BI0{t:GU}(h:opB t.o=true)(h1:BG8 t=true)(h2:t.d.length<=256)(h3:fmB t=false):gdE t=2:=by simp[gdE,h,h1,h2,h3]
theorem CJ6{t:GU}(h:opB t.o=true)(h1:BG8 t=true)(h2:t.d.length<=256)(h3:fmB t=true):gdE t=0:=by simp[gdE,h,h1,h2,h3]
theorem iR{t:GU}(h:gdE t=0):opB t.o=true/\BG8 t=true/\t.d.length<=256/\fmB t=true:=by
 unfold gdE at h
 split at h
 .split at h
  .split at h
   .split at h
    .exact⟨‹_›,‹_›,‹_›,‹_›⟩
    .exact absurd h (by decide)
   .exact absurd h (by decide)
  .exact absurd h (by decide)
 .exact absurd h (by decide)
theorem A06{p:List UInt8}(h:J7 p=true):p.length<=200:=by
 unfold J7 at h;simp only[Bool.and_eq_true,decide_eq_true_eq]at h;exact h.1.1
theorem BY9{t:GU}(h:fmB t=true):t.p.length<=200:=by
 unfold fmB at h
 split at h
 .simp only[Bool.and_eq_true]at h;exact A06 h.1.1
 .split at h
  .simp only[Bool.and_eq_true]at h;exact A06 h.1.1.1.1
  .split at h
   .simp only[Bool.and_eq_true]at h;exact A06 h.1
   .simp only[Bool.and_eq_true,beq_iff_eq]at h;rw[h.1.1.1];decide
theorem XC{t:GU}(h:gdE t=0):(0<=t.z/\t.z<4611686018427387904)/\(1<=t.o/\t.o<=5)/\(1<=t.s/\t.s<=2147483647)/\(0<=t.v/\t.v<=2147483647)/\(0<=t.w/\t.w<=2147483647)/\t.p.length<=200/\t.d.length<=256:=by
 obtain⟨h1,h2,h3,h4⟩:=iR h;obtain⟨a,b,c,d⟩:=qX.1 h2;exact⟨MC.1 a,jU.1 h1,VQ.1 b,VQ.1 c,VQ.1 d,BY9 h4,h3⟩
def RU(t:GU):List UInt8:=
 be 8 t.z.toNat++(be 1 t.o.toNat++(be 4 t.s.toNat++(be 4 t.v.toNat++(be 4 t.w.toNat++(be 1 t.p.length++(t.p++(be 2 t.d.length++t.d)))))))
def MS(b:List UInt8):List UInt8:=84::(be 2 b.length++b)
def RV(t:GU):List UInt8:=MS (RU t)++be 4 (A97 (MS (RU t)))
theorem QY(t:GU):(RU t).length=24+t.p.length+t.d.length:=by
 simp only[RU,List.length_append,IL];omega
theorem VR(b:List UInt8):(MS b).length=b.length+3:=by
 simp only[MS,List.length_cons,List.length_append,IL];omega
theorem VT(t:GU):(RV t).length=31+t.p.length+t.d.length:=by
 simp only[RV,List.length_append,IL,VR,QY];omega
def YN(b:List UInt8):Nat:=un ((b.drop 21).take 1)
def zX(b:List UInt8):Nat:=un ((b.drop (22+YN b)).take 2)
def tOf(b:List UInt8):GU:=
 ⟨wrap64 (un (b.take 8)),un ((b.drop 8).take 1),un ((b.drop 9).take 4),(b.drop 22).take (YN b),b.drop (24+YN b),un ((b.drop 13).take 4),un ((b.drop 17).take 4)⟩
def BG9(b:List UInt8):Bool:=decide (24+YN b<=b.length)&&decide (b.length=24+YN b+zX b)
def uU(b:List UInt8):Int:=if BG9 b then gdE (tOf b)else 2
def AW4(b:List UInt8):GU:=if uU b=0 then tOf b else t0
def lenOf(s:List UInt8):Nat:=un ((s.drop 1).take 2)
def XD(s:List UInt8):Bool:=s.take 1==[84]&&decide (lenOf s<=1024)&&decide (lenOf s+7<=s.length)
def AW5(s:List UInt8):Bool:=un ((s.drop (lenOf s+3)).take 4)==A97 (s.take (lenOf s+3))
def VU(s:List UInt8):List UInt8:=(s.drop 3).take (lenOf s)
def eG(s:List UInt8):Int:=if XD s then(if AW5 s then uU (VU s)else 5)else 2
def oC(s:List UInt8):GU:=if eG s=0 then tOf (VU s)else t0
def uV(s:List UInt8):Int:=if eG s=0 then(lenOf s+7:Nat)else 0
theorem eH{s:List UInt8}(h:XD s=false):eG s=2/\oC s=t0/\uV s=0:=by
 have e:eG s=2:=by simp[eG,h]
 exact⟨e,by simp[oC,e],by simp[uV,e]⟩
theorem C33{s:List UInt8}(h:XD s=true)(h1:AW5 s=false):eG s=5/\oC s=t0/\uV s=0:=by
 have e:eG s=5:=by simp[eG,h,h1]
 exact⟨e,by simp[oC,e],by simp[uV,e]⟩
theorem BI1{s:List UInt8}(h:XD s=true)(h1:AW5 s=true){e:Int}(h2:uU (VU s)=e)(h3:e≠0):eG s=e/\oC s=t0/\uV s=0:=by
 have e:eG s=e:=by simp[eG,h,h1,h2]
 exact⟨e,by rw[oC,e,if_neg h3],by rw[uV,e,if_neg h3]⟩
theorem BZ0{s:List UInt8}(h:XD s=true)(h1:AW5 s=true)(h2:uU (VU s)=0):eG s=0/\oC s=tOf (VU s)/\uV s=(lenOf s+7:Nat):=by
 have e:eG s=0:=by simp[eG,h,h1,h2]
 exact⟨e,by rw[oC,e,if_pos rfl],by rw[uV,e,if_pos rfl]⟩
theorem C34{b:List UInt8}(h:BG9 b=false):uU b=2/\AW4 b=t0:=by
 have e:uU b=2:=by simp[uU,h]
 exact⟨e,by simp[AW4,e]⟩
theorem CJ7{b:List UInt8}(h:BG9 b=true)(h1:gdE (tOf b)≠0):uU b=gdE (tOf b)/\AW4 b=t0:=by
 have e:uU b=gdE (tOf b):=by simp[uU,h]
 exact⟨e,by rw[AW4,e,if_neg h1]⟩
theorem CJ8{b:List UInt8}(h:BG9 b=true)(h1:gdE (tOf b)=0):uU b=0/\AW4 b=tOf b:=by
 have e:uU b=0:=by simp[uU,h,h1]
 exact⟨e,by rw[AW4,e,if_pos rfl]⟩
theorem eP{s:List UInt8}:XD s=true↔s.take 1=[84]/\lenOf s<=1024/\lenOf s+7<=s.length:=by
 simp[XD,and_assoc]
theorem aT{s:List UInt8}(h:¬ (s.take 1=[84]/\lenOf s<=1024/\lenOf s+7<=s.length)):XD s=false:=by
 cases hw:XD s with
 |false=>rfl
 |true=>exact absurd (eP.1 hw) h
theorem aU{b:List UInt8}:BG9 b=true↔24+YN b<=b.length/\b.length=24+YN b+zX b:=by simp[BG9]
theorem A98{s:List UInt8}:AW5 s=true↔un ((s.drop (lenOf s+3)).take 4)=A97 (s.take (lenOf s+3)):=by simp[AW5]
theorem vI{a b:List UInt8}{k:Nat}(h:a.length=k):(a++b).take k=a/\(a++b).drop k=b:=by
 subst h;simp
theorem PV{l a b:List UInt8}{j k:Nat}(h:l.drop j=a++b)(hk:a.length=k):l.drop (j+k)=b:=by
 rw[<-List.drop_drop,h];exact(vI hk).2
theorem NH{l a b:List UInt8}{j k:Nat}(h:l.drop j=a++b)(hk:a.length=k):(l.drop j).take k=a:=by
 rw[h];exact(vI hk).1
theorem CJ9{n:Int}(h:0<=n)(h1:n<9223372036854775808):wrap64 n=n:=by unfold wrap64;omega
theorem BZ1{t:GU}(h:gdE t=0):BG9 (RU t)=true/\tOf (RU t)=t:=by
 obtain⟨hz,ho,hs,hv,hw,hp,hd⟩:=XC h;have e0:(RU t).drop 0=be 8 t.z.toNat++_:=rfl;have e1:=PV e0 (IL 8 _);have e2:=PV e1 (IL 1 _);have e3:=PV e2 (IL 4 _);have e4:=PV e3 (IL 4 _);have e5:=PV e4 (IL 4 _);have e6:=PV e5 (IL 1 _);have e7:=PV e6 (rfl:t.p.length=t.p.length);have e8:=PV e7 (IL 2 _);have g0:=NH e0 (IL 8 _);have g1:=NH e1 (IL 1 _);have g2:=NH e2 (IL 4 _);have g3:=NH e3 (IL 4 _);have g4:=NH e4 (IL 4 _);have g5:=NH e5 (IL 1 _);have g6:=NH e6 (rfl:t.p.length=t.p.length);have g7:=NH e7 (IL 2 _);simp only[Nat.zero_add,Nat.reduceAdd,List.drop_zero]at e1 e2 e3 e4 e5 e6 e7 e8 g0 g1 g2 g3 g4 g5 g6 g7;have hpl:YN (RU t)=t.p.length:=by rw[YN,g5];exact jT 1 _ (by omega)
 have hdl:zX (RU t)=t.d.length:=by rw[zX,hpl,g7];exact jT 2 _ (by omega)
 refine⟨aU.2 ?_,?_⟩
 .rw[hpl,hdl,QY];omega
 .rw[tOf,hpl,g0,g1,g2,g3,g4,g6,show 24+t.p.length=22+t.p.length+2 from by omega,e8];rw[jT 8 _ (by omega),jT 1 _ (by omega),jT 4 _ (by omega),jT 4 _ (by omega),jT 4 _ (by omega),CJ9 (by omega) (by omega)];simp only[Int.toNat_of_nonneg hz.1,Int.toNat_of_nonneg hv.1,Int.toNat_of_nonneg hw.1,Int.toNat_of_nonneg (show 0<=t.o by omega),Int.toNat_of_nonneg (show 0<=t.s by omega)]
theorem BI2{t:GU}(h:gdE t=0):uU (RU t)=0:=by
 obtain⟨h1,h2⟩:=BZ1 h;rw[uU,h1,h2,h];rfl
theorem AW6{b m more:List UInt8}(hb:b.length<=1024)(hm:m.length=4):
  XD (MS b++(m++more))=true/\lenOf (MS b++(m++more))=b.length/\VU (MS b++(m++more))=b/\
  AW5 (MS b++(m++more))=(un m==A97 (MS b)):=by
 have e0:(MS b++(m++more)).drop 1=be 2 b.length++(b++(m++more)):=by simp[MS]
 have g0:=NH e0 (IL 2 _);have e1:=PV e0 (IL 2 _);have g1:=NH e1 (rfl:b.length=b.length);have hl:lenOf (MS b++(m++more))=b.length:=by rw[lenOf,g0];exact jT 2 _ (by omega)
 have hf:(MS b).length=b.length+3:=VR b;refine⟨eP.2 ⟨by simp[MS],by omega,?_⟩,hl,?_,?_⟩
 .rw[hl,List.length_append,List.length_append,hf];omega
 .rw[VU,hl];exact g1
 .rw[AW5,hl,(vI hf).1,(vI hf).2,(vI hm).1]
theorem AW7(t:GU)(more:List UInt8):RV t++more=MS (RU t)++(be 4 (A97 (MS (RU t)))++more):=by rw[RV,List.append_assoc]
theorem eU{t:GU}(h:gdE t=0):(RU t).length<=1024:=by
 obtain⟨_,_,_,_,_,hp,hd⟩:=XC h;rw[QY];omega
theorem C35{t:GU}(h:gdE t=0)(more:List UInt8):eG (RV t++more)=0/\oC (RV t++more)=t/\uV (RV t++more)=(RV t).length:=by
 rw[AW7];obtain⟨h1,h2,h3,h4⟩:=AW6 (b:=RU t) (m:=be 4 (A97 (MS (RU t)))) (more:=more) (eU h) (IL 4 _);have hs:un (be 4 (A97 (MS (RU t))))=A97 (MS (RU t)):=jT 4 _ (by have:=AV8 (MS (RU t));omega);rw[hs,beq_self_eq_true]at h4;obtain⟨a,b,c⟩:=BZ0 h1 h4 (by rw[h3];exact BI2 h);refine⟨a,?_,?_⟩
 .rw[b,h3];exact(BZ1 h).2
 .rw[c,h2,QY,VT];omega
theorem C36{t:GU}(h:gdE t=0){k:Nat}(hk:k<(RV t).length):eG ((RV t).take k)=2/\uV ((RV t).take k)=0:=by
 have hw:XD ((RV t).take k)=false:=aT (by
  rintro⟨h1,h2,h3⟩;rw[List.length_take]at h3;have e0:(RV t).drop 1=be 2 (RU t).length++(RU t++be 4 (A97 (MS (RU t)))):=by simp[RV,MS]
  have g0:=NH e0 (IL 2 _);have hl:lenOf ((RV t).take k)=(RU t).length:=by
   rw[lenOf,List.drop_take,List.take_take,show min 2 (k-1)=2 from by omega,g0];exact jT 2 _ (by have:=eU h;omega)
  rw[hl,QY]at h3;rw[VT]at hk;omega)
 exact⟨(eH hw).1,(eH hw).2.2⟩
def IG:List GU->List UInt8
 |[]=>[]
 |t::l=>RV t++IG l
theorem LK:∀a b,IG (a++b)=IG a++IG b
 |[],_=>rfl
 |t::a,b=>by rw[List.cons_append,IG,IG,LK a b,List.append_assoc]
theorem QG(a:List GU)(t:GU):IG (a++[t])=IG a++RV t:=by rw[LK,IG,IG,List.append_nil]
def J6(l:List GU):Int:=l.foldl (fun _ t=>t.z) 0
theorem UU(l:List GU)(t:GU):J6 (l++[t])=t.z:=by simp[J6]
theorem XE:J6 []=0:=rfl
def jV(l:List GU)(t:GU):Bool:=decide (l.length=0)||decide (J6 l<t.z)
theorem oD{l:List GU}{t:GU}(h:l.length≠0):jV l t=decide (J6 l<t.z):=by simp[jV,h]
theorem AW8{l:List GU}(h:l.length≠0):∃m x,l=m++[x]:=by
 rcases List.eq_nil_or_concat l with rfl|⟨m,x,rfl⟩
 .exact absurd rfl h
 .exact⟨m,x,List.concat_eq_append⟩
structure Logs(ts:List GU):Prop where
 good:∀t∈ts,gdE t=0
 rise:ts.Pairwise fun a b=>a.z<b.z
theorem Logs.nil:Logs []:=⟨by simp,List.Pairwise.nil⟩
theorem Logs.le_last{ts:List GU}(h:Logs ts){a:GU}(ha:a∈ts):a.z<=J6 ts:=by
 rcases List.eq_nil_or_concat ts with rfl|⟨m,x,e⟩
 .simp at ha
 .rw[List.concat_eq_append]at e;subst e;rw[UU];rcases List.mem_append.1 ha with h1|h1
  .have:=(List.pairwise_append.1 h.rise).2.2 a h1 x (by simp);omega
  .simp at h1;subst h1;omega
theorem Logs.left{a b:List GU}(h:Logs (a++b)):Logs a:=⟨fun t ht=>h.good t (by simp[ht]),(List.pairwise_append.1 h.rise).1⟩
theorem Logs.at{a b:List GU}{t:GU}(h:Logs (a++t::b)):gdE t=0/\jV a t=true:=by
 refine⟨h.good t (by simp),?_⟩;by_cases h0:a.length=0
 .simp[jV,h0]
 .rw[oD h0];obtain⟨m,x,rfl⟩:=AW8 h0;rw[UU];exact decide_eq_true ((List.pairwise_append.1 h.rise).2.2 x (by simp) t (by simp))
structure Scan(s:List UInt8)(ts:List GU)(r:List UInt8):Prop where
 eq:s=IG ts++r
 log:Logs ts
 stop:eG r≠0\/jV ts (oC r)=false
theorem C37:eG []≠0:=by rw[(eH (s:=[]) (by decide)).1];decide
theorem vJ{ts:List GU}(h:Logs ts):Scan (IG ts) ts []:=⟨by simp,h,.inl C37⟩
theorem AW9{ts:List GU}{t:GU}(h:Logs ts)(hg:gdE t=0){k:Nat}(hk:k<(RV t).length):Scan (IG ts++(RV t).take k) ts ((RV t).take k):=
 ⟨rfl,h,.inl (by rw[(C36 hg hk).1];decide)⟩
theorem Scan.len{s r:List UInt8}{ts:List GU}(h:Scan s ts r):(IG ts).length+r.length=s.length:=by rw[h.eq,List.length_append]
theorem qY:∀ts:List GU,ts.length*31<=(IG ts).length
 |[]=>by simp[IG]
 |t::l=>by
  have:=qY l;rw[IG,List.length_append,VT,List.length_cons];omega
theorem jW{t:GU}(h:gdE t=0):(RV t).length<=487:=by
 obtain⟨_,_,_,_,_,hp,hd⟩:=XC h;rw[VT];omega
theorem A99:∀ts:List GU,(∀t∈ts,gdE t=0)->(IG ts).length<=ts.length*487
 |[],_=>by simp[IG]
 |t::l,h=>by
  have h1:=A99 l (fun x hx=>h x (by simp[hx]));have h2:=jW (h t (by simp));rw[IG,List.length_append,List.length_cons];omega
theorem QH{ts:List GU}{k:Nat}{t:GU}(h:ts[k]?=some t):ts.take (k+1)=ts.take k++[t]:=by
 obtain⟨hk,rfl⟩:=List.getElem?_eq_some_iff.1 h;exact List.take_succ_eq_append_getElem hk
abbrev bl(a b:List UInt8):Bool:=Op.bytesLess a b
theorem QZ:∀a,bl a a=false
 |[]=>rfl
 |x::a=>by
  have h:¬x<x:=UInt8.lt_irrefl x;have:=QZ a;simp only[bl]at this;simp[bl,Op.bytesLess,h,this]
theorem SI:∀a b c,bl a b=true->bl b c=true->bl a c=true
 |[],_,[],_,h=>by cases ‹List UInt8› <;>simp[bl,Op.bytesLess]at h
 |[],_,_::_,_,_=>by simp[bl,Op.bytesLess]
 |_::_,[],_,h,_=>by simp[bl,Op.bytesLess]at h
 |_::_,_::_,[],_,h=>by simp[bl,Op.bytesLess]at h
 |x::a,y::b,z::c,h1,h2=>by
  have ih:=SI a b c;simp only[bl,Op.bytesLess,Bool.or_eq_true,Bool.and_eq_true,decide_eq_true_eq,beq_iff_eq]at h1 h2 ih⊢;rcases h1 with h1|⟨h1,h1'⟩<;>rcases h2 with h2|⟨h2,h2'⟩
  .exact .inl (UInt8.lt_trans h1 h2)
  .subst h2;exact .inl h1
  .subst h1;exact .inl h2
  .subst h1 h2;exact .inr ⟨rfl,ih h1' h2'⟩
theorem UD:∀a b,bl a b=false->bl b a=false->a=b
 |[],[],_,_=>rfl
 |[],_::_,h,_=>by simp[bl,Op.bytesLess]at h
 |_::_,[],_,h=>by simp[bl,Op.bytesLess]at h
 |x::a,y::b,h1,h2=>by
  have ih:=UD a b;simp only[bl,Op.bytesLess,Bool.or_eq_false_iff,Bool.and_eq_false_iff,decide_eq_false_iff_not,beq_eq_false_iff_ne]at h1 h2 ih;have e:x=y:=UInt8.le_antisymm (UInt8.not_lt.1 h2.1) (UInt8.not_lt.1 h1.1);subst e;rw[ih (h1.2.elim (fun h=>absurd rfl h) id) (h2.2.elim (fun h=>absurd rfl h) id)]
theorem OO{a b:List UInt8}(h:bl a b=true):bl b a=false:=by
 cases h':bl b a with
 |false=>rfl
 |true=>have:=SI a b a h h';rw[QZ]at this;cases this
theorem XF{a b:List UInt8}(h:bl a b=true):a≠b:=by rintro rfl;rw[QZ]at h;cases h
theorem AA2:∀a b,decide (Lib.compareBytes a b<0)=bl a b
 |[],[]=>by simp[bl,Op.bytesLess,Lib.compareBytes]
 |[],_::_=>by simp[bl,Op.bytesLess,Lib.compareBytes]
 |_::_,[]=>by simp[bl,Op.bytesLess,Lib.compareBytes]
 |x::a,y::b=>by
  have ih:=AA2 a b;simp only[bl]at ih;simp only[bl,Op.bytesLess,Lib.compareBytes];by_cases h1:x<y
  .simp[h1]
  .by_cases h2:y<x
   .have:x≠y:=by rintro rfl;exact h1 h2
    simp[h1,h2,this]
   .have:x=y:=UInt8.le_antisymm (UInt8.not_lt.1 h2) (UInt8.not_lt.1 h1);subst this;simp[h1,<-ih]
theorem iT:∀a b,decide (Lib.compareBytes a b=0)=decide (a=b)
 |[],[]=>by simp[Lib.compareBytes]
 |[],_::_=>by simp[Lib.compareBytes]
 |_::_,[]=>by simp[Lib.compareBytes]
 |x::a,y::b=>by
  have ih:=iT a b;simp only[Lib.compareBytes];by_cases h1:x<y
  .have:x≠y:=by rintro rfl;exact UInt8.lt_irrefl x h1
   simp[h1,this]
  .by_cases h2:y<x
   .have:x≠y:=by rintro rfl;exact h1 h2
    simp[h1,h2,this]
   .have:x=y:=UInt8.le_antisymm (UInt8.not_lt.1 h2) (UInt8.not_lt.1 h1);subst this;simp[h1,ih]
structure DF where
 n:List UInt8
 s:List UInt8
 t:List UInt8
instance:Inhabited DF:=⟨⟨[],[],[]⟩⟩
def RD(f:DF):Bool:=JC f.n&&decide (f.s.length+f.t.length<=1048576)
def Asc(fs:List DF):Prop:=fs.Pairwise fun a b=>bl a.n b.n=true
structure LV(fs:List DF):Prop where
 few:fs.length<=16
 ok:∀f∈fs,RD f=true
 asc:Asc fs
noncomputable def VW(fs:List DF):Bool:= @decide (LV fs) (Classical.propDecidable _)
theorem MW{fs:List DF}:VW fs=true↔LV fs:=by unfold VW;exact @decide_eq_true_iff _ (Classical.propDecidable _)
theorem ZO{fs:List DF}:VW fs=false↔¬LV fs:=by unfold VW;exact @decide_eq_false_iff_not _ (Classical.propDecidable _)
def C39(fs:List DF)(k:Nat):Prop:=∀i,i<k->∀f,fs[i]?=some f->RD f=true/\∀g,0<i->fs[i-1]?=some g->bl g.n f.n=true
theorem AX3(fs:List DF):C39 fs 0:=fun _ h=>absurd h (Nat.not_lt_zero _)
theorem AX4{fs:List DF}{k:Nat}(h:C39 fs k){f:DF}(hf:fs[k]?=some f)(h1:RD f=true)(h2:∀g,0<k->fs[k-1]?=some g->bl g.n f.n=true):C39 fs (k+1):=by
 intro i hi f' hf';by_cases e:i=k
 .subst e;rw[hf]at hf'
  cases hf'
  exact⟨h1,h2⟩
 .exact h i (by omega) f' hf'
theorem A08{fs:List DF}(h:C39 fs fs.length):Asc fs:=by
 have step:∀j i,(hij:i<j)->∀ (hj:j<fs.length),bl (fs[i]'(Nat.lt_trans hij hj)).n fs[j].n=true:=by
  intro j
  induction j with
  |zero=>intro i hi;omega
  |succ j ih=>
   intro i hi hj;have h1:=(h (j+1) hj _ (List.getElem?_eq_getElem hj)).2 fs[j] (by omega) (by simp);by_cases e:i=j
   .subst e;exact h1
   .exact SI _ _ _ (ih i (by omega) (by omega)) h1
 exact List.pairwise_iff_getElem.2 fun i j hi hj hij=>step j i hij hj
theorem vK{fs:List DF}(hl:fs.length<=16)(h:C39 fs fs.length):VW fs=true:=
 MW.2 ⟨hl,fun f hf=>by
  obtain⟨i,hi,rfl⟩:=List.getElem_of_mem hf;exact(h i hi _ (List.getElem?_eq_getElem hi)).1,A08 h⟩
theorem C40{fs:List DF}(h:16<fs.length):VW fs=false:=ZO.2 fun g=>by have:=g.few;omega
theorem BI8{fs:List DF}{k:Nat}{f:DF}(hf:fs[k]?=some f)(h:RD f=false):VW fs=false:=
 ZO.2 fun g=>by rw[g.ok f (List.mem_of_getElem? hf)]at h;cases h
theorem AX5{fs:List DF}{k:Nat}{f g:DF}(hf:fs[k]?=some f)(hg:fs[k-1]?=some g)(h0:0<k)(h:bl g.n f.n=false):VW fs=false:=
 ZO.2 fun G=>by
  obtain⟨hk,rfl⟩:=List.getElem?_eq_some_iff.1 hf;obtain⟨hk',rfl⟩:=List.getElem?_eq_some_iff.1 hg;rw[List.pairwise_iff_getElem.1 G.asc (k-1) k hk' hk (by omega)]at h
  cases h
structure There(fs A:List DF)(f:DF)(B:List DF)(name:List UInt8):Prop where
 eq:fs=A++f::B
 nm:f.n=name
 lo:∀a∈A,bl a.n name=true
 hi:∀b∈B,bl name b.n=true
structure Gap(fs A B:List DF)(name:List UInt8):Prop where
 eq:fs=A++B
 lo:∀a∈A,bl a.n name=true
 hi:∀b∈B,bl name b.n=true
theorem AA3(name:List UInt8):∀fs:List DF,Asc fs->(∃A f B,There fs A f B name)\/∃A B,Gap fs A B name
 |[],_=>.inr ⟨[],[],rfl,by simp,by simp⟩
 |x::r,h=>by
  obtain⟨hx,hr⟩:=List.pairwise_cons.1 h
  cases h1:bl x.n name with
  |true=>
   rcases AA3 name r hr with⟨A,f,B,T⟩|⟨A,B,G⟩
   .exact .inl ⟨x::A,f,B,by rw[T.eq];rfl,T.nm,by simp[h1];exact T.lo,T.hi⟩
   .exact .inr ⟨x::A,B,by rw[G.eq];rfl,by simp[h1];exact G.lo,G.hi⟩
  |false=>
   cases h2:bl name x.n with
   |true=>exact .inr ⟨[],x::r,rfl,by simp,by simp[h2];exact fun b hb=>SI _ _ _ h2 (hx b hb)⟩
   |false=>
    have e:=UD _ _ h1 h2;exact .inl ⟨[],x,r,rfl,e,by simp,fun b hb=>by rw[<-e];exact hx b hb⟩
theorem There.ok{fs A B:List DF}{f:DF}{name:List UInt8}(T:There fs A f B name)(g:LV fs):RD f=true:=g.ok f (by rw[T.eq];simp)
theorem NW{f:DF}(h:RD f=true):f.s.length+f.t.length<=1048576:=by simp[RD]at h;exact h.2
theorem XG{f:DF}(h:RD f=true):JC f.n=true:=by simp[RD]at h;exact h.1
end Go.Proofs.YtkpojhhfjddegaaGreatDoor
namespace Go.Proofs.YtkpojhhfjddegaaGreatDoor
structure Ev where
 k:Int
 p:List UInt8
end Go.Proofs.YtkpojhhfjddegaaGreatDoor
namespace Go.Proofs.YtkpojhhfjddegaaGreatDoor
open Go.RowKit
def JE(f:DF):List Value:=[S0 f.n,S0 f.s,S0 f.t]
def BL0(f:DF):Value:=.agg #[S0 f.n,S0 f.s,S0 f.t]
def I5:List DF->List Value
 |[]=>[]
 |f::r=>JE f++I5 r
theorem H8:∀fs:List DF,(I5 fs).length=fs.length*3
 |[]=>rfl
 |f::r=>by rw[I5,List.length_append,H8 r];simp[JE];omega
theorem JU:∀a b:List DF,I5 (a++b)=I5 a++I5 b
 |[],_=>rfl
 |f::r,b=>by rw[List.cons_append,I5,I5,JU r b,List.append_assoc]
theorem YP:∀ (fs:List DF) (i:Nat) (f:DF),fs[i]?=some f->∀c,c<3->(I5 fs)[i*3+c]?=(JE f)[c]?
 |[],i,f,h,_,_=>by simp at h
 |x::r,0,f,h,c,hc=>by
  simp at h;subst h;rw[I5,List.getElem?_append_left (by simp[JE];omega)];simp
 |x::r,i+1,f,h,c,hc=>by
  rw[I5,List.getElem?_append_right (by simp[JE];omega),<-YP r i f (by simpa using h) c hc]
  congr 1
  simp[JE];omega
theorem YQ(fs:List DF):∀u∈I5 fs,u.oneCell'=true:=by
 induction fs with
 |nil=>simp[I5]
 |cons f r ih=>
  intro u hu;rcases List.mem_append.1 hu with h|h
  .simp[JE]at h;rcases h with rfl|rfl|rfl<;>rfl
  .exact ih u h
theorem oQ:∀ (fs:List DF) (i:Nat) (f g:DF),fs[i]?=some f->∀c v,c<3->(JE g)=(JE f).set c v->(I5 fs).set (i*3+c) v=I5 (fs.set i g)
 |[],i,f,g,h,_,_,_,_=>by simp at h
 |x::r,0,f,g,h,c,v,hc,hg=>by
  simp at h;subst h;rw[I5,List.set_cons_zero,I5,hg,List.set_append_left _ _ (by simp[JE];omega)];simp
 |x::r,i+1,f,g,h,c,v,hc,hg=>by
  rw[I5,List.set_cons_succ,I5,List.set_append_right _ _ (by simp[JE];omega),<-oQ r i f g (by simpa using h) c v hc hg]
  congr 2
  simp[JE];omega
def IE(w:World)(b off:Nat)(cs:List Value):Prop:=∀j v,cs[j]?=some v->w.cell? ⟨b,off+j,none⟩=some v
theorem IE.c0{w:World}{b off:Nat}{fs:List DF}(h:IE w b off (I5 fs)){i:Nat}{f:DF}(hi:fs[i]?=some f):w.cell? ⟨b,off+i*3,none⟩=some (S0 f.n):=
 h (i*3) _ (by have:=YP fs i f hi 0 (by omega);simpa [JE]using this)
theorem IE.c1{w:World}{b off:Nat}{fs:List DF}(h:IE w b off (I5 fs)){i:Nat}{f:DF}(hi:fs[i]?=some f):w.cell? ⟨b,off+i*3+1,none⟩=some (S0 f.s):=by
 rw[Nat.add_assoc];exact h (i*3+1) _ (by have:=YP fs i f hi 1 (by omega);simpa [JE]using this)
theorem IE.c2{w:World}{b off:Nat}{fs:List DF}(h:IE w b off (I5 fs)){i:Nat}{f:DF}(hi:fs[i]?=some f):w.cell? ⟨b,off+i*3+2,none⟩=some (S0 f.t):=by
 rw[Nat.add_assoc];exact h (i*3+2) _ (by have:=YP fs i f hi 2 (by omega);simpa [JE]using this)
theorem IE.kept{w w':World}{b off B:Nat}{cs:List Value}(h:IE w b off cs)(hb:Below B w w')(hB:b<B):IE w' b off cs:=
 fun j v hj=>by rw[hb.cell (p:=⟨b,off+j,none⟩) hB];exact h j v hj
def IW(w:World)(v:Value)(fs:List DF):Prop:=
 (∃a cap,v=.slice a 0 cap/\fs=[]/\cap<=maxLen)\/
 ∃b off cap,v=.slice (some ⟨b,off,none⟩) fs.length cap/\fs.length<=cap/\cap<=maxLen/\b<w.heap.size/\fs≠[]/\IE w b off (I5 fs)
theorem IW.kept{w w':World}{B:Nat}{v:Value}{fs:List DF}(h:IW w v fs)(hb:Below B w w')(hB:w.heap.size<=B):IW w' v fs:=by
 rcases h with h|⟨b,off,cap,rfl,h1,h2,h3,h0,h4⟩
 .exact .inl h
 .exact .inr ⟨b,off,cap,rfl,h1,h2,Nat.lt_of_lt_of_le h3 hb.size,h0,h4.kept hb (Nat.lt_of_lt_of_le h3 hB)⟩
theorem IW.next{w w':World}{v:Value}{fs:List DF}(h:IW w v fs)(hb:B0 w w'):IW w' v fs:=h.kept hb (Nat.le_refl _)
theorem IW.alloc{w:World}{v:Value}{fs:List DF}(h:IW w v fs)(o:Obj):IW (w.alloc o) v fs:=h.next ((Below.refl _ _).alloc (Nat.le_refl _) o)
theorem IW.drew{w:World}{v:Value}{fs:List DF}(h:IW w v fs):IW w.drew v fs:=h.next (Below.refl _ _).drew
theorem IW.nil(w:World):IW w (N0) []:=.inl ⟨none,0,rfl,rfl,by decide⟩
def Own(W:World)(g cap:Nat)(fs:List DF):Prop:=∃rest:List Value,W.heap[g]?=some (.cells (I5 fs++rest).toArray 89 (0,0))/\fs.length*3+rest.length=cap*3/\cap<=maxLen
theorem Own.lt{W:World}{g cap:Nat}{fs:List DF}(h:Own W g cap fs):g<W.heap.size:=by
 obtain⟨rest,h1,_⟩:=h;exact(Array.getElem?_eq_some_iff.1 h1).1
theorem Own.le{W:World}{g cap:Nat}{fs:List DF}(h:Own W g cap fs):fs.length<=cap:=by obtain⟨rest,_,h2,_⟩:=h;omega
theorem Own.capLe{W:World}{g cap:Nat}{fs:List DF}(h:Own W g cap fs):cap<=maxLen:=by obtain⟨rest,_,_,h3⟩:=h;exact h3
theorem Own.row{W:World}{g cap:Nat}{fs:List DF}(h:Own W g cap fs):IE W g 0 (I5 fs):=by
 obtain⟨rest,h1,_⟩:=h;intro j v hj;have hlt:j<(I5 fs).length:=(List.getElem?_eq_some_iff.1 hj).1;simp[World.cell?,h1,List.getElem?_append_left hlt,hj]
theorem Own.frozen{W:World}{g cap:Nat}{fs:List DF}(h:Own W g cap fs)(j:Nat):W.frozen? ⟨g,j,none⟩=false:=by
 obtain⟨rest,h1,_⟩:=h;simp[World.frozen?,h1]
theorem Own.c0{W:World}{g cap:Nat}{fs:List DF}(h:Own W g cap fs){i:Nat}{f:DF}(hi:fs[i]?=some f):W.cell? ⟨g,i*3,none⟩=some (S0 f.n):=by simpa using h.row.c0 hi
theorem Own.c1{W:World}{g cap:Nat}{fs:List DF}(h:Own W g cap fs){i:Nat}{f:DF}(hi:fs[i]?=some f):W.cell? ⟨g,i*3+1,none⟩=some (S0 f.s):=by simpa using h.row.c1 hi
theorem Own.c2{W:World}{g cap:Nat}{fs:List DF}(h:Own W g cap fs){i:Nat}{f:DF}(hi:fs[i]?=some f):W.cell? ⟨g,i*3+2,none⟩=some (S0 f.t):=by simpa using h.row.c2 hi
theorem Own.kept{W V:World}{g B cap:Nat}{fs:List DF}(h:Own W g cap fs)(hb:Below B W V)(hg:g<B):Own V g cap fs:=by
 obtain⟨rest,h1,h2⟩:=h;exact⟨rest,(hb.block _ hg).trans h1,h2⟩
theorem Own.next{W V:World}{g cap:Nat}{fs:List DF}(h:Own W g cap fs)(hb:B0 W V):Own V g cap fs:=h.kept hb h.lt
theorem Own.alloc{W:World}{g cap:Nat}{fs:List DF}(h:Own W g cap fs)(o:Obj):Own (W.alloc o) g cap fs:=h.next ((Below.refl _ _).alloc (Nat.le_refl _) o)
theorem Own.drew{W:World}{g cap:Nat}{fs:List DF}(h:Own W g cap fs):Own W.drew g cap fs:=h
theorem Own.other{W:World}{g cap:Nat}{fs:List DF}(h:Own W g cap fs){a:Addr}(ha:g≠a.block)(v:Value):Own (W.setCell a v) g cap fs:=by
 obtain⟨rest,h1,h2⟩:=h;exact⟨rest,(Below.heap_setCell W a v g ha).trans h1,h2⟩
theorem GV{w:World}{g j:Nat}{cur:Array Value}{t:TypeId}{fz:Nat×Nat}(v:Value)(h:w.heap[g]?=some (.cells cur t fz)):
  (w.setCell ⟨g,j,none⟩ v).heap[g]?=some (.cells (cur.setIfInBounds j v) t fz):=by
 obtain⟨hlt,hk⟩:=Array.getElem?_eq_some_iff.1 h;show (w.heap.modify g _)[g]?=_;rw[Array.getElem?_eq_getElem (by rw[Array.size_modify];exact hlt),Array.getElem_modify_self,hk];rfl
theorem Own.set{W:World}{g cap:Nat}{fs:List DF}(h:Own W g cap fs){i:Nat}{f f':DF}(hi:fs[i]?=some f){c:Nat}(hc:c<3){v:Value}(hf:JE f'=(JE f).set c v):Own (W.setCell ⟨g,i*3+c,none⟩ v) g cap (fs.set i f'):=by
 obtain⟨rest,h1,h2,h3⟩:=h;refine⟨rest,?_,by simpa using h2,h3⟩;have hl:i<fs.length:=(List.getElem?_eq_some_iff.1 hi).1;rw[GV v h1,<-oQ fs i f f' hi c v hc hf];simp[List.set_append_left _ _ (show i*3+c<(I5 fs).length by rw[H8];omega)]
theorem Own.s1{W:World}{g cap:Nat}{fs:List DF}(h:Own W g cap fs){i:Nat}{f:DF}(hi:fs[i]?=some f)(x:List UInt8):Own (W.setCell ⟨g,i*3+1,none⟩ (S0 x)) g cap (fs.set i ⟨f.n,x,f.t⟩):=h.set hi (c:=1) (by omega) rfl
theorem Own.s2{W:World}{g cap:Nat}{fs:List DF}(h:Own W g cap fs){i:Nat}{f:DF}(hi:fs[i]?=some f)(x:List UInt8):Own (W.setCell ⟨g,i*3+2,none⟩ (S0 x)) g cap (fs.set i ⟨f.n,f.s,x⟩):=h.set hi (c:=2) (by omega) rfl
def YR(W:World)(B:Nat)(v:Value)(fs:List DF):Prop:=(v=N0/\fs=[])\/∃g cap,v=.slice (some ⟨g,0,none⟩) fs.length cap/\B<=g/\Own W g cap fs
theorem YR.disk{W:World}{B:Nat}{v:Value}{fs:List DF}(h:YR W B v fs):IW W v fs:=by
 rcases h with⟨rfl,rfl⟩|⟨g,cap,rfl,_,h⟩
 .exact IW.nil W
 .by_cases h0:fs=[]
  .subst h0;exact .inl ⟨_,cap,rfl,rfl,h.capLe⟩
  .exact .inr ⟨g,0,cap,rfl,h.le,h.capLe,h.lt,h0,h.row⟩
theorem YR.next{W V:World}{B:Nat}{v:Value}{fs:List DF}(h:YR W B v fs)(hb:B0 W V):YR V B v fs:=by
 rcases h with h|⟨g,cap,rfl,hB,h⟩
 .exact .inl h
 .exact .inr ⟨g,cap,rfl,hB,h.next hb⟩
theorem YR.LC{W:World}{B:Nat}{v:Value}{fs:List DF}(h:W.ownsRow B 89 3 v fs.length (I5 fs)):YR W B v fs:=by
 obtain⟨_,⟨rfl,h0⟩|⟨g,cap,cur,rfl,hB,hg,hn,hm,hs,ht⟩⟩:=h
 .exact .inl ⟨rfl,List.eq_nil_of_length_eq_zero h0⟩
 .refine .inr ⟨g,cap,rfl,hB,cur.toList.drop (fs.length*3),?_,?_,hm⟩
  .rw[hg,<-ht,List.take_append_drop]
  .simp[hs];omega
theorem YR.row{W:World}{B:Nat}{v:Value}{fs:List DF}(h:YR W B v fs):W.ownsRow B 89 3 v fs.length (I5 fs):=by
 refine⟨H8 fs,?_⟩;rcases h with⟨rfl,rfl⟩|⟨g,cap,rfl,hB,h⟩
 .exact .inl ⟨rfl,rfl⟩
 .have hle:=h.le;obtain⟨rest,h1,h2,h3⟩:=h;refine .inr ⟨g,cap,_,rfl,hB,h1,hle,h3,by simp[H8,h2],?_⟩;simp[<-H8 fs]
class Lay (α:Type) where
 k:Nat
 cs:α->List Value
 ty:TypeId
 len:∀x,(cs x).length=k
 one:∀x,∀u∈cs x,u.oneCell'=true
def B02(e:Ev):List Value:=[I0 e.k,S0 e.p]
def evV(e:Ev):Value:=.agg #[I0 e.k,S0 e.p]
instance layE:Lay Ev:=⟨2,B02,93,fun _=>rfl,fun x u hu=>by simp[B02]at hu;rcases hu with rfl|rfl<;>rfl⟩
instance layI:Lay Int:=⟨1,fun x=>[I0 x],3,fun _=>rfl,fun x u hu=>by simp at hu;subst hu;rfl⟩
instance layS:Lay (List UInt8):=⟨1,fun x=>[S0 x],9,fun _=>rfl,fun x u hu=>by simp at hu;subst hu;rfl⟩
section
variable {α:Type} [Lay α]
def GK(xs:List α):List Value:=xs.flatMap Lay.cs
theorem TL:GK ([]:List α)=[]:=rfl
theorem JV(x:α)(r:List α):GK (x::r)=Lay.cs x++GK r:=by simp[GK]
theorem H7(xs:List α):(GK xs).length=xs.length*Lay.k α:=by
 induction xs with
 |nil=>simp[GK]
 |cons x r ih=>rw[JV,List.length_append,Lay.len,ih,List.length_cons,Nat.add_mul];omega
theorem I8(a b:List α):GK (a++b)=GK a++GK b:=by simp[GK]
theorem JH(a:List α)(x:α):GK (a++[x])=GK a++Lay.cs x:=by simp[GK]
theorem B03(A:List α)(x:α)(B:List α)(c:Nat)(hc:c<Lay.k α):(GK (A++x::B))[A.length*Lay.k α+c]?=(Lay.cs x)[c]? :=by
 rw[I8,List.getElem?_append_right (by rw[H7];omega),H7,Nat.add_sub_cancel_left,JV,List.getElem?_append_left (by rw[Lay.len];exact hc)]
theorem GY(xs:List α)(i:Nat)(x:α)(h:xs[i]?=some x)(c:Nat)(hc:c<Lay.k α):(GK xs)[i*Lay.k α+c]?=(Lay.cs x)[c]? :=by
 obtain⟨hi,rfl⟩:=List.getElem?_eq_some_iff.1 h;have e:xs=xs.take i++xs[i]::xs.drop (i+1):=by simp
 have:=B03 (xs.take i) xs[i] (xs.drop (i+1)) c hc;rw[<-e,List.length_take,Nat.min_eq_left (Nat.le_of_lt hi)]at this;exact this
theorem JR(xs:List α):∀u∈GK xs,u.oneCell'=true:=by
 intro u hu;obtain⟨x,_,hx⟩:=List.mem_flatMap.1 hu;exact Lay.one x u hx
theorem AM0(A:List α)(x y:α)(B:List α)(c:Nat)(v:Value)(hc:c<Lay.k α)(hy:Lay.cs y=(Lay.cs x).set c v):(GK (A++x::B)).set (A.length*Lay.k α+c) v=GK (A++y::B):=by
 rw[I8,I8,List.set_append_right _ _ (by rw[H7];omega),H7,Nat.add_sub_cancel_left,JV,JV,List.set_append_left _ _ (by rw[Lay.len];exact hc),hy]
def IK(w:World)(v:Value)(xs:List α):Prop:=
 (∃a cap,v=.slice a 0 cap/\xs=[]/\cap<=maxLen)\/
 ∃b off cap,v=.slice (some ⟨b,off,none⟩) xs.length cap/\xs.length<=cap/\cap<=maxLen/\b<w.heap.size/\xs≠[]/\IE w b off (GK xs)
theorem IK.kept{w w':World}{B:Nat}{v:Value}{xs:List α}(h:IK w v xs)(hb:Below B w w')(hB:w.heap.size<=B):IK w' v xs:=by
 rcases h with h|⟨b,off,cap,rfl,h1,h2,h3,h0,h4⟩
 .exact .inl h
 .exact .inr ⟨b,off,cap,rfl,h1,h2,Nat.lt_of_lt_of_le h3 hb.size,h0,h4.kept hb (Nat.lt_of_lt_of_le h3 hB)⟩
theorem IK.next{w w':World}{v:Value}{xs:List α}(h:IK w v xs)(hb:B0 w w'):IK w' v xs:=h.kept hb (Nat.le_refl _)
theorem IK.alloc{w:World}{v:Value}{xs:List α}(h:IK w v xs)(o:Obj):IK (w.alloc o) v xs:=h.next ((Below.refl _ _).alloc (Nat.le_refl _) o)
theorem IK.nil(w:World):IK w (N0) ([]:List α):=.inl ⟨none,0,rfl,rfl,by decide⟩
theorem GL{w:World}{v:Value}{xs:List α}(hv:IK w v xs):∃a c,v=.slice a xs.length c:=by
 rcases hv with⟨a,cap,rfl,rfl,_⟩|⟨b,off,cap,rfl,_⟩
 .exact⟨_,_,rfl⟩
 .exact⟨_,_,rfl⟩
theorem MZ{w:World}{v:Value}{xs:List α}(hv:IK w v xs)(h0:xs≠[]):
  ∃b off cap,v=.slice (some ⟨b,off,none⟩) xs.length cap/\b<w.heap.size/\IE w b off (GK xs)/\xs.length<=cap/\cap<=maxLen:=by
 rcases hv with⟨a,cap,rfl,rfl,_⟩|⟨b,off,cap,rfl,h1,h2,hb,_,hr⟩
 .exact absurd rfl h0
 .exact⟨b,off,cap,rfl,hb,hr,h1,h2⟩
def JB(W:World)(g cap:Nat)(xs:List α):Prop:=∃rest:List Value,W.heap[g]?=some (.cells (GK xs++rest).toArray (Lay.ty α) (0,0))/\xs.length*Lay.k α+rest.length=cap*Lay.k α/\xs.length<=cap/\cap<=maxLen
theorem JB.lt{W:World}{g cap:Nat}{xs:List α}(h:JB W g cap xs):g<W.heap.size:=by
 obtain⟨rest,h1,_⟩:=h;exact(Array.getElem?_eq_some_iff.1 h1).1
theorem JB.le{W:World}{g cap:Nat}{xs:List α}(h:JB W g cap xs):xs.length<=cap:=by obtain⟨rest,_,_,h2,_⟩:=h;exact h2
theorem JB.capLe{W:World}{g cap:Nat}{xs:List α}(h:JB W g cap xs):cap<=maxLen:=by obtain⟨rest,_,_,_,h3⟩:=h;exact h3
theorem JB.row{W:World}{g cap:Nat}{xs:List α}(h:JB W g cap xs):IE W g 0 (GK xs):=by
 obtain⟨rest,h1,_⟩:=h;intro j v hj;have hlt:j<(GK xs).length:=(List.getElem?_eq_some_iff.1 hj).1;simp[World.cell?,h1,List.getElem?_append_left hlt,hj]
theorem JB.frozen{W:World}{g cap:Nat}{xs:List α}(h:JB W g cap xs)(j:Nat):W.frozen? ⟨g,j,none⟩=false:=by
 obtain⟨rest,h1,_⟩:=h;simp[World.frozen?,h1]
theorem JB.kept{W V:World}{g B cap:Nat}{xs:List α}(h:JB W g cap xs)(hb:Below B W V)(hg:g<B):JB V g cap xs:=by
 obtain⟨rest,h1,h2⟩:=h;exact⟨rest,(hb.block _ hg).trans h1,h2⟩
theorem JB.next{W V:World}{g cap:Nat}{xs:List α}(h:JB W g cap xs)(hb:B0 W V):JB V g cap xs:=h.kept hb h.lt
theorem JB.other{W:World}{g cap:Nat}{xs:List α}(h:JB W g cap xs){a:Addr}(ha:g≠a.block)(v:Value):JB (W.setCell a v) g cap xs:=by
 obtain⟨rest,h1,h2⟩:=h;exact⟨rest,(Below.heap_setCell W a v g ha).trans h1,h2⟩
theorem JB.set{W:World}{g cap:Nat}{A B:List α}{x y:α}(h:JB W g cap (A++x::B)){c:Nat}(hc:c<Lay.k α){v:Value}(hy:Lay.cs y=(Lay.cs x).set c v):JB (W.setCell ⟨g,A.length*Lay.k α+c,none⟩ v) g cap (A++y::B):=by
 obtain⟨rest,h1,h2,h3⟩:=h;refine⟨rest,?_,by simpa using h2,by simpa using h3⟩;rw[GV v h1,<-AM0 A x y B c v hc hy];have hlt:A.length*Lay.k α+c<(GK (A++x::B)).length:=by
  rw[H7];simp[Nat.add_mul];omega
 simp[List.set_append_left _ _ hlt]
def H6(W:World)(B:Nat)(v:Value)(xs:List α):Prop:=(v=N0/\xs=[])\/∃g cap,v=.slice (some ⟨g,0,none⟩) xs.length cap/\B<=g/\JB W g cap xs
theorem H6.seq{W:World}{B:Nat}{v:Value}{xs:List α}(h:H6 W B v xs):IK W v xs:=by
 rcases h with⟨rfl,rfl⟩|⟨g,cap,rfl,_,h⟩
 .exact IK.nil W
 .by_cases h0:xs=[]
  .subst h0;exact .inl ⟨_,cap,rfl,rfl,h.capLe⟩
  .exact .inr ⟨g,0,cap,rfl,h.le,h.capLe,h.lt,h0,h.row⟩
theorem H6.kept{W V:World}{B C:Nat}{v:Value}{xs:List α}(h:H6 W B v xs)(hb:Below C W V)(hC:W.heap.size<=C):H6 V B v xs:=by
 rcases h with h|⟨g,cap,rfl,hB,h⟩
 .exact .inl h
 .exact .inr ⟨g,cap,rfl,hB,h.kept hb (Nat.lt_of_lt_of_le h.lt hC)⟩
theorem H6.next{W V:World}{B:Nat}{v:Value}{xs:List α}(h:H6 W B v xs)(hb:B0 W V):H6 V B v xs:=h.kept hb (Nat.le_refl _)
theorem H6.other{W:World}{B:Nat}{v:Value}{xs:List α}(h:H6 W B v xs){a:Addr}(ha:v.ownBlock≠some a.block)(u:Value):H6 (W.setCell a u) B v xs:=by
 rcases h with h|⟨g,cap,rfl,hB,h⟩
 .exact .inl h
 .exact .inr ⟨g,cap,rfl,hB,h.other (by intro e;apply ha;simp[Value.ownBlock,e]) u⟩
theorem H6.lower{W:World}{B C:Nat}{v:Value}{xs:List α}(h:H6 W B v xs)(hC:C<=B):H6 W C v xs:=by
 rcases h with h|⟨g,cap,rfl,hB,h⟩
 .exact .inl h
 .exact .inr ⟨g,cap,rfl,Nat.le_trans hC hB,h⟩
theorem H6.LC{W:World}{B:Nat}{v:Value}{xs:List α}(h:W.ownsRow B (Lay.ty α) (Lay.k α) v xs.length (GK xs)):H6 W B v xs:=by
 obtain⟨_,⟨rfl,h0⟩|⟨g,cap,cur,rfl,hB,hg,hn,hm,hs,ht⟩⟩:=h
 .exact .inl ⟨rfl,List.eq_nil_of_length_eq_zero h0⟩
 .refine .inr ⟨g,cap,rfl,hB,cur.toList.drop (xs.length*Lay.k α),?_,?_,hn,hm⟩
  .rw[hg,<-ht,List.take_append_drop]
  .have:=Nat.mul_le_mul_right (Lay.k α) hn;simp[hs];omega
theorem H6.row{W:World}{B:Nat}{v:Value}{xs:List α}(h:H6 W B v xs):W.ownsRow B (Lay.ty α) (Lay.k α) v xs.length (GK xs):=by
 refine⟨H7 xs,?_⟩;rcases h with⟨rfl,rfl⟩|⟨g,cap,rfl,hB,h⟩
 .exact .inl ⟨rfl,rfl⟩
 .obtain⟨rest,h1,h2,hle,h3⟩:=h;refine .inr ⟨g,cap,_,rfl,hB,h1,hle,h3,by simp[H7,h2],?_⟩;simp[<-H7 xs]
theorem H6.slice{W:World}{B:Nat}{v:Value}{xs:List α}(h:H6 W B v xs):∃a c,v=.slice a xs.length c/\c<=maxLen:=by
 rcases h with⟨rfl,rfl⟩|⟨g,cap,rfl,_,h⟩
 .exact⟨none,0,rfl,by decide⟩
 .exact⟨_,_,rfl,h.capLe⟩
end
theorem IE.i0{w:World}{b off:Nat}{xs:List Int}(h:IE w b off (GK xs)){i:Nat}{x:Int}(hi:xs[i]?=some x):w.cell? ⟨b,off+i,none⟩=some (I0 x):=
 h i _ (by have:=GY xs i x hi 0 (by decide);simpa [Lay.k,Lay.cs]using this)
theorem IE.s0{w:World}{b off:Nat}{xs:List (List UInt8)}(h:IE w b off (GK xs)){i:Nat}{x:List UInt8}(hi:xs[i]?=some x):w.cell? ⟨b,off+i,none⟩=some (S0 x):=
 h i _ (by have:=GY xs i x hi 0 (by decide);simpa [Lay.k,Lay.cs]using this)
theorem IE.e0{w:World}{b off:Nat}{xs:List Ev}(h:IE w b off (GK xs)){i:Nat}{x:Ev}(hi:xs[i]?=some x):w.cell? ⟨b,off+i*2,none⟩=some (I0 x.k):=
 h (i*2) _ (GY xs i x hi 0 (by decide))
theorem IE.e1{w:World}{b off:Nat}{xs:List Ev}(h:IE w b off (GK xs)){i:Nat}{x:Ev}(hi:xs[i]?=some x):w.cell? ⟨b,off+i*2+1,none⟩=some (S0 x.p):=by
 rw[Nat.add_assoc];exact h (i*2+1) _ (GY xs i x hi 1 (by decide))
theorem GZ{w:World}{o:Obj}{w1:World}(h:Below (w.alloc o).heap.size (w.alloc o) w1):B0 w w1:=
 ((Below.refl _ _).alloc (Nat.le_refl _) _).trans (h.mono (by simp))
theorem GI{w W V:World}(h:B0 w W)(h':B0 W V):B0 w V:=h.trans (h'.mono h.size)
theorem GH(w:World)(o:Obj):B0 w (w.alloc o):=(Below.refl _ _).alloc (Nat.le_refl _) _
theorem QK{w:World}{g j:Nat}(v:Value):w.grownBy (w.setCell ⟨g,j,none⟩ v) (some g):=⟨rfl,rfl,rfl,by simp[World.setCell],fun k _ hne=>Below.heap_setCell w ⟨g,j,none⟩ v k (fun e=>hne (by rw[e]))⟩
theorem IV{w w' w'':World}{g:Nat}(h:w.grownBy w' (some g))(h':w'.grownBy w'' (some g)):w.grownBy w'' (some g):=
 ⟨h'.os.trans h.os,h'.tape.trans h.tape,h'.output.trans h.output,Nat.le_trans h.size h'.size,fun k hk hne=>(h'.block k (Nat.lt_of_lt_of_le hk h.size) hne).trans (h.block k hk hne)⟩
theorem PX{g:Nat}{t:TypeId}{fz:Nat×Nat}:∀ (vs:List Value) (o:Nat) (w:World) (l:List Value),w.heap[g]?=some (.cells l.toArray t fz)->o+vs.length<=l.length->
  (w.setCells g o vs).heap[g]?=some (.cells (l.take o++vs++l.drop (o+vs.length)).toArray t fz)
 |[],o,w,l,h,_=>by simpa [World.setCells]using h
 |v::r,o,w,l,h,hl=>by
  have h1:(w.setCell ⟨g,o,none⟩ v).heap[g]?=some (.cells (l.set o v).toArray t fz):=by rw[GV v h];simp
  rw[World.setCells,PX r (o+1) _ _ h1 (by simp at hl⊢;omega)];have ho:o<l.length:=by simp at hl;omega
  have e1:(l.set o v).take (o+1)=l.take o++[v]:=by
   rw[List.take_set,List.take_succ_eq_append_getElem ho,List.set_append_right _ _ (by simp;omega)];simp[Nat.min_eq_left (Nat.le_of_lt ho)]
  have e2:(l.set o v).drop (o+1+r.length)=l.drop (o+(r.length+1)):=by
   rw[List.drop_set_of_lt (by omega)];congr 1;omega
  rw[e1,e2];simp
theorem I9{g:Nat}:∀ (vs:List Value) (o:Nat) (w:World),w.grownBy (w.setCells g o vs) (some g)
 |[],_,_=>⟨rfl,rfl,rfl,Nat.le_refl _,fun _ _ _=>rfl⟩
 |v::r,o,_=>IV (QK v) (I9 r (o+1) _)
section
variable {α:Type} [Lay α]
theorem JB.splice{W:World}{g cap:Nat}{pre tl:List α}(h:JB W g cap (pre++tl))(new:List α)(hfit:pre.length+new.length<=cap):JB (W.setCells g (pre.length*Lay.k α) (GK new)) g cap (pre++new):=by
 obtain⟨rest,h1,h2,h4,h3⟩:=h;have hlen:(GK (pre++tl)++rest).length=cap*Lay.k α:=by rw[List.length_append,H7];exact h2
 have hf:pre.length*Lay.k α+new.length*Lay.k α<=cap*Lay.k α:=by rw[<-Nat.add_mul];exact Nat.mul_le_mul_right _ hfit
 refine⟨(GK (pre++tl)++rest).drop (pre.length*Lay.k α+(GK new).length),?_,?_,by simpa using hfit,h3⟩
 .rw[PX (GK new) (pre.length*Lay.k α) W _ h1 (by rw[hlen,H7];omega),I8 pre new]
  congr 3
  have e:GK (pre++tl)++rest=GK pre++(GK tl++rest):=by rw[I8,List.append_assoc]
  rw[e,<-H7 pre,List.take_left]
 .rw[List.length_drop,hlen,H7,List.length_append,Nat.add_mul];omega
theorem JB.spare{W:World}{g cap:Nat}{fs:List α}(h:JB W g cap fs)(vs:List Value)(o:Nat)(ho:fs.length*Lay.k α<=o)(hfit:o+vs.length<=cap*Lay.k α):JB (W.setCells g o vs) g cap fs:=by
 obtain⟨rest,h1,h2,h4,h3⟩:=h;have hlen:(GK fs++rest).length=cap*Lay.k α:=by rw[List.length_append,H7];exact h2
 have hc:=H7 fs;refine⟨rest.take (o-fs.length*Lay.k α)++vs++(GK fs++rest).drop (o+vs.length),?_,?_,h4,h3⟩
 .rw[PX vs o W _ h1 (by rw[hlen];omega)]
  congr 2
  rw[List.take_append,List.take_of_length_le (by omega),hc];simp only[List.append_assoc]
 .simp only[List.length_append,List.length_take,List.length_drop,hc];omega
theorem JB.wG{W:World}{g cap:Nat}{A B:List α}{y:α}(h:JB W g cap (A++y::B))(x:α):JB (W.setCells g (A.length*Lay.k α) (Lay.cs x)) g cap (A++x::B):=by
 obtain⟨rest,h1,h2,h4,h3⟩:=h;have hlen:(GK (A++y::B)++rest).length=cap*Lay.k α:=by rw[List.length_append,H7];exact h2
 refine⟨rest,?_,by simpa using h2,by simpa using h4,h3⟩;have hA:=H7 A;have hx3:(Lay.cs x).length=Lay.k α:=Lay.len x;have hy3:(Lay.cs y).length=Lay.k α:=Lay.len y;rw[PX (Lay.cs x) (A.length*Lay.k α) W _ h1 (by rw[hlen,hx3];simp[Nat.add_mul]at h2;omega)];have e:GK (A++y::B)++rest=GK A++(Lay.cs y++(GK B++rest)):=by simp[I8,JV]
 have e':GK (A++x::B)++rest=GK A++(Lay.cs x++(GK B++rest)):=by simp[I8,JV]
 rw[e,e']
 congr 2
 rw[hx3,<-hA,List.take_left,show (GK A).length+Lay.k α=(GK A++Lay.cs y).length by rw[List.length_append,hy3],<-List.append_assoc (GK A) (Lay.cs y),List.drop_left,List.append_assoc]
theorem JB.some{W:World}{g cap:Nat}{fs:List α}(h:JB W g cap fs){j:Nat}(hj:j<cap*Lay.k α):(W.cell? ⟨g,j,none⟩).isSome=true:=by
 obtain⟨rest,h1,h2,_⟩:=h;have hl:j<(GK fs++rest).length:=by rw[List.length_append,H7,h2];exact hj
 rw[List.length_append]at hl;simp[World.cell?,h1,hl]
theorem JB.drew{W:World}{g cap:Nat}{fs:List α}(h:JB W g cap fs):JB W.drew g cap fs:=h
def JM(W:World)(b:Nat)(x:α):Prop:=W.heap[b]?=some (.cells (Lay.cs x).toArray (Lay.ty α) (0,0))
theorem JM.row{W:World}{b:Nat}{x:α}(h:JM W b x):∀j v,(Lay.cs x)[j]?=some v->W.cell? ⟨b,0+j,none⟩=some v:=by
 intro j v hj;unfold JM at h;simp[World.cell?,h,hj]
end
theorem J8(ss:List Int):(GK ss).length=ss.length:=(H7 ss).trans (Nat.mul_one _)
structure Touch(F:Nat->Prop)(w w':World):Prop where
 os:w'.os=w.os
 tape:w'.tape=w.tape
 output:w'.output=w.output
 size:w.heap.size<=w'.heap.size
 block:∀k,k<w.heap.size->¬F k->w'.heap[k]?=w.heap[k]?
theorem Touch.refl(F:Nat->Prop)(w:World):Touch F w w:=⟨rfl,rfl,rfl,Nat.le_refl _,fun _ _ _=>rfl⟩
theorem Touch.trans{F:Nat->Prop}{a b c:World}(h:Touch F a b)(k:Touch F b c):Touch F a c:=
 ⟨k.os.trans h.os,k.tape.trans h.tape,k.output.trans h.output,Nat.le_trans h.size k.size,fun i hi hf=>(k.block i (Nat.lt_of_lt_of_le hi h.size) hf).trans (h.block i hi hf)⟩
theorem Touch.of_below{F:Nat->Prop}{w w':World}(h:B0 w w'):Touch F w w':=⟨h.os,h.tape,h.output,h.size,fun k hk _=>h.block k hk⟩
theorem Touch.VX{F:Nat->Prop}{w w':World}{r:Option Nat}(h:w.grownBy w' r)(hr:∀k,r=some k->F k):Touch F w w':=⟨h.os,h.tape,h.output,h.size,fun k hk hf=>h.block k hk (fun e=>hf (hr k e.symm))⟩
theorem Touch.set{F:Nat->Prop}{w:World}{a:Addr}(hf:F a.block)(v:Value):Touch F w (w.setCell a v):=⟨rfl,rfl,rfl,by simp[World.setCell],fun k _ hn=>Below.heap_setCell w a v k (fun e=>hn (by rw[e];exact hf))⟩
theorem Touch.drew{F:Nat->Prop}{w w':World}(h:Touch F w w'):Touch F w w'.drew:=⟨h.os,h.tape,h.output,h.size,h.block⟩
theorem Touch.mono{F G:Nat->Prop}{w w':World}(h:Touch F w w')(hg:∀k,k<w.heap.size->F k->G k):Touch G w w':=⟨h.os,h.tape,h.output,h.size,fun k hk hn=>h.block k hk (fun hf=>hn (hg k hk hf))⟩
theorem Touch.below{F:Nat->Prop}{w w':World}{B:Nat}(h:Touch F w w')(hB:B<=w.heap.size)(hF:∀k,F k->B<=k):Below B w w':=
 ⟨h.os,h.tape,h.output,h.size,fun k hk=>h.block k (Nat.lt_of_lt_of_le hk hB) (fun hf=>by have:=hF k hf;omega)⟩
theorem H6.low{α:Type}[Lay α]{W:World}{B:Nat}{v:Value}{xs:List α}(h:H6 W B v xs)(k:Nat)(hk:v.ownBlock=some k):k<W.heap.size:=by
 rcases h with⟨rfl,rfl⟩|⟨g,cap,rfl,_,h⟩
 .simp[Value.ownBlock]at hk
 .simp only[Value.ownBlock,Option.some.injEq]at hk;rw[<-hk];exact h.lt
theorem H6.grown{α:Type}[Lay α]{W V:World}{B:Nat}{v:Value}{xs:List α}(h:H6 W B v xs){r:Option Nat}(hg:W.grownBy V r)(hr:∀k,v.ownBlock=some k->some k≠r):H6 V B v xs:=by
 rcases h with h|⟨g,cap,rfl,hB,h⟩
 .exact .inl h
 .obtain⟨rest,h1,h2⟩:=h;have hlt:=(Array.getElem?_eq_some_iff.1 h1).1;exact .inr ⟨g,cap,rfl,hB,rest,(hg.block g hlt (hr g rfl)).trans h1,h2⟩
theorem IB{w:World}{a:Addr}{v:Value}(h:w.cell? a=some v):w.setCell a v=w:=by
 obtain⟨heap,tape,drawn,os,output⟩:=w;simp only[World.setCell,World.cell?]at*
 congr 1
 apply Array.ext_getElem?
 intro k;rw[Array.getElem?_modify];by_cases hk:a.block=k
 .subst hk;simp only[if_true]
  cases ho:heap[a.block]? with
  |none=>rfl
  |some o=>
   rw[ho]at h
   cases o with
   |cells c e fz=>
    simp only at h;by_cases hs:a.spot.isSome=true
    .simp[hs]at h
    .simp only[hs]at h;simp[hs];have hlt:a.off<c.size:=(Array.getElem?_eq_some_iff.1 (by simpa using h)).1;have hv:c[a.off]=v:=(Array.getElem?_eq_some_iff.1 (by simpa using h)).2;rw[<-hv];simp[Array.setIfInBounds,hlt]
   |_=>simp at h
 .simp[hk]
theorem IC{W V:World}(h:Below W.drew.heap.size W.drew V):B0 W V:=((Below.refl _ W).drew).trans h
theorem CL1:(Tryz.prog.info? 93).map (fun i=>(i.zero,i.size,i.bytes))=some (some (.agg #[I0 0,.string ⟨#[]⟩]),2,24):=by kernel_rfl
theorem CX6:∃i0,Tryz.prog.info? 93=some i0/\i0.zero=some (.agg #[I0 0,.string ⟨#[]⟩])/\i0.size=2/\i0.bytes=24:=by
 obtain⟨i0,h,e⟩:=Option.map_eq_some_iff.1 CL1;simp only[Prod.mk.injEq]at e;exact⟨i0,h,e⟩
theorem SV{α:Type}[Lay α]{W:World}{g:Nat}{x:α}(h:JM W g x)(j:Nat)(u:Value)(hj:(Lay.cs x)[j]?=some u):W.cell? ((⟨g,0,none⟩:Addr).add j)=some u:=by
 rw[Addr.add_lit];exact h.row j u hj
theorem A21(w:World)(k:Int)(p:List UInt8):JM (w.alloc (.cells #[I0 k,S0 p] 93)) w.heap.size (⟨k,p⟩:Ev):=heap_alloc_new w _
def JA(t:GU):Value:=.agg #[I0 t.z,I0 t.o,I0 t.s,S0 t.p,S0 t.d,I0 t.v,I0 t.w]
def N7(t:GU):List Value:=[I0 t.z,I0 t.o,I0 t.s,S0 t.p,S0 t.d,I0 t.v,I0 t.w]
def KC:List GU->List Value
 |[]=>[]
 |t::r=>N7 t++KC r
theorem bM:∀ts:List GU,(KC ts).length=ts.length*7
 |[]=>rfl
 |t::r=>by rw[KC,List.length_append,bM r];simp[N7];omega
theorem SY:∀a b:List GU,KC (a++b)=KC a++KC b
 |[],_=>rfl
 |t::r,b=>by rw[List.cons_append,KC,KC,SY r b,List.append_assoc]
theorem A23(a:List GU)(t:GU):KC (a++[t])=KC a++N7 t:=by rw[SY,KC,KC,List.append_nil]
theorem OZ:∀ (ts:List GU) (i:Nat) (t:GU),ts[i]?=some t->∀c,c<7->(KC ts)[i*7+c]?=(N7 t)[c]?
 |[],i,t,h,_,_=>by simp at h
 |x::r,0,t,h,c,hc=>by
  simp at h;subst h;rw[KC,List.getElem?_append_left (by simp[N7];omega)];simp
 |x::r,i+1,t,h,c,hc=>by
  rw[KC,List.getElem?_append_right (by simp[N7];omega),<-OZ r i t (by simpa using h) c hc]
  congr 1
  simp[N7];omega
theorem oU(t:GU):∀u∈N7 t,u.oneCell'=true:=by
 intro u hu;simp[N7]at hu;rcases hu with rfl|rfl|rfl|rfl|rfl|rfl|rfl<;>rfl
theorem IE.z{w:World}{b off:Nat}{ts:List GU}(h:IE w b off (KC ts)){i:Nat}{t:GU}(hi:ts[i]?=some t):w.cell? ⟨b,off+i*7,none⟩=some (I0 t.z):=
 h (i*7) _ (by have:=OZ ts i t hi 0 (by omega);simpa [N7]using this)
theorem IE.o{w:World}{b off:Nat}{ts:List GU}(h:IE w b off (KC ts)){i:Nat}{t:GU}(hi:ts[i]?=some t):w.cell? ⟨b,off+i*7+1,none⟩=some (I0 t.o):=by
 rw[Nat.add_assoc];exact h (i*7+1) _ (by have:=OZ ts i t hi 1 (by omega);simpa [N7]using this)
theorem IE.s{w:World}{b off:Nat}{ts:List GU}(h:IE w b off (KC ts)){i:Nat}{t:GU}(hi:ts[i]?=some t):w.cell? ⟨b,off+i*7+2,none⟩=some (I0 t.s):=by
 rw[Nat.add_assoc];exact h (i*7+2) _ (by have:=OZ ts i t hi 2 (by omega);simpa [N7]using this)
theorem IE.p{w:World}{b off:Nat}{ts:List GU}(h:IE w b off (KC ts)){i:Nat}{t:GU}(hi:ts[i]?=some t):w.cell? ⟨b,off+i*7+3,none⟩=some (S0 t.p):=by
 rw[Nat.add_assoc];exact h (i*7+3) _ (by have:=OZ ts i t hi 3 (by omega);simpa [N7]using this)
theorem IE.d{w:World}{b off:Nat}{ts:List GU}(h:IE w b off (KC ts)){i:Nat}{t:GU}(hi:ts[i]?=some t):w.cell? ⟨b,off+i*7+4,none⟩=some (S0 t.d):=by
 rw[Nat.add_assoc];exact h (i*7+4) _ (by have:=OZ ts i t hi 4 (by omega);simpa [N7]using this)
theorem IE.v{w:World}{b off:Nat}{ts:List GU}(h:IE w b off (KC ts)){i:Nat}{t:GU}(hi:ts[i]?=some t):w.cell? ⟨b,off+i*7+5,none⟩=some (I0 t.v):=by
 rw[Nat.add_assoc];exact h (i*7+5) _ (by have:=OZ ts i t hi 5 (by omega);simpa [N7]using this)
theorem IE.w{w:World}{b off:Nat}{ts:List GU}(h:IE w b off (KC ts)){i:Nat}{t:GU}(hi:ts[i]?=some t):w.cell? ⟨b,off+i*7+6,none⟩=some (I0 t.w):=by
 rw[Nat.add_assoc];exact h (i*7+6) _ (by have:=OZ ts i t hi 6 (by omega);simpa [N7]using this)
def NI(w:World)(v:Value)(ts:List GU):Prop:=
 (∃a cap,v=.slice a 0 cap/\ts=[]/\cap<=maxLen)\/
 ∃b off cap,v=.slice (some ⟨b,off,none⟩) ts.length cap/\ts.length<=cap/\cap<=maxLen/\b<w.heap.size/\ts≠[]/\IE w b off (KC ts)
theorem NI.kept{w w':World}{B:Nat}{v:Value}{ts:List GU}(h:NI w v ts)(hb:Below B w w')(hB:w.heap.size<=B):NI w' v ts:=by
 rcases h with h|⟨b,off,cap,rfl,h1,h2,h3,h0,h4⟩
 .exact .inl h
 .exact .inr ⟨b,off,cap,rfl,h1,h2,Nat.lt_of_lt_of_le h3 hb.size,h0,h4.kept hb (Nat.lt_of_lt_of_le h3 hB)⟩
theorem NI.next{w w':World}{v:Value}{ts:List GU}(h:NI w v ts)(hb:B0 w w'):NI w' v ts:=h.kept hb (Nat.le_refl _)
theorem NI.drew{w:World}{v:Value}{ts:List GU}(h:NI w v ts):NI w.drew v ts:=h.next (Below.refl _ _).drew
theorem NI.nil(w:World):NI w (N0) []:=.inl ⟨none,0,rfl,rfl,by decide⟩
theorem MH{w:World}{v:Value}{ts:List GU}(hv:NI w v ts):∃a c,v=.slice a ts.length c:=by
 rcases hv with⟨a,cap,rfl,rfl,_⟩|⟨b,off,cap,rfl,_⟩
 .exact⟨_,_,rfl⟩
 .exact⟨_,_,rfl⟩
theorem ZV{w:World}{v:Value}{ts:List GU}(hv:NI w v ts){i:Nat}{t:GU}(hi:ts[i]?=some t):
  ∃b off cap,v=.slice (some ⟨b,off,none⟩) ts.length cap/\b<w.heap.size/\IE w b off (KC ts)/\i<ts.length/\ts.length<=cap/\cap<=maxLen:=by
 have hlt:=(List.getElem?_eq_some_iff.1 hi).1;rcases hv with⟨a,cap,rfl,rfl,_⟩|⟨b,off,cap,rfl,h1,h2,hb,_,hr⟩
 .simp at hi
 .exact⟨b,off,cap,rfl,hb,hr,hlt,h1,h2⟩
def nS(W:World)(B:Nat)(v:Value)(ts:List GU):Prop:=W.ownsRow B 83 7 v ts.length (KC ts)
theorem nS.nil(W:World)(B:Nat):nS W B (N0) []:=⟨rfl,.inl ⟨rfl,rfl⟩⟩
theorem nS.log{W:World}{B:Nat}{v:Value}{ts:List GU}(h:nS W B v ts):NI W v ts:=by
 obtain⟨hl,⟨rfl,h0⟩|⟨g,cap,cur,rfl,hB,hg,hn,hm,hs,ht⟩⟩:=h
 .rw[List.eq_nil_of_length_eq_zero h0];exact NI.nil W
 .by_cases h0:ts=[]
  .subst h0;exact .inl ⟨_,cap,rfl,rfl,hm⟩
  .refine .inr ⟨g,0,cap,rfl,hn,hm,(Array.getElem?_eq_some_iff.1 hg).1,h0,fun j v hj=>?_⟩;have hlt:j<(KC ts).length:=(List.getElem?_eq_some_iff.1 hj).1;have:cur[j]?=some v:=by
    rw[<-ht,List.getElem?_take_of_lt (by rw[hl]at hlt;exact hlt)]at hj;simpa using hj
   simp[World.cell?,hg,this]
theorem nS.next{W V:World}{B:Nat}{v:Value}{ts:List GU}(h:nS W B v ts)(hb:B0 W V):nS V B v ts:=by
 obtain⟨hl,h|⟨g,cap,cur,e,hB,hg,hr⟩⟩:=h
 .exact⟨hl,.inl h⟩
 .exact⟨hl,.inr ⟨g,cap,cur,e,hB,(hb.block _ (Array.getElem?_eq_some_iff.1 hg).1).trans hg,hr⟩⟩
theorem AM2{W:World}{B:Nat}{v:Value}{ts:List GU}(h:nS W B v ts):∃a c,v=.slice a ts.length c:=MH h.log
theorem AM3{W:World}{B:Nat}{v:Value}{ts:List GU}(h:nS W B v ts):∀k,v.ownBlock=some k->B<=k/\k<W.heap.size:=World.ownsRow.lt h
theorem nS.more{W:World}{B:Nat}{v:Value}{ts:List GU}{t:GU}(h:W.ownsRow B 83 7 v (ts.length+1) (KC ts++N7 t)):nS W B v (ts++[t]):=by
 unfold nS;rw[A23,List.length_append];exact h
def TAt(W:World)(g:Nat)(t:GU):Prop:=W.heap[g]?=some (.cells #[I0 t.z,I0 t.o,I0 t.s,S0 t.p,S0 t.d,I0 t.v,I0 t.w] 83 (0,0))
theorem TAt.new(W:World)(t:GU):TAt (W.alloc (.cells #[I0 t.z,I0 t.o,I0 t.s,S0 t.p,S0 t.d,I0 t.v,I0 t.w] 83)) W.heap.size t:=heap_alloc_new W _
theorem TAt.next{W V:World}{g:Nat}{t:GU}(h:TAt W g t)(hb:B0 W V):TAt V g t:=(hb.block g (by unfold TAt at h;exact(Array.getElem?_eq_some_iff.1 h).1)).trans h
theorem TAt.lt{W:World}{g:Nat}{t:GU}(h:TAt W g t):g<W.heap.size:=by unfold TAt at h;exact(Array.getElem?_eq_some_iff.1 h).1
theorem TAt.c0{W:World}{g:Nat}{t:GU}(h:TAt W g t):W.cell? ⟨g,0,none⟩=some (I0 t.z):=by unfold TAt at h;simp[World.cell?,h]
theorem TAt.c1{W:World}{g:Nat}{t:GU}(h:TAt W g t):W.cell? ⟨g,1,none⟩=some (I0 t.o):=by unfold TAt at h;simp[World.cell?,h]
theorem TAt.c2{W:World}{g:Nat}{t:GU}(h:TAt W g t):W.cell? ⟨g,2,none⟩=some (I0 t.s):=by unfold TAt at h;simp[World.cell?,h]
theorem TAt.c3{W:World}{g:Nat}{t:GU}(h:TAt W g t):W.cell? ⟨g,3,none⟩=some (S0 t.p):=by unfold TAt at h;simp[World.cell?,h]
theorem TAt.c4{W:World}{g:Nat}{t:GU}(h:TAt W g t):W.cell? ⟨g,4,none⟩=some (S0 t.d):=by unfold TAt at h;simp[World.cell?,h]
theorem TAt.c5{W:World}{g:Nat}{t:GU}(h:TAt W g t):W.cell? ⟨g,5,none⟩=some (I0 t.v):=by unfold TAt at h;simp[World.cell?,h]
theorem TAt.c6{W:World}{g:Nat}{t:GU}(h:TAt W g t):W.cell? ⟨g,6,none⟩=some (I0 t.w):=by unfold TAt at h;simp[World.cell?,h]
theorem TAt.f{W:World}{g:Nat}{t:GU}(h:TAt W g t)(j:Nat):W.frozen? ⟨g,j,none⟩=false:=by unfold TAt at h;simp[World.frozen?,h]
theorem B14:(Tryz.prog.info? 83).map (fun i=>(i.zero,i.size,i.bytes))=some (some (JA t0),7,72):=by kernel_rfl
theorem rP:∃i0,Tryz.prog.info? 83=some i0/\i0.zero=some (JA t0)/\i0.size=7/\i0.bytes=72:=by
 obtain⟨i0,h,e⟩:=Option.map_eq_some_iff.1 B14;simp only[Prod.mk.injEq]at e;exact⟨i0,h,e.1,e.2.1,e.2.2⟩
instance layX:Lay GU:=⟨7,N7,83,fun _=>rfl,fun x u hu=>oU x u hu⟩
theorem BL8(ts:List GU):GK ts=KC ts:=by
 induction ts with
 |nil=>rfl
 |cons f r ih=>rw[JV,ih];rfl
theorem MJ{w:World}{v:Value}{ts:List GU}:IK w v ts↔NI w v ts:=by unfold IK NI;rw[BL8]
end Go.Proofs.YtkpojhhfjddegaaGreatDoor
