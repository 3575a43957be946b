/-
  Part.
-/
import Derived.WalkKit
import Derived.Lib.IndexLaws
import Derived.Laws.Cover1
import Derived.Test.YtppjdeblncincaaGreatDoorProg
import Derived.Deep.LoopGhost
import Derived.Lib.QuietBelow
set_option maxRecDepth 20000
set_option maxHeartbeats 8000000
namespace Go.Proofs.YtppjdeblncincaaGreatDoor
open Go.RowKit
abbrev I0 (x:Int):Value:=.int .i64 x
abbrev S0 (l:List UInt8):Value:=.string ⟨l.toArray⟩
abbrev N0:Value:=.slice none 0 0
abbrev P0 (k:Nat):Value:=.pointer (some ⟨k,0,none⟩)
abbrev R0 (w:World)(x:Value):Ending->World->Prop:=fun e w'=>e=.returned x/\Below w.heap.size w w'
abbrev B0 (w W:World):Prop:=Below w.heap.size w W
theorem G8{p:Prop}(h:p):Hid p:=h
theorem G7{p:Prop}(h:Hid p):p:=h
def TW(c:UInt8):Bool:=(decide (97<=c.toNat)&&decide (c.toNat<=122))||(decide (48<=c.toNat)&&decide (c.toNat<=57))||c.toNat==45||c.toNat==95
def JB(l:List UInt8):Bool:=decide (1<=l.length)&&decide (l.length<=40)&&l.all TW
theorem iV(s:ByteArray)(k:Nat)(h:k<s.size):s.data.toList.take (k+1)=s.data.toList.take k++[s[k]]:=by
 rw[List.take_succ_eq_append_getElem (by simpa using h)];rfl
theorem VA(s:ByteArray)(k:Nat)(h:k<s.size)(p:UInt8->Bool)(h1:(s.data.toList.take k).all p=true)(h2:p s[k]=true):(s.data.toList.take (k+1)).all p=true:=by
 rw[iV s k h,List.all_append,h1];simpa using h2
theorem ZC(s:ByteArray)(k:Nat)(h:s.size<=k)(p:UInt8->Bool)(h1:(s.data.toList.take k).all p=true):s.data.toList.all p=true:=by
 rwa[List.take_of_length_le (by simpa using h)]at h1
theorem dJ(s:ByteArray)(k:Nat)(h:k<s.size)(p:UInt8->Bool)(h2:p s[k]=false):s.data.toList.all p=false:=by
 rw[List.all_eq_false];exact⟨s[k],by have:s[k]∈s.data:=Array.getElem_mem h;simpa using this,by simp[h2]⟩
theorem aA(s:ByteArray):s.data.toList.length=s.size:=by simp
theorem tX(s:ByteArray)(h:s.size<1):JB s.data.toList=false:=by
 simp only[JB,aA,show ¬1<=s.size from by omega,decide_false,Bool.false_and]
theorem yU(s:ByteArray)(h:40<s.size):JB s.data.toList=false:=by
 simp only[JB,aA,show ¬s.size<=40 from by omega,decide_false,Bool.and_false,Bool.false_and]
theorem nD(s:ByteArray)(h:1<=s.size)(h':s.size<=40):JB s.data.toList=s.data.toList.all TW:=by
 simp only[JB,aA,h,h',decide_true,Bool.true_and]
def KN(z:Int):Bool:=decide (0<=z)&&decide (z<4611686018427387904)
def zIn(n:Int):Bool:=decide (0<=n)&&decide (n<2147483648)
def J4(z:Int):Int:=if KN z then z/2147483648 else 0
def nG(z:Int):Int:=if KN z then z%2147483648 else 0
def KY(e c:Int):Int:=if zIn e&&zIn c then e*2147483648+c else 0
def NT(e c:Int):Int:=if zIn e&&zIn c then 0 else 3
def iW(z:Int):Int:=if KN z&&zIn (z%2147483648+1)then z+1 else 0
def WL(z:Int):Int:=if KN z then(if zIn (z%2147483648+1)then 0 else 6)else 3
theorem LY{z:Int}:KN z=true↔0<=z/\z<4611686018427387904:=by simp[KN]
theorem PS{z:Int}:zIn z=true↔0<=z/\z<2147483648:=by simp[zIn]
theorem A66{z:Int}(h:¬ (0<=z/\z<2147483648)):zIn z=false:=by
 cases hg:zIn z with
 |false=>rfl
 |true=>exact absurd (PS.1 hg) h
theorem LZ{z:Int}(h:KN z=true):J4 z=z/2147483648:=by rw[J4,if_pos h]
theorem tY{z:Int}(h:KN z=false):J4 z=0:=by rw[J4,h];rfl
theorem YB{z:Int}(h:KN z=true):nG z=z%2147483648:=by rw[nG,if_pos h]
theorem AS1{z:Int}(h:KN z=false):nG z=0:=by rw[nG,h];rfl
theorem U9{e c:Int}(he:zIn e=true)(hc:zIn c=true):KY e c=e*2147483648+c/\NT e c=0:=by
 constructor<;>simp[KY,NT,he,hc]
theorem gW{e c:Int}(h:zIn e=false\/zIn c=false):KY e c=0/\NT e c=3:=by
 rcases h with h|h<;>constructor<;>simp[KY,NT,h]
theorem AS2{z:Int}(h:KN z=false):iW z=0/\WL z=3:=by constructor<;>simp[iW,WL,h]
theorem AG3{z:Int}(h:KN z=true)(h1:zIn (z%2147483648+1)=false):iW z=0/\WL z=6:=by constructor<;>simp[iW,WL,h,h1]
theorem pX{z:Int}(h:KN z=true)(h1:zIn (z%2147483648+1)=true):iW z=z+1/\WL z=0:=by constructor<;>simp[iW,WL,h,h1]
theorem tZ(n:Int)(h₀:0<=n)(h₁:n<2^63):IntKind.i64.wrap n=n:=by rw[IntKind.wrap_i64];omega
theorem BZ9{e c:Int}(he:0<=e)(he1:e<2147483648)(hc:0<=c)(hc1:c<2147483648):bits .or .i64 (e*2147483648) c=e*2147483648+c:=
 bits_join .i64 63 (by decide) tZ 31 (e*2147483648) c (by omega) (by omega) (by omega) hc (by omega) (by omega)
theorem BE9{z:Int}(h:0<=z)(h1:z<4611686018427387904):bits .and .i64 z 2147483647=z%2147483648:=
 bits_mask .i64 63 (by decide) tZ 31 (by decide) z h (by omega)
theorem pY{a b:Int}(h:a=b):Ending.returned (I0 a)=.returned (I0 b):=by rw[h]
theorem OY{a b i j:Int}(h:a=b)(h':i=j):Ending.returned (.tuple #[I0 a,I0 i])=.returned (.tuple #[I0 b,I0 j]):=by rw[h,h']
def N7:List UInt8->List (List UInt8)
 |[]=>[[]]
 |c::l=>if c=47 then []::N7 l else match N7 l with
  |[]=>[[c]]
  |p::ps=>(c::p)::ps
theorem AS3(l:List UInt8):N7 l≠[]:=by
 cases l with
 |nil=>simp[N7]
 |cons c l=>
  simp only[N7]
  split
  .simp
  .split<;>simp
theorem fF(l:List UInt8):N7 (47::l)=[]::N7 l:=by simp[N7]
theorem WM{c:UInt8}(h:c≠47){l p:List UInt8}{ps:List (List UInt8)}(hl:N7 l=p::ps):N7 (c::l)=(c::p)::ps:=by
 simp[N7,h,hl]
theorem iY:∀l:List UInt8,Lib.indexByte l 47=-1->N7 l=[l]
 |[],_=>rfl
 |c::l,h=>by
  have h1:(c==47)=false:=by
   cases hc:(c==47)with
   |false=>rfl
   |true=>rw[Lib.indexByte,if_pos hc]at h;exact absurd h (by decide)
  have h2:Lib.indexByte l 47=-1:=by
   by_cases h3:(Lib.indexByte l 47==-1)=true
   .simpa using h3
   .rw[Lib.indexByte,if_neg (by simp[h1]),if_neg h3]at h;have:=Lib.indexByte_ge l 47;omega
  exact WM (by simpa using h1) (iY l h2)
theorem iZ:∀ (l:List UInt8) (i:Nat),Lib.indexByte l 47=i->i<l.length/\N7 l=l.take i::N7 (l.drop (i+1))
 |[],i,h=>by simp[Lib.indexByte]at h
 |c::l,i,h=>by
  by_cases hc:(c==47)=true
  .rw[Lib.indexByte,if_pos hc]at h;have hi:i=0:=by omega
   subst hi;have:c=47:=by simpa using hc
   subst this;exact⟨by simp,by simp[fF]⟩
  .have hc':c≠47:=by simpa using hc
   by_cases h3:(Lib.indexByte l 47==-1)=true
   .rw[Lib.indexByte,if_neg hc,if_pos h3]at h;omega
   .rw[Lib.indexByte,if_neg hc,if_neg h3]at h;have hge:=Lib.indexByte_ge l 47;have hne:Lib.indexByte l 47≠ -1:=by simpa using h3
    obtain⟨j,rfl⟩:∃j,i=j+1:=⟨i-1,by omega⟩;obtain⟨h4,h5⟩:=iZ l j (by omega);exact⟨by simp;omega,by rw[WM hc' h5];simp⟩
theorem jA(l:List UInt8):Lib.indexByte l 47=-1\/∃i:Nat,Lib.indexByte l 47=i:=by
 have:=Lib.indexByte_ge l 47;by_cases h:Lib.indexByte l 47=-1
 .exact .inl h
 .exact .inr ⟨(Lib.indexByte l 47).toNat,by omega⟩
theorem qA(l:List UInt8):∀p∈N7 l,p.length<=l.length:=by
 induction l with
 |nil=>intro p hp;simp[N7]at hp;simp[hp]
 |cons c l ih=>
  intro p hp;by_cases hc:c=47
  .subst hc;rw[fF]at hp;rcases List.mem_cons.1 hp with rfl|h
   .simp
   .have:=ih p h;simp;omega
  .cases hl:N7 l with
   |nil=>exact absurd hl (AS3 l)
   |cons q qs=>
    rw[WM hc hl]at hp;rcases List.mem_cons.1 hp with rfl|h
    .have:=ih q (by rw[hl];simp);simp;omega
    .have:=ih p (by rw[hl];simp[h]);simp;omega
def YU(l:List UInt8):List (List UInt8):=if l=[47]then []else N7 (Lib.trimPrefix l [47])
def J6(l:List UInt8):Bool:=decide (l.length<=200)&&Lib.hasPrefix l [47]&&(YU l).all JB
def CF9(c:Nat):Nat:=(c/2)^^^(3988292384*(c%2))
def BW2:Nat->Nat->Nat
 |0,c=>c
 |n+1,c=>CF9 (BW2 n c)
def CR5(c:Nat)(b:UInt8):Nat:=BW2 8 (c^^^b.toNat)
def BF0(l:List UInt8):Nat:=l.foldl CR5 4294967295
def A67(l:List UInt8):Nat:=4294967295^^^BF0 l
theorem AS4:(2:Nat)^32=4294967296:=by decide
theorem aB{a b:Nat}(ha:a<4294967296)(hb:b<4294967296):a^^^b<4294967296:=by
 have h:=Nat.xor_lt_two_pow (n:=32) (x:=a) (y:=b) (by rw[AS4];exact ha) (by rw[AS4];exact hb);rwa[AS4]at h
theorem C01{c:Nat}(h:c<4294967296):CF9 c<4294967296:=by
 unfold CF9;refine aB (by omega) ?_;rcases Nat.mod_two_eq_zero_or_one c with e|e<;>rw[e]<;>decide
theorem yV{c:Nat}(h:c<4294967296):∀n,BW2 n c<4294967296
 |0=>h
 |n+1=>C01 (yV h n)
theorem AS5(b:UInt8):b.toNat<4294967296:=by have:=b.toNat_lt;omega
theorem C02{c:Nat}(h:c<4294967296)(b:UInt8):CR5 c b<4294967296:=yV (aB h (AS5 b)) 8
theorem BF1(l:List UInt8):∀c,c<4294967296->l.foldl CR5 c<4294967296:=by
 induction l with
 |nil=>intro c h;exact h
 |cons b l ih=>intro c h;exact ih _ (C02 h b)
theorem AS6(l:List UInt8):BF0 l<4294967296:=BF1 l _ (by decide)
theorem AS7(l:List UInt8):A67 l<4294967296:=aB (by decide) (AS6 l)
theorem AS8(l:List UInt8)(b:UInt8):BF0 (l++[b])=CR5 (BF0 l) b:=by simp[BF0]
theorem uD(n:Int)(h₀:0<=n)(h₁:n<2^32):IntKind.u32.wrap n=n:=by rw[IntKind.wrap_u32];omega
theorem uF(k:IntKind)(j:Nat)(hj:j<=k.bits)(hk:∀n:Int,0<=n->n<2^j->k.wrap n=n)(a b:Nat)(ha:a<2^j)(hb:b<2^j):bits .xor k a b=((a^^^b:Nat):Int):=by
 have hp:2^j<=2^k.bits:=Nat.pow_le_pow_right (by decide) hj;have ha':a%2^k.bits=a:=Nat.mod_eq_of_lt (Nat.lt_of_lt_of_le ha hp);have hb':b%2^k.bits=b:=Nat.mod_eq_of_lt (Nat.lt_of_lt_of_le hb hp);simp only[bits,BitVec.ofInt_natCast,BitVec.toNat_xor,BitVec.toNat_ofNat,ha',hb'];exact hk _ (Int.natCast_nonneg _) (by exact_mod_cast Nat.xor_lt_two_pow ha hb)
theorem yX{a b:Nat}(ha:a<4294967296)(hb:b<4294967296):bits .xor .u32 a b=((a^^^b:Nat):Int):=
 uF .u32 32 (by decide) uD a b (by rw[AS4];exact ha) (by rw[AS4];exact hb)
theorem BF2{a:Nat}(ha:a<4294967296):bits .and .u32 a 1=((a%2:Nat):Int):=by
 have h:=bits_mask .u32 32 (by decide) uD 1 (by decide) (a:Int) (by omega) (by omega)
 exact_mod_cast h
def be:Nat->Nat->List UInt8
 |0,_=>[]
 |k+1,n=>be k (n/256)++[UInt8.ofNat n]
def un(l:List UInt8):Nat:=l.foldl (fun a b=>a*256+b.toNat) 0
theorem IJ:∀k n,(be k n).length=k
 |0,_=>rfl
 |k+1,n=>by rw[be,List.length_append,IJ k];rfl
theorem yY(l:List UInt8)(b:UInt8):un (l++[b])=un l*256+b.toNat:=by simp[un]
theorem jB:∀k n,n<256^k->un (be k n)=n
 |0,n,h=>by
  have:n=0:=by simpa using h
  subst this;rfl
 |k+1,n,h=>by
  rw[be,yY,jB k (n/256) (by rw[Nat.pow_succ]at h;omega)];have:(UInt8.ofNat n).toNat=n%256:=by simp
  omega
theorem BF3(l:List UInt8):un l<256^l.length:=by
 induction h:l.length generalizing l with
 |zero=>obtain rfl:=List.eq_nil_of_length_eq_zero h;decide
 |succ k ih=>
  rcases List.eq_nil_or_concat l with rfl|⟨a,b,rfl⟩
  .simp at h
  .rw[List.concat_eq_append]at h⊢;have hk:a.length=k:=by simpa using h
   have h1:=ih a hk;have h2:=b.toNat_lt;rw[yY,Nat.pow_succ];omega
structure GN where
 z:Int
 o:Int
 s:Int
 p:List UInt8
 d:List UInt8
 v:Int
 w:Int
def t0:GN:=⟨0,0,0,[],[],0,0⟩
def yZ(n least:Int):Bool:=decide (least<=n)&&decide (n<=2147483647)
theorem VB{n k:Int}:yZ n k=true↔k<=n/\n<=2147483647:=by simp[yZ]
def opB(o:Int):Bool:=decide (1<=o)&&decide (o<=5)
theorem jC{o:Int}:opB o=true↔1<=o/\o<=5:=by simp[opB]
def BE3(t:GN):Bool:=KN t.z&&yZ t.s 1&&yZ t.v 0&&yZ t.w 0
theorem qB{t:GN}:BE3 t=true↔KN t.z=true/\yZ t.s 1=true/\yZ t.v 0=true/\yZ t.w 0=true:=by simp[BE3,and_assoc]
def fmB(t:GN):Bool:=
 if t.o=3 then J6 t.p&& !(t.p==[47])&&t.v==0
 else if t.o=4 then J6 t.p&& !(t.p==[47])&&t.d==[]&&t.v==0&&t.w==0
 else if t.o=5 then J6 t.p&&t.w==0
 else t.p==[]&&t.d==[]&&t.v==0&&t.w==0
def gdE(t:GN):Int:=
 if opB t.o then(if BE3 t then(if t.d.length<=256 then(if fmB t then 0 else 2)else 1)else 3)else 4
theorem BF4{t:GN}(h:opB t.o=false):gdE t=4:=by simp[gdE,h]
theorem aC{t:GN}(h:opB t.o=true)(h1:BE3 t=false):gdE t=3:=by simp[gdE,h,h1]
theorem BF5{t:GN}(h:opB t.o=true)(h1:BE3 t=true)(h2:256<t.d.length):gdE t=1:=by
 simp[gdE,h,h1,show ¬t.d.length<=256 from by omega]
theorem BF6{t:GN}(h:opB t.o=true)(h1:BE3 t=true)(h2:t.d.length<=256)(h3:fmB t=false):gdE t=2:=by simp[gdE,h,h1,h2,h3]
theorem CG1{t:GN}(h:opB t.o=true)(h1:BE3 t=true)(h2:t.d.length<=256)(h3:fmB t=true):gdE t=0:=by simp[gdE,h,h1,h2,h3]
theorem gX{t:GN}(h:gdE t=0):opB t.o=true/\BE3 t=true/\t.d.length<=256/\fmB t=true:=by
 unfold gdE at h
 split at h
 .split at h
  .split at h
   .split at h
    .exact⟨‹_›,‹_›,‹_›,‹_›⟩
    .exact absurd h (by decide)
   .exact absurd h (by decide)
  .exact absurd h (by decide)
 .exact absurd h (by decide)
theorem zA{p:List UInt8}(h:J6 p=true):p.length<=200:=by
 unfold J6 at h;simp only[Bool.and_eq_true,decide_eq_true_eq]at h;exact h.1.1
theorem BW3{t:GN}(h:fmB t=true):t.p.length<=200:=by
 unfold fmB at h
 split at h
 .simp only[Bool.and_eq_true]at h;exact zA h.1.1
 .split at h
  .simp only[Bool.and_eq_true]at h;exact zA h.1.1.1.1
  .split at h
   .simp only[Bool.and_eq_true]at h;exact zA h.1
   .simp only[Bool.and_eq_true,beq_iff_eq]at h;rw[h.1.1.1];decide
theorem WO{t:GN}(h:gdE t=0):(0<=t.z/\t.z<4611686018427387904)/\(1<=t.o/\t.o<=5)/\(1<=t.s/\t.s<=2147483647)/\(0<=t.v/\t.v<=2147483647)/\(0<=t.w/\t.w<=2147483647)/\t.p.length<=200/\t.d.length<=256:=by
 obtain⟨h1,h2,h3,h4⟩:=gX h;obtain⟨a,b,c,d⟩:=qB.1 h2;exact⟨LY.1 a,jC.1 h1,VB.1 b,VB.1 c,VB.1 d,BW3 h4,h3⟩
def QU(t:GN):List UInt8:=
 be 8 t.z.toNat++(be 1 t.o.toNat++(be 4 t.s.toNat++(be 4 t.v.toNat++(be 4 t.w.toNat++(be 1 t.p.length++(t.p++(be 2 t.d.length++t.d)))))))
def MP(b:List UInt8):List UInt8:=84::(be 2 b.length++b)
def QV(t:GN):List UInt8:=MP (QU t)++be 4 (A67 (MP (QU t)))
theorem QH(t:GN):(QU t).length=24+t.p.length+t.d.length:=by
 simp only[QU,List.length_append,IJ];omega
theorem VD(b:List UInt8):(MP b).length=b.length+3:=by
 simp only[MP,List.length_cons,List.length_append,IJ];omega
theorem VE(t:GN):(QV t).length=31+t.p.length+t.d.length:=by
 simp only[QV,List.length_append,IJ,VD,QH];omega
def YC(b:List UInt8):Nat:=un ((b.drop 21).take 1)
def yP(b:List UInt8):Nat:=un ((b.drop (22+YC b)).take 2)
def tOf(b:List UInt8):GN:=
 ⟨wrap64 (un (b.take 8)),un ((b.drop 8).take 1),un ((b.drop 9).take 4),(b.drop 22).take (YC b),b.drop (24+YC b),un ((b.drop 13).take 4),un ((b.drop 17).take 4)⟩
def BE4(b:List UInt8):Bool:=decide (24+YC b<=b.length)&&decide (b.length=24+YC b+yP b)
def tH(b:List UInt8):Int:=if BE4 b then gdE (tOf b)else 2
def AS9(b:List UInt8):GN:=if tH b=0 then tOf b else t0
def lenOf(s:List UInt8):Nat:=un ((s.drop 1).take 2)
def WQ(s:List UInt8):Bool:=s.take 1==[84]&&decide (lenOf s<=1024)&&decide (lenOf s+7<=s.length)
def AT0(s:List UInt8):Bool:=un ((s.drop (lenOf s+3)).take 4)==A67 (s.take (lenOf s+3))
def VF(s:List UInt8):List UInt8:=(s.drop 3).take (lenOf s)
def dK(s:List UInt8):Int:=if WQ s then(if AT0 s then tH (VF s)else 5)else 2
def nH(s:List UInt8):GN:=if dK s=0 then tOf (VF s)else t0
def tJ(s:List UInt8):Int:=if dK s=0 then(lenOf s+7:Nat)else 0
theorem dL{s:List UInt8}(h:WQ s=false):dK s=2/\nH s=t0/\tJ s=0:=by
 have e:dK s=2:=by simp[dK,h]
 exact⟨e,by simp[nH,e],by simp[tJ,e]⟩
theorem C03{s:List UInt8}(h:WQ s=true)(h1:AT0 s=false):dK s=5/\nH s=t0/\tJ s=0:=by
 have e:dK s=5:=by simp[dK,h,h1]
 exact⟨e,by simp[nH,e],by simp[tJ,e]⟩
theorem BF7{s:List UInt8}(h:WQ s=true)(h1:AT0 s=true){e:Int}(h2:tH (VF s)=e)(h3:e≠0):dK s=e/\nH s=t0/\tJ s=0:=by
 have e:dK s=e:=by simp[dK,h,h1,h2]
 exact⟨e,by rw[nH,e,if_neg h3],by rw[tJ,e,if_neg h3]⟩
theorem BW4{s:List UInt8}(h:WQ s=true)(h1:AT0 s=true)(h2:tH (VF s)=0):dK s=0/\nH s=tOf (VF s)/\tJ s=(lenOf s+7:Nat):=by
 have e:dK s=0:=by simp[dK,h,h1,h2]
 exact⟨e,by rw[nH,e,if_pos rfl],by rw[tJ,e,if_pos rfl]⟩
theorem C04{b:List UInt8}(h:BE4 b=false):tH b=2/\AS9 b=t0:=by
 have e:tH b=2:=by simp[tH,h]
 exact⟨e,by simp[AS9,e]⟩
theorem CG2{b:List UInt8}(h:BE4 b=true)(h1:gdE (tOf b)≠0):tH b=gdE (tOf b)/\AS9 b=t0:=by
 have e:tH b=gdE (tOf b):=by simp[tH,h]
 exact⟨e,by rw[AS9,e,if_neg h1]⟩
theorem CG3{b:List UInt8}(h:BE4 b=true)(h1:gdE (tOf b)=0):tH b=0/\AS9 b=tOf b:=by
 have e:tH b=0:=by simp[tH,h,h1]
 exact⟨e,by rw[AS9,e,if_pos rfl]⟩
theorem dM{s:List UInt8}:WQ s=true↔s.take 1=[84]/\lenOf s<=1024/\lenOf s+7<=s.length:=by
 simp[WQ,and_assoc]
theorem aF{s:List UInt8}(h:¬ (s.take 1=[84]/\lenOf s<=1024/\lenOf s+7<=s.length)):WQ s=false:=by
 cases hw:WQ s with
 |false=>rfl
 |true=>exact absurd (dM.1 hw) h
theorem aG{b:List UInt8}:BE4 b=true↔24+YC b<=b.length/\b.length=24+YC b+yP b:=by simp[BE4]
theorem A68{s:List UInt8}:AT0 s=true↔un ((s.drop (lenOf s+3)).take 4)=A67 (s.take (lenOf s+3)):=by simp[AT0]
theorem uG{a b:List UInt8}{k:Nat}(h:a.length=k):(a++b).take k=a/\(a++b).drop k=b:=by
 subst h;simp
theorem OZ{l a b:List UInt8}{j k:Nat}(h:l.drop j=a++b)(hk:a.length=k):l.drop (j+k)=b:=by
 rw[<-List.drop_drop,h];exact(uG hk).2
theorem N8{l a b:List UInt8}{j k:Nat}(h:l.drop j=a++b)(hk:a.length=k):(l.drop j).take k=a:=by
 rw[h];exact(uG hk).1
theorem CG4{n:Int}(h:0<=n)(h1:n<9223372036854775808):wrap64 n=n:=by unfold wrap64;omega
theorem BW5{t:GN}(h:gdE t=0):BE4 (QU t)=true/\tOf (QU t)=t:=by
 obtain⟨hz,ho,hs,hv,hw,hp,hd⟩:=WO h;have e0:(QU t).drop 0=be 8 t.z.toNat++_:=rfl;have e1:=OZ e0 (IJ 8 _);have e2:=OZ e1 (IJ 1 _);have e3:=OZ e2 (IJ 4 _);have e4:=OZ e3 (IJ 4 _);have e5:=OZ e4 (IJ 4 _);have e6:=OZ e5 (IJ 1 _);have e7:=OZ e6 (rfl:t.p.length=t.p.length);have e8:=OZ e7 (IJ 2 _);have g0:=N8 e0 (IJ 8 _);have g1:=N8 e1 (IJ 1 _);have g2:=N8 e2 (IJ 4 _);have g3:=N8 e3 (IJ 4 _);have g4:=N8 e4 (IJ 4 _);have g5:=N8 e5 (IJ 1 _);have g6:=N8 e6 (rfl:t.p.length=t.p.length);have g7:=N8 e7 (IJ 2 _);simp only[Nat.zero_add,Nat.reduceAdd,List.drop_zero]at e1 e2 e3 e4 e5 e6 e7 e8 g0 g1 g2 g3 g4 g5 g6 g7;have hpl:YC (QU t)=t.p.length:=by rw[YC,g5];exact jB 1 _ (by omega)
 have hdl:yP (QU t)=t.d.length:=by rw[yP,hpl,g7];exact jB 2 _ (by omega)
 refine⟨aG.2 ?_,?_⟩
 .rw[hpl,hdl,QH];omega
 .rw[tOf,hpl,g0,g1,g2,g3,g4,g6,show 24+t.p.length=22+t.p.length+2 from by omega,e8];rw[jB 8 _ (by omega),jB 1 _ (by omega),jB 4 _ (by omega),jB 4 _ (by omega),jB 4 _ (by omega),CG4 (by omega) (by omega)];simp only[Int.toNat_of_nonneg hz.1,Int.toNat_of_nonneg hv.1,Int.toNat_of_nonneg hw.1,Int.toNat_of_nonneg (show 0<=t.o by omega),Int.toNat_of_nonneg (show 0<=t.s by omega)]
theorem BF8{t:GN}(h:gdE t=0):tH (QU t)=0:=by
 obtain⟨h1,h2⟩:=BW5 h;rw[tH,h1,h2,h];rfl
theorem AT1{b m more:List UInt8}(hb:b.length<=1024)(hm:m.length=4):
  WQ (MP b++(m++more))=true/\lenOf (MP b++(m++more))=b.length/\VF (MP b++(m++more))=b/\
  AT0 (MP b++(m++more))=(un m==A67 (MP b)):=by
 have e0:(MP b++(m++more)).drop 1=be 2 b.length++(b++(m++more)):=by simp[MP]
 have g0:=N8 e0 (IJ 2 _);have e1:=OZ e0 (IJ 2 _);have g1:=N8 e1 (rfl:b.length=b.length);have hl:lenOf (MP b++(m++more))=b.length:=by rw[lenOf,g0];exact jB 2 _ (by omega)
 have hf:(MP b).length=b.length+3:=VD b;refine⟨dM.2 ⟨by simp[MP],by omega,?_⟩,hl,?_,?_⟩
 .rw[hl,List.length_append,List.length_append,hf];omega
 .rw[VF,hl];exact g1
 .rw[AT0,hl,(uG hf).1,(uG hf).2,(uG hm).1]
theorem AT2(t:GN)(more:List UInt8):QV t++more=MP (QU t)++(be 4 (A67 (MP (QU t)))++more):=by rw[QV,List.append_assoc]
theorem dO{t:GN}(h:gdE t=0):(QU t).length<=1024:=by
 obtain⟨_,_,_,_,_,hp,hd⟩:=WO h;rw[QH];omega
theorem C05{t:GN}(h:gdE t=0)(more:List UInt8):dK (QV t++more)=0/\nH (QV t++more)=t/\tJ (QV t++more)=(QV t).length:=by
 rw[AT2];obtain⟨h1,h2,h3,h4⟩:=AT1 (b:=QU t) (m:=be 4 (A67 (MP (QU t)))) (more:=more) (dO h) (IJ 4 _);have hs:un (be 4 (A67 (MP (QU t))))=A67 (MP (QU t)):=jB 4 _ (by have:=AS7 (MP (QU t));omega);rw[hs,beq_self_eq_true]at h4;obtain⟨a,b,c⟩:=BW4 h1 h4 (by rw[h3];exact BF8 h);refine⟨a,?_,?_⟩
 .rw[b,h3];exact(BW5 h).2
 .rw[c,h2,QH,VE];omega
theorem C06{t:GN}(h:gdE t=0){k:Nat}(hk:k<(QV t).length):dK ((QV t).take k)=2/\tJ ((QV t).take k)=0:=by
 have hw:WQ ((QV t).take k)=false:=aF (by
  rintro⟨h1,h2,h3⟩;rw[List.length_take]at h3;have e0:(QV t).drop 1=be 2 (QU t).length++(QU t++be 4 (A67 (MP (QU t)))):=by simp[QV,MP]
  have g0:=N8 e0 (IJ 2 _);have hl:lenOf ((QV t).take k)=(QU t).length:=by
   rw[lenOf,List.drop_take,List.take_take,show min 2 (k-1)=2 from by omega,g0];exact jB 2 _ (by have:=dO h;omega)
  rw[hl,QH]at h3;rw[VE]at hk;omega)
 exact⟨(dL hw).1,(dL hw).2.2⟩
def IE:List GN->List UInt8
 |[]=>[]
 |t::l=>QV t++IE l
theorem LH:∀a b,IE (a++b)=IE a++IE b
 |[],_=>rfl
 |t::a,b=>by rw[List.cons_append,IE,IE,LH a b,List.append_assoc]
theorem PU(a:List GN)(t:GN):IE (a++[t])=IE a++QV t:=by rw[LH,IE,IE,List.append_nil]
def J5(l:List GN):Int:=l.foldl (fun _ t=>t.z) 0
theorem UA(l:List GN)(t:GN):J5 (l++[t])=t.z:=by simp[J5]
theorem WR:J5 []=0:=rfl
def jD(l:List GN)(t:GN):Bool:=decide (l.length=0)||decide (J5 l<t.z)
theorem nI{l:List GN}{t:GN}(h:l.length≠0):jD l t=decide (J5 l<t.z):=by simp[jD,h]
theorem AT3{l:List GN}(h:l.length≠0):∃m x,l=m++[x]:=by
 rcases List.eq_nil_or_concat l with rfl|⟨m,x,rfl⟩
 .exact absurd rfl h
 .exact⟨m,x,List.concat_eq_append⟩
structure Logs(ts:List GN):Prop where
 good:∀t∈ts,gdE t=0
 rise:ts.Pairwise fun a b=>a.z<b.z
theorem Logs.nil:Logs []:=⟨by simp,List.Pairwise.nil⟩
theorem Logs.le_last{ts:List GN}(h:Logs ts){a:GN}(ha:a∈ts):a.z<=J5 ts:=by
 rcases List.eq_nil_or_concat ts with rfl|⟨m,x,e⟩
 .simp at ha
 .rw[List.concat_eq_append]at e;subst e;rw[UA];rcases List.mem_append.1 ha with h1|h1
  .have:=(List.pairwise_append.1 h.rise).2.2 a h1 x (by simp);omega
  .simp at h1;subst h1;omega
theorem Logs.left{a b:List GN}(h:Logs (a++b)):Logs a:=⟨fun t ht=>h.good t (by simp[ht]),(List.pairwise_append.1 h.rise).1⟩
theorem Logs.at{a b:List GN}{t:GN}(h:Logs (a++t::b)):gdE t=0/\jD a t=true:=by
 refine⟨h.good t (by simp),?_⟩;by_cases h0:a.length=0
 .simp[jD,h0]
 .rw[nI h0];obtain⟨m,x,rfl⟩:=AT3 h0;rw[UA];exact decide_eq_true ((List.pairwise_append.1 h.rise).2.2 x (by simp) t (by simp))
structure Scan(s:List UInt8)(ts:List GN)(r:List UInt8):Prop where
 eq:s=IE ts++r
 log:Logs ts
 stop:dK r≠0\/jD ts (nH r)=false
theorem C07:dK []≠0:=by rw[(dL (s:=[]) (by decide)).1];decide
theorem uH{ts:List GN}(h:Logs ts):Scan (IE ts) ts []:=⟨by simp,h,.inl C07⟩
theorem AT4{ts:List GN}{t:GN}(h:Logs ts)(hg:gdE t=0){k:Nat}(hk:k<(QV t).length):Scan (IE ts++(QV t).take k) ts ((QV t).take k):=
 ⟨rfl,h,.inl (by rw[(C06 hg hk).1];decide)⟩
theorem Scan.len{s r:List UInt8}{ts:List GN}(h:Scan s ts r):(IE ts).length+r.length=s.length:=by rw[h.eq,List.length_append]
theorem qC:∀ts:List GN,ts.length*31<=(IE ts).length
 |[]=>by simp[IE]
 |t::l=>by
  have:=qC l;rw[IE,List.length_append,VE,List.length_cons];omega
theorem jE{t:GN}(h:gdE t=0):(QV t).length<=487:=by
 obtain⟨_,_,_,_,_,hp,hd⟩:=WO h;rw[VE];omega
theorem A69:∀ts:List GN,(∀t∈ts,gdE t=0)->(IE ts).length<=ts.length*487
 |[],_=>by simp[IE]
 |t::l,h=>by
  have h1:=A69 l (fun x hx=>h x (by simp[hx]));have h2:=jE (h t (by simp));rw[IE,List.length_append,List.length_cons];omega
theorem PV{ts:List GN}{k:Nat}{t:GN}(h:ts[k]?=some t):ts.take (k+1)=ts.take k++[t]:=by
 obtain⟨hk,rfl⟩:=List.getElem?_eq_some_iff.1 h;exact List.take_succ_eq_append_getElem hk
abbrev bl(a b:List UInt8):Bool:=Op.bytesLess a b
theorem QI:∀a,bl a a=false
 |[]=>rfl
 |x::a=>by
  have h:¬x<x:=UInt8.lt_irrefl x;have:=QI a;simp only[bl]at this;simp[bl,Op.bytesLess,h,this]
theorem RI:∀a b c,bl a b=true->bl b c=true->bl a c=true
 |[],_,[],_,h=>by cases ‹List UInt8› <;>simp[bl,Op.bytesLess]at h
 |[],_,_::_,_,_=>by simp[bl,Op.bytesLess]
 |_::_,[],_,h,_=>by simp[bl,Op.bytesLess]at h
 |_::_,_::_,[],_,h=>by simp[bl,Op.bytesLess]at h
 |x::a,y::b,z::c,h1,h2=>by
  have ih:=RI a b c;simp only[bl,Op.bytesLess,Bool.or_eq_true,Bool.and_eq_true,decide_eq_true_eq,beq_iff_eq]at h1 h2 ih⊢;rcases h1 with h1|⟨h1,h1'⟩<;>rcases h2 with h2|⟨h2,h2'⟩
  .exact .inl (UInt8.lt_trans h1 h2)
  .subst h2;exact .inl h1
  .subst h1;exact .inl h2
  .subst h1 h2;exact .inr ⟨rfl,ih h1' h2'⟩
theorem TL:∀a b,bl a b=false->bl b a=false->a=b
 |[],[],_,_=>rfl
 |[],_::_,h,_=>by simp[bl,Op.bytesLess]at h
 |_::_,[],_,h=>by simp[bl,Op.bytesLess]at h
 |x::a,y::b,h1,h2=>by
  have ih:=TL a b;simp only[bl,Op.bytesLess,Bool.or_eq_false_iff,Bool.and_eq_false_iff,decide_eq_false_iff_not,beq_eq_false_iff_ne]at h1 h2 ih;have e:x=y:=UInt8.le_antisymm (UInt8.not_lt.1 h2.1) (UInt8.not_lt.1 h1.1);subst e;rw[ih (h1.2.elim (fun h=>absurd rfl h) id) (h2.2.elim (fun h=>absurd rfl h) id)]
theorem OD{a b:List UInt8}(h:bl a b=true):bl b a=false:=by
 cases h':bl b a with
 |false=>rfl
 |true=>have:=RI a b a h h';rw[QI]at this;cases this
theorem WS{a b:List UInt8}(h:bl a b=true):a≠b:=by rintro rfl;rw[QI]at h;cases h
theorem A72:∀a b,decide (Lib.compareBytes a b<0)=bl a b
 |[],[]=>by simp[bl,Op.bytesLess,Lib.compareBytes]
 |[],_::_=>by simp[bl,Op.bytesLess,Lib.compareBytes]
 |_::_,[]=>by simp[bl,Op.bytesLess,Lib.compareBytes]
 |x::a,y::b=>by
  have ih:=A72 a b;simp only[bl]at ih;simp only[bl,Op.bytesLess,Lib.compareBytes];by_cases h1:x<y
  .simp[h1]
  .by_cases h2:y<x
   .have:x≠y:=by rintro rfl;exact h1 h2
    simp[h1,h2,this]
   .have:x=y:=UInt8.le_antisymm (UInt8.not_lt.1 h2) (UInt8.not_lt.1 h1);subst this;simp[h1,<-ih]
theorem gY:∀a b,decide (Lib.compareBytes a b=0)=decide (a=b)
 |[],[]=>by simp[Lib.compareBytes]
 |[],_::_=>by simp[Lib.compareBytes]
 |_::_,[]=>by simp[Lib.compareBytes]
 |x::a,y::b=>by
  have ih:=gY a b;simp only[Lib.compareBytes];by_cases h1:x<y
  .have:x≠y:=by rintro rfl;exact UInt8.lt_irrefl x h1
   simp[h1,this]
  .by_cases h2:y<x
   .have:x≠y:=by rintro rfl;exact h1 h2
    simp[h1,h2,this]
   .have:x=y:=UInt8.le_antisymm (UInt8.not_lt.1 h2) (UInt8.not_lt.1 h1);subst this;simp[h1,ih]
structure DF where
 n:List UInt8
 s:List UInt8
 t:List UInt8
instance:Inhabited DF:=⟨⟨[],[],[]⟩⟩
def QJ(f:DF):Bool:=JB f.n&&decide (f.s.length+f.t.length<=1048576)
def Asc(fs:List DF):Prop:=fs.Pairwise fun a b=>bl a.n b.n=true
structure LQ(fs:List DF):Prop where
 few:fs.length<=16
 ok:∀f∈fs,QJ f=true
 asc:Asc fs
noncomputable def VH(fs:List DF):Bool:= @decide (LQ fs) (Classical.propDecidable _)
theorem MR{fs:List DF}:VH fs=true↔LQ fs:=by unfold VH;exact @decide_eq_true_iff _ (Classical.propDecidable _)
theorem ZE{fs:List DF}:VH fs=false↔¬LQ fs:=by unfold VH;exact @decide_eq_false_iff_not _ (Classical.propDecidable _)
def C09(fs:List DF)(k:Nat):Prop:=∀i,i<k->∀f,fs[i]?=some f->QJ f=true/\∀g,0<i->fs[i-1]?=some g->bl g.n f.n=true
theorem AT8(fs:List DF):C09 fs 0:=fun _ h=>absurd h (Nat.not_lt_zero _)
theorem AT9{fs:List DF}{k:Nat}(h:C09 fs k){f:DF}(hf:fs[k]?=some f)(h1:QJ f=true)(h2:∀g,0<k->fs[k-1]?=some g->bl g.n f.n=true):C09 fs (k+1):=by
 intro i hi f' hf';by_cases e:i=k
 .subst e;rw[hf]at hf'
  cases hf'
  exact⟨h1,h2⟩
 .exact h i (by omega) f' hf'
theorem zF{fs:List DF}(h:C09 fs fs.length):Asc fs:=by
 have step:∀j i,(hij:i<j)->∀ (hj:j<fs.length),bl (fs[i]'(Nat.lt_trans hij hj)).n fs[j].n=true:=by
  intro j
  induction j with
  |zero=>intro i hi;omega
  |succ j ih=>
   intro i hi hj;have h1:=(h (j+1) hj _ (List.getElem?_eq_getElem hj)).2 fs[j] (by omega) (by simp);by_cases e:i=j
   .subst e;exact h1
   .exact RI _ _ _ (ih i (by omega) (by omega)) h1
 exact List.pairwise_iff_getElem.2 fun i j hi hj hij=>step j i hij hj
theorem uI{fs:List DF}(hl:fs.length<=16)(h:C09 fs fs.length):VH fs=true:=
 MR.2 ⟨hl,fun f hf=>by
  obtain⟨i,hi,rfl⟩:=List.getElem_of_mem hf;exact(h i hi _ (List.getElem?_eq_getElem hi)).1,zF h⟩
theorem C11{fs:List DF}(h:16<fs.length):VH fs=false:=ZE.2 fun g=>by have:=g.few;omega
theorem BG3{fs:List DF}{k:Nat}{f:DF}(hf:fs[k]?=some f)(h:QJ f=false):VH fs=false:=
 ZE.2 fun g=>by rw[g.ok f (List.mem_of_getElem? hf)]at h;cases h
theorem AU0{fs:List DF}{k:Nat}{f g:DF}(hf:fs[k]?=some f)(hg:fs[k-1]?=some g)(h0:0<k)(h:bl g.n f.n=false):VH fs=false:=
 ZE.2 fun G=>by
  obtain⟨hk,rfl⟩:=List.getElem?_eq_some_iff.1 hf;obtain⟨hk',rfl⟩:=List.getElem?_eq_some_iff.1 hg;rw[List.pairwise_iff_getElem.1 G.asc (k-1) k hk' hk (by omega)]at h
  cases h
structure There(fs A:List DF)(f:DF)(B:List DF)(name:List UInt8):Prop where
 eq:fs=A++f::B
 nm:f.n=name
 lo:∀a∈A,bl a.n name=true
 hi:∀b∈B,bl name b.n=true
structure Gap(fs A B:List DF)(name:List UInt8):Prop where
 eq:fs=A++B
 lo:∀a∈A,bl a.n name=true
 hi:∀b∈B,bl name b.n=true
theorem A73(name:List UInt8):∀fs:List DF,Asc fs->(∃A f B,There fs A f B name)\/∃A B,Gap fs A B name
 |[],_=>.inr ⟨[],[],rfl,by simp,by simp⟩
 |x::r,h=>by
  obtain⟨hx,hr⟩:=List.pairwise_cons.1 h
  cases h1:bl x.n name with
  |true=>
   rcases A73 name r hr with⟨A,f,B,T⟩|⟨A,B,G⟩
   .exact .inl ⟨x::A,f,B,by rw[T.eq];rfl,T.nm,by simp[h1];exact T.lo,T.hi⟩
   .exact .inr ⟨x::A,B,by rw[G.eq];rfl,by simp[h1];exact G.lo,G.hi⟩
  |false=>
   cases h2:bl name x.n with
   |true=>exact .inr ⟨[],x::r,rfl,by simp,by simp[h2];exact fun b hb=>RI _ _ _ h2 (hx b hb)⟩
   |false=>
    have e:=TL _ _ h1 h2;exact .inl ⟨[],x,r,rfl,e,by simp,fun b hb=>by rw[<-e];exact hx b hb⟩
theorem There.ok{fs A B:List DF}{f:DF}{name:List UInt8}(T:There fs A f B name)(g:LQ fs):QJ f=true:=g.ok f (by rw[T.eq];simp)
theorem NM{f:DF}(h:QJ f=true):f.s.length+f.t.length<=1048576:=by simp[QJ]at h;exact h.2
theorem WT{f:DF}(h:QJ f=true):JB f.n=true:=by simp[QJ]at h;exact h.1
end Go.Proofs.YtppjdeblncincaaGreatDoor
namespace Go.Proofs.YtppjdeblncincaaGreatDoor
structure Ev where
 k:Int
 p:List UInt8
end Go.Proofs.YtppjdeblncincaaGreatDoor
namespace Go.Proofs.YtppjdeblncincaaGreatDoor
open Go.RowKit
def JD(f:DF):List Value:=[S0 f.n,S0 f.s,S0 f.t]
def BI5(f:DF):Value:=.agg #[S0 f.n,S0 f.s,S0 f.t]
def H8:List DF->List Value
 |[]=>[]
 |f::r=>JD f++H8 r
theorem H7:∀fs:List DF,(H8 fs).length=fs.length*3
 |[]=>rfl
 |f::r=>by rw[H8,List.length_append,H7 r];simp[JD];omega
theorem JR:∀a b:List DF,H8 (a++b)=H8 a++H8 b
 |[],_=>rfl
 |f::r,b=>by rw[List.cons_append,H8,H8,JR r b,List.append_assoc]
theorem YE:∀ (fs:List DF) (i:Nat) (f:DF),fs[i]?=some f->∀c,c<3->(H8 fs)[i*3+c]?=(JD f)[c]?
 |[],i,f,h,_,_=>by simp at h
 |x::r,0,f,h,c,hc=>by
  simp at h;subst h;rw[H8,List.getElem?_append_left (by simp[JD];omega)];simp
 |x::r,i+1,f,h,c,hc=>by
  rw[H8,List.getElem?_append_right (by simp[JD];omega),<-YE r i f (by simpa using h) c hc]
  congr 1
  simp[JD];omega
theorem YF(fs:List DF):∀u∈H8 fs,u.oneCell'=true:=by
 induction fs with
 |nil=>simp[H8]
 |cons f r ih=>
  intro u hu;rcases List.mem_append.1 hu with h|h
  .simp[JD]at h;rcases h with rfl|rfl|rfl<;>rfl
  .exact ih u h
theorem nY:∀ (fs:List DF) (i:Nat) (f g:DF),fs[i]?=some f->∀c v,c<3->(JD g)=(JD f).set c v->(H8 fs).set (i*3+c) v=H8 (fs.set i g)
 |[],i,f,g,h,_,_,_,_=>by simp at h
 |x::r,0,f,g,h,c,v,hc,hg=>by
  simp at h;subst h;rw[H8,List.set_cons_zero,H8,hg,List.set_append_left _ _ (by simp[JD];omega)];simp
 |x::r,i+1,f,g,h,c,v,hc,hg=>by
  rw[H8,List.set_cons_succ,H8,List.set_append_right _ _ (by simp[JD];omega),<-nY r i f g (by simpa using h) c v hc hg]
  congr 2
  simp[JD];omega
def IC(w:World)(b off:Nat)(cs:List Value):Prop:=∀j v,cs[j]?=some v->w.cell? ⟨b,off+j,none⟩=some v
theorem IC.c0{w:World}{b off:Nat}{fs:List DF}(h:IC w b off (H8 fs)){i:Nat}{f:DF}(hi:fs[i]?=some f):w.cell? ⟨b,off+i*3,none⟩=some (S0 f.n):=
 h (i*3) _ (by have:=YE fs i f hi 0 (by omega);simpa [JD]using this)
theorem IC.c1{w:World}{b off:Nat}{fs:List DF}(h:IC w b off (H8 fs)){i:Nat}{f:DF}(hi:fs[i]?=some f):w.cell? ⟨b,off+i*3+1,none⟩=some (S0 f.s):=by
 rw[Nat.add_assoc];exact h (i*3+1) _ (by have:=YE fs i f hi 1 (by omega);simpa [JD]using this)
theorem IC.c2{w:World}{b off:Nat}{fs:List DF}(h:IC w b off (H8 fs)){i:Nat}{f:DF}(hi:fs[i]?=some f):w.cell? ⟨b,off+i*3+2,none⟩=some (S0 f.t):=by
 rw[Nat.add_assoc];exact h (i*3+2) _ (by have:=YE fs i f hi 2 (by omega);simpa [JD]using this)
theorem IC.kept{w w':World}{b off B:Nat}{cs:List Value}(h:IC w b off cs)(hb:Below B w w')(hB:b<B):IC w' b off cs:=
 fun j v hj=>by rw[hb.cell (p:=⟨b,off+j,none⟩) hB];exact h j v hj
def IV(w:World)(v:Value)(fs:List DF):Prop:=
 (∃a cap,v=.slice a 0 cap/\fs=[]/\cap<=maxLen)\/
 ∃b off cap,v=.slice (some ⟨b,off,none⟩) fs.length cap/\fs.length<=cap/\cap<=maxLen/\b<w.heap.size/\fs≠[]/\IC w b off (H8 fs)
theorem IV.kept{w w':World}{B:Nat}{v:Value}{fs:List DF}(h:IV w v fs)(hb:Below B w w')(hB:w.heap.size<=B):IV w' v fs:=by
 rcases h with h|⟨b,off,cap,rfl,h1,h2,h3,h0,h4⟩
 .exact .inl h
 .exact .inr ⟨b,off,cap,rfl,h1,h2,Nat.lt_of_lt_of_le h3 hb.size,h0,h4.kept hb (Nat.lt_of_lt_of_le h3 hB)⟩
theorem IV.next{w w':World}{v:Value}{fs:List DF}(h:IV w v fs)(hb:B0 w w'):IV w' v fs:=h.kept hb (Nat.le_refl _)
theorem IV.alloc{w:World}{v:Value}{fs:List DF}(h:IV w v fs)(o:Obj):IV (w.alloc o) v fs:=h.next ((Below.refl _ _).alloc (Nat.le_refl _) o)
theorem IV.drew{w:World}{v:Value}{fs:List DF}(h:IV w v fs):IV w.drew v fs:=h.next (Below.refl _ _).drew
theorem IV.nil(w:World):IV w (N0) []:=.inl ⟨none,0,rfl,rfl,by decide⟩
def Own(W:World)(g cap:Nat)(fs:List DF):Prop:=∃rest:List Value,W.heap[g]?=some (.cells (H8 fs++rest).toArray 81 (0,0))/\fs.length*3+rest.length=cap*3/\cap<=maxLen
theorem Own.lt{W:World}{g cap:Nat}{fs:List DF}(h:Own W g cap fs):g<W.heap.size:=by
 obtain⟨rest,h1,_⟩:=h;exact(Array.getElem?_eq_some_iff.1 h1).1
theorem Own.le{W:World}{g cap:Nat}{fs:List DF}(h:Own W g cap fs):fs.length<=cap:=by obtain⟨rest,_,h2,_⟩:=h;omega
theorem Own.capLe{W:World}{g cap:Nat}{fs:List DF}(h:Own W g cap fs):cap<=maxLen:=by obtain⟨rest,_,_,h3⟩:=h;exact h3
theorem Own.row{W:World}{g cap:Nat}{fs:List DF}(h:Own W g cap fs):IC W g 0 (H8 fs):=by
 obtain⟨rest,h1,_⟩:=h;intro j v hj;have hlt:j<(H8 fs).length:=(List.getElem?_eq_some_iff.1 hj).1;simp[World.cell?,h1,List.getElem?_append_left hlt,hj]
theorem Own.frozen{W:World}{g cap:Nat}{fs:List DF}(h:Own W g cap fs)(j:Nat):W.frozen? ⟨g,j,none⟩=false:=by
 obtain⟨rest,h1,_⟩:=h;simp[World.frozen?,h1]
theorem Own.c0{W:World}{g cap:Nat}{fs:List DF}(h:Own W g cap fs){i:Nat}{f:DF}(hi:fs[i]?=some f):W.cell? ⟨g,i*3,none⟩=some (S0 f.n):=by simpa using h.row.c0 hi
theorem Own.c1{W:World}{g cap:Nat}{fs:List DF}(h:Own W g cap fs){i:Nat}{f:DF}(hi:fs[i]?=some f):W.cell? ⟨g,i*3+1,none⟩=some (S0 f.s):=by simpa using h.row.c1 hi
theorem Own.c2{W:World}{g cap:Nat}{fs:List DF}(h:Own W g cap fs){i:Nat}{f:DF}(hi:fs[i]?=some f):W.cell? ⟨g,i*3+2,none⟩=some (S0 f.t):=by simpa using h.row.c2 hi
theorem Own.kept{W V:World}{g B cap:Nat}{fs:List DF}(h:Own W g cap fs)(hb:Below B W V)(hg:g<B):Own V g cap fs:=by
 obtain⟨rest,h1,h2⟩:=h;exact⟨rest,(hb.block _ hg).trans h1,h2⟩
theorem Own.next{W V:World}{g cap:Nat}{fs:List DF}(h:Own W g cap fs)(hb:B0 W V):Own V g cap fs:=h.kept hb h.lt
theorem Own.alloc{W:World}{g cap:Nat}{fs:List DF}(h:Own W g cap fs)(o:Obj):Own (W.alloc o) g cap fs:=h.next ((Below.refl _ _).alloc (Nat.le_refl _) o)
theorem Own.drew{W:World}{g cap:Nat}{fs:List DF}(h:Own W g cap fs):Own W.drew g cap fs:=h
theorem Own.other{W:World}{g cap:Nat}{fs:List DF}(h:Own W g cap fs){a:Addr}(ha:g≠a.block)(v:Value):Own (W.setCell a v) g cap fs:=by
 obtain⟨rest,h1,h2⟩:=h;exact⟨rest,(Below.heap_setCell W a v g ha).trans h1,h2⟩
theorem GV{w:World}{g j:Nat}{cur:Array Value}{t:TypeId}{fz:Nat×Nat}(v:Value)(h:w.heap[g]?=some (.cells cur t fz)):
  (w.setCell ⟨g,j,none⟩ v).heap[g]?=some (.cells (cur.setIfInBounds j v) t fz):=by
 obtain⟨hlt,hk⟩:=Array.getElem?_eq_some_iff.1 h;show (w.heap.modify g _)[g]?=_;rw[Array.getElem?_eq_getElem (by rw[Array.size_modify];exact hlt),Array.getElem_modify_self,hk];rfl
theorem Own.set{W:World}{g cap:Nat}{fs:List DF}(h:Own W g cap fs){i:Nat}{f f':DF}(hi:fs[i]?=some f){c:Nat}(hc:c<3){v:Value}(hf:JD f'=(JD f).set c v):Own (W.setCell ⟨g,i*3+c,none⟩ v) g cap (fs.set i f'):=by
 obtain⟨rest,h1,h2,h3⟩:=h;refine⟨rest,?_,by simpa using h2,h3⟩;have hl:i<fs.length:=(List.getElem?_eq_some_iff.1 hi).1;rw[GV v h1,<-nY fs i f f' hi c v hc hf];simp[List.set_append_left _ _ (show i*3+c<(H8 fs).length by rw[H7];omega)]
theorem Own.s1{W:World}{g cap:Nat}{fs:List DF}(h:Own W g cap fs){i:Nat}{f:DF}(hi:fs[i]?=some f)(x:List UInt8):Own (W.setCell ⟨g,i*3+1,none⟩ (S0 x)) g cap (fs.set i ⟨f.n,x,f.t⟩):=h.set hi (c:=1) (by omega) rfl
theorem Own.s2{W:World}{g cap:Nat}{fs:List DF}(h:Own W g cap fs){i:Nat}{f:DF}(hi:fs[i]?=some f)(x:List UInt8):Own (W.setCell ⟨g,i*3+2,none⟩ (S0 x)) g cap (fs.set i ⟨f.n,f.s,x⟩):=h.set hi (c:=2) (by omega) rfl
def YG(W:World)(B:Nat)(v:Value)(fs:List DF):Prop:=(v=N0/\fs=[])\/∃g cap,v=.slice (some ⟨g,0,none⟩) fs.length cap/\B<=g/\Own W g cap fs
theorem YG.disk{W:World}{B:Nat}{v:Value}{fs:List DF}(h:YG W B v fs):IV W v fs:=by
 rcases h with⟨rfl,rfl⟩|⟨g,cap,rfl,_,h⟩
 .exact IV.nil W
 .by_cases h0:fs=[]
  .subst h0;exact .inl ⟨_,cap,rfl,rfl,h.capLe⟩
  .exact .inr ⟨g,0,cap,rfl,h.le,h.capLe,h.lt,h0,h.row⟩
theorem YG.next{W V:World}{B:Nat}{v:Value}{fs:List DF}(h:YG W B v fs)(hb:B0 W V):YG V B v fs:=by
 rcases h with h|⟨g,cap,rfl,hB,h⟩
 .exact .inl h
 .exact .inr ⟨g,cap,rfl,hB,h.next hb⟩
theorem YG.L9{W:World}{B:Nat}{v:Value}{fs:List DF}(h:W.ownsRow B 81 3 v fs.length (H8 fs)):YG W B v fs:=by
 obtain⟨_,⟨rfl,h0⟩|⟨g,cap,cur,rfl,hB,hg,hn,hm,hs,ht⟩⟩:=h
 .exact .inl ⟨rfl,List.eq_nil_of_length_eq_zero h0⟩
 .refine .inr ⟨g,cap,rfl,hB,cur.toList.drop (fs.length*3),?_,?_,hm⟩
  .rw[hg,<-ht,List.take_append_drop]
  .simp[hs];omega
theorem YG.row{W:World}{B:Nat}{v:Value}{fs:List DF}(h:YG W B v fs):W.ownsRow B 81 3 v fs.length (H8 fs):=by
 refine⟨H7 fs,?_⟩;rcases h with⟨rfl,rfl⟩|⟨g,cap,rfl,hB,h⟩
 .exact .inl ⟨rfl,rfl⟩
 .have hle:=h.le;obtain⟨rest,h1,h2,h3⟩:=h;refine .inr ⟨g,cap,_,rfl,hB,h1,hle,h3,by simp[H7,h2],?_⟩;simp[<-H7 fs]
class Lay (α:Type) where
 k:Nat
 cs:α->List Value
 ty:TypeId
 len:∀x,(cs x).length=k
 one:∀x,∀u∈cs x,u.oneCell'=true
def AX1(e:Ev):List Value:=[I0 e.k,S0 e.p]
def evV(e:Ev):Value:=.agg #[I0 e.k,S0 e.p]
instance layE:Lay Ev:=⟨2,AX1,74,fun _=>rfl,fun x u hu=>by simp[AX1]at hu;rcases hu with rfl|rfl<;>rfl⟩
instance layI:Lay Int:=⟨1,fun x=>[I0 x],3,fun _=>rfl,fun x u hu=>by simp at hu;subst hu;rfl⟩
instance layS:Lay (List UInt8):=⟨1,fun x=>[S0 x],9,fun _=>rfl,fun x u hu=>by simp at hu;subst hu;rfl⟩
section
variable {α:Type} [Lay α]
def GI(xs:List α):List Value:=xs.flatMap Lay.cs
theorem SE:GI ([]:List α)=[]:=rfl
theorem JU(x:α)(r:List α):GI (x::r)=Lay.cs x++GI r:=by simp[GI]
theorem H6(xs:List α):(GI xs).length=xs.length*Lay.k α:=by
 induction xs with
 |nil=>simp[GI]
 |cons x r ih=>rw[JU,List.length_append,Lay.len,ih,List.length_cons,Nat.add_mul];omega
theorem I5(a b:List α):GI (a++b)=GI a++GI b:=by simp[GI]
theorem JH(a:List α)(x:α):GI (a++[x])=GI a++Lay.cs x:=by simp[GI]
theorem AX2(A:List α)(x:α)(B:List α)(c:Nat)(hc:c<Lay.k α):(GI (A++x::B))[A.length*Lay.k α+c]?=(Lay.cs x)[c]? :=by
 rw[I5,List.getElem?_append_right (by rw[H6];omega),H6,Nat.add_sub_cancel_left,JU,List.getElem?_append_left (by rw[Lay.len];exact hc)]
theorem GY(xs:List α)(i:Nat)(x:α)(h:xs[i]?=some x)(c:Nat)(hc:c<Lay.k α):(GI xs)[i*Lay.k α+c]?=(Lay.cs x)[c]? :=by
 obtain⟨hi,rfl⟩:=List.getElem?_eq_some_iff.1 h;have e:xs=xs.take i++xs[i]::xs.drop (i+1):=by simp
 have:=AX2 (xs.take i) xs[i] (xs.drop (i+1)) c hc;rw[<-e,List.length_take,Nat.min_eq_left (Nat.le_of_lt hi)]at this;exact this
theorem JO(xs:List α):∀u∈GI xs,u.oneCell'=true:=by
 intro u hu;obtain⟨x,_,hx⟩:=List.mem_flatMap.1 hu;exact Lay.one x u hx
theorem AI6(A:List α)(x y:α)(B:List α)(c:Nat)(v:Value)(hc:c<Lay.k α)(hy:Lay.cs y=(Lay.cs x).set c v):(GI (A++x::B)).set (A.length*Lay.k α+c) v=GI (A++y::B):=by
 rw[I5,I5,List.set_append_right _ _ (by rw[H6];omega),H6,Nat.add_sub_cancel_left,JU,JU,List.set_append_left _ _ (by rw[Lay.len];exact hc),hy]
def IL(w:World)(v:Value)(xs:List α):Prop:=
 (∃a cap,v=.slice a 0 cap/\xs=[]/\cap<=maxLen)\/
 ∃b off cap,v=.slice (some ⟨b,off,none⟩) xs.length cap/\xs.length<=cap/\cap<=maxLen/\b<w.heap.size/\xs≠[]/\IC w b off (GI xs)
theorem IL.kept{w w':World}{B:Nat}{v:Value}{xs:List α}(h:IL w v xs)(hb:Below B w w')(hB:w.heap.size<=B):IL w' v xs:=by
 rcases h with h|⟨b,off,cap,rfl,h1,h2,h3,h0,h4⟩
 .exact .inl h
 .exact .inr ⟨b,off,cap,rfl,h1,h2,Nat.lt_of_lt_of_le h3 hb.size,h0,h4.kept hb (Nat.lt_of_lt_of_le h3 hB)⟩
theorem IL.next{w w':World}{v:Value}{xs:List α}(h:IL w v xs)(hb:B0 w w'):IL w' v xs:=h.kept hb (Nat.le_refl _)
theorem IL.alloc{w:World}{v:Value}{xs:List α}(h:IL w v xs)(o:Obj):IL (w.alloc o) v xs:=h.next ((Below.refl _ _).alloc (Nat.le_refl _) o)
theorem IL.nil(w:World):IL w (N0) ([]:List α):=.inl ⟨none,0,rfl,rfl,by decide⟩
theorem GK{w:World}{v:Value}{xs:List α}(hv:IL w v xs):∃a c,v=.slice a xs.length c:=by
 rcases hv with⟨a,cap,rfl,rfl,_⟩|⟨b,off,cap,rfl,_⟩
 .exact⟨_,_,rfl⟩
 .exact⟨_,_,rfl⟩
theorem MV{w:World}{v:Value}{xs:List α}(hv:IL w v xs)(h0:xs≠[]):
  ∃b off cap,v=.slice (some ⟨b,off,none⟩) xs.length cap/\b<w.heap.size/\IC w b off (GI xs)/\xs.length<=cap/\cap<=maxLen:=by
 rcases hv with⟨a,cap,rfl,rfl,_⟩|⟨b,off,cap,rfl,h1,h2,hb,_,hr⟩
 .exact absurd rfl h0
 .exact⟨b,off,cap,rfl,hb,hr,h1,h2⟩
def JA(W:World)(g cap:Nat)(xs:List α):Prop:=∃rest:List Value,W.heap[g]?=some (.cells (GI xs++rest).toArray (Lay.ty α) (0,0))/\xs.length*Lay.k α+rest.length=cap*Lay.k α/\xs.length<=cap/\cap<=maxLen
theorem JA.lt{W:World}{g cap:Nat}{xs:List α}(h:JA W g cap xs):g<W.heap.size:=by
 obtain⟨rest,h1,_⟩:=h;exact(Array.getElem?_eq_some_iff.1 h1).1
theorem JA.le{W:World}{g cap:Nat}{xs:List α}(h:JA W g cap xs):xs.length<=cap:=by obtain⟨rest,_,_,h2,_⟩:=h;exact h2
theorem JA.capLe{W:World}{g cap:Nat}{xs:List α}(h:JA W g cap xs):cap<=maxLen:=by obtain⟨rest,_,_,_,h3⟩:=h;exact h3
theorem JA.row{W:World}{g cap:Nat}{xs:List α}(h:JA W g cap xs):IC W g 0 (GI xs):=by
 obtain⟨rest,h1,_⟩:=h;intro j v hj;have hlt:j<(GI xs).length:=(List.getElem?_eq_some_iff.1 hj).1;simp[World.cell?,h1,List.getElem?_append_left hlt,hj]
theorem JA.frozen{W:World}{g cap:Nat}{xs:List α}(h:JA W g cap xs)(j:Nat):W.frozen? ⟨g,j,none⟩=false:=by
 obtain⟨rest,h1,_⟩:=h;simp[World.frozen?,h1]
theorem JA.kept{W V:World}{g B cap:Nat}{xs:List α}(h:JA W g cap xs)(hb:Below B W V)(hg:g<B):JA V g cap xs:=by
 obtain⟨rest,h1,h2⟩:=h;exact⟨rest,(hb.block _ hg).trans h1,h2⟩
theorem JA.next{W V:World}{g cap:Nat}{xs:List α}(h:JA W g cap xs)(hb:B0 W V):JA V g cap xs:=h.kept hb h.lt
theorem JA.other{W:World}{g cap:Nat}{xs:List α}(h:JA W g cap xs){a:Addr}(ha:g≠a.block)(v:Value):JA (W.setCell a v) g cap xs:=by
 obtain⟨rest,h1,h2⟩:=h;exact⟨rest,(Below.heap_setCell W a v g ha).trans h1,h2⟩
theorem JA.set{W:World}{g cap:Nat}{A B:List α}{x y:α}(h:JA W g cap (A++x::B)){c:Nat}(hc:c<Lay.k α){v:Value}(hy:Lay.cs y=(Lay.cs x).set c v):JA (W.setCell ⟨g,A.length*Lay.k α+c,none⟩ v) g cap (A++y::B):=by
 obtain⟨rest,h1,h2,h3⟩:=h;refine⟨rest,?_,by simpa using h2,by simpa using h3⟩;rw[GV v h1,<-AI6 A x y B c v hc hy];have hlt:A.length*Lay.k α+c<(GI (A++x::B)).length:=by
  rw[H6];simp[Nat.add_mul];omega
 simp[List.set_append_left _ _ hlt]
def GZ(W:World)(B:Nat)(v:Value)(xs:List α):Prop:=(v=N0/\xs=[])\/∃g cap,v=.slice (some ⟨g,0,none⟩) xs.length cap/\B<=g/\JA W g cap xs
theorem GZ.seq{W:World}{B:Nat}{v:Value}{xs:List α}(h:GZ W B v xs):IL W v xs:=by
 rcases h with⟨rfl,rfl⟩|⟨g,cap,rfl,_,h⟩
 .exact IL.nil W
 .by_cases h0:xs=[]
  .subst h0;exact .inl ⟨_,cap,rfl,rfl,h.capLe⟩
  .exact .inr ⟨g,0,cap,rfl,h.le,h.capLe,h.lt,h0,h.row⟩
theorem GZ.kept{W V:World}{B C:Nat}{v:Value}{xs:List α}(h:GZ W B v xs)(hb:Below C W V)(hC:W.heap.size<=C):GZ V B v xs:=by
 rcases h with h|⟨g,cap,rfl,hB,h⟩
 .exact .inl h
 .exact .inr ⟨g,cap,rfl,hB,h.kept hb (Nat.lt_of_lt_of_le h.lt hC)⟩
theorem GZ.next{W V:World}{B:Nat}{v:Value}{xs:List α}(h:GZ W B v xs)(hb:B0 W V):GZ V B v xs:=h.kept hb (Nat.le_refl _)
theorem GZ.other{W:World}{B:Nat}{v:Value}{xs:List α}(h:GZ W B v xs){a:Addr}(ha:v.ownBlock≠some a.block)(u:Value):GZ (W.setCell a u) B v xs:=by
 rcases h with h|⟨g,cap,rfl,hB,h⟩
 .exact .inl h
 .exact .inr ⟨g,cap,rfl,hB,h.other (by intro e;apply ha;simp[Value.ownBlock,e]) u⟩
theorem GZ.lower{W:World}{B C:Nat}{v:Value}{xs:List α}(h:GZ W B v xs)(hC:C<=B):GZ W C v xs:=by
 rcases h with h|⟨g,cap,rfl,hB,h⟩
 .exact .inl h
 .exact .inr ⟨g,cap,rfl,Nat.le_trans hC hB,h⟩
theorem GZ.L9{W:World}{B:Nat}{v:Value}{xs:List α}(h:W.ownsRow B (Lay.ty α) (Lay.k α) v xs.length (GI xs)):GZ W B v xs:=by
 obtain⟨_,⟨rfl,h0⟩|⟨g,cap,cur,rfl,hB,hg,hn,hm,hs,ht⟩⟩:=h
 .exact .inl ⟨rfl,List.eq_nil_of_length_eq_zero h0⟩
 .refine .inr ⟨g,cap,rfl,hB,cur.toList.drop (xs.length*Lay.k α),?_,?_,hn,hm⟩
  .rw[hg,<-ht,List.take_append_drop]
  .have:=Nat.mul_le_mul_right (Lay.k α) hn;simp[hs];omega
theorem GZ.row{W:World}{B:Nat}{v:Value}{xs:List α}(h:GZ W B v xs):W.ownsRow B (Lay.ty α) (Lay.k α) v xs.length (GI xs):=by
 refine⟨H6 xs,?_⟩;rcases h with⟨rfl,rfl⟩|⟨g,cap,rfl,hB,h⟩
 .exact .inl ⟨rfl,rfl⟩
 .obtain⟨rest,h1,h2,hle,h3⟩:=h;refine .inr ⟨g,cap,_,rfl,hB,h1,hle,h3,by simp[H6,h2],?_⟩;simp[<-H6 xs]
theorem GZ.slice{W:World}{B:Nat}{v:Value}{xs:List α}(h:GZ W B v xs):∃a c,v=.slice a xs.length c/\c<=maxLen:=by
 rcases h with⟨rfl,rfl⟩|⟨g,cap,rfl,_,h⟩
 .exact⟨none,0,rfl,by decide⟩
 .exact⟨_,_,rfl,h.capLe⟩
end
theorem IC.i0{w:World}{b off:Nat}{xs:List Int}(h:IC w b off (GI xs)){i:Nat}{x:Int}(hi:xs[i]?=some x):w.cell? ⟨b,off+i,none⟩=some (I0 x):=
 h i _ (by have:=GY xs i x hi 0 (by decide);simpa [Lay.k,Lay.cs]using this)
theorem IC.s0{w:World}{b off:Nat}{xs:List (List UInt8)}(h:IC w b off (GI xs)){i:Nat}{x:List UInt8}(hi:xs[i]?=some x):w.cell? ⟨b,off+i,none⟩=some (S0 x):=
 h i _ (by have:=GY xs i x hi 0 (by decide);simpa [Lay.k,Lay.cs]using this)
theorem IC.e0{w:World}{b off:Nat}{xs:List Ev}(h:IC w b off (GI xs)){i:Nat}{x:Ev}(hi:xs[i]?=some x):w.cell? ⟨b,off+i*2,none⟩=some (I0 x.k):=
 h (i*2) _ (GY xs i x hi 0 (by decide))
theorem IC.e1{w:World}{b off:Nat}{xs:List Ev}(h:IC w b off (GI xs)){i:Nat}{x:Ev}(hi:xs[i]?=some x):w.cell? ⟨b,off+i*2+1,none⟩=some (S0 x.p):=by
 rw[Nat.add_assoc];exact h (i*2+1) _ (GY xs i x hi 1 (by decide))
theorem GX{w:World}{o:Obj}{w1:World}(h:Below (w.alloc o).heap.size (w.alloc o) w1):B0 w w1:=
 ((Below.refl _ _).alloc (Nat.le_refl _) _).trans (h.mono (by simp))
theorem GH{w W V:World}(h:B0 w W)(h':B0 W V):B0 w V:=h.trans (h'.mono h.size)
theorem G9(w:World)(o:Obj):B0 w (w.alloc o):=(Below.refl _ _).alloc (Nat.le_refl _) _
theorem PX{w:World}{g j:Nat}(v:Value):w.grownBy (w.setCell ⟨g,j,none⟩ v) (some g):=⟨rfl,rfl,rfl,by simp[World.setCell],fun k _ hne=>Below.heap_setCell w ⟨g,j,none⟩ v k (fun e=>hne (by rw[e]))⟩
theorem IQ{w w' w'':World}{g:Nat}(h:w.grownBy w' (some g))(h':w'.grownBy w'' (some g)):w.grownBy w'' (some g):=
 ⟨h'.os.trans h.os,h'.tape.trans h.tape,h'.output.trans h.output,Nat.le_trans h.size h'.size,fun k hk hne=>(h'.block k (Nat.lt_of_lt_of_le hk h.size) hne).trans (h.block k hk hne)⟩
theorem P8{g:Nat}{t:TypeId}{fz:Nat×Nat}:∀ (vs:List Value) (o:Nat) (w:World) (l:List Value),w.heap[g]?=some (.cells l.toArray t fz)->o+vs.length<=l.length->
  (w.setCells g o vs).heap[g]?=some (.cells (l.take o++vs++l.drop (o+vs.length)).toArray t fz)
 |[],o,w,l,h,_=>by simpa [World.setCells]using h
 |v::r,o,w,l,h,hl=>by
  have h1:(w.setCell ⟨g,o,none⟩ v).heap[g]?=some (.cells (l.set o v).toArray t fz):=by rw[GV v h];simp
  rw[World.setCells,P8 r (o+1) _ _ h1 (by simp at hl⊢;omega)];have ho:o<l.length:=by simp at hl;omega
  have e1:(l.set o v).take (o+1)=l.take o++[v]:=by
   rw[List.take_set,List.take_succ_eq_append_getElem ho,List.set_append_right _ _ (by simp;omega)];simp[Nat.min_eq_left (Nat.le_of_lt ho)]
  have e2:(l.set o v).drop (o+1+r.length)=l.drop (o+(r.length+1)):=by
   rw[List.drop_set_of_lt (by omega)];congr 1;omega
  rw[e1,e2];simp
theorem I8{g:Nat}:∀ (vs:List Value) (o:Nat) (w:World),w.grownBy (w.setCells g o vs) (some g)
 |[],_,_=>⟨rfl,rfl,rfl,Nat.le_refl _,fun _ _ _=>rfl⟩
 |v::r,o,_=>IQ (PX v) (I8 r (o+1) _)
section
variable {α:Type} [Lay α]
theorem JA.splice{W:World}{g cap:Nat}{pre tl:List α}(h:JA W g cap (pre++tl))(new:List α)(hfit:pre.length+new.length<=cap):JA (W.setCells g (pre.length*Lay.k α) (GI new)) g cap (pre++new):=by
 obtain⟨rest,h1,h2,h4,h3⟩:=h;have hlen:(GI (pre++tl)++rest).length=cap*Lay.k α:=by rw[List.length_append,H6];exact h2
 have hf:pre.length*Lay.k α+new.length*Lay.k α<=cap*Lay.k α:=by rw[<-Nat.add_mul];exact Nat.mul_le_mul_right _ hfit
 refine⟨(GI (pre++tl)++rest).drop (pre.length*Lay.k α+(GI new).length),?_,?_,by simpa using hfit,h3⟩
 .rw[P8 (GI new) (pre.length*Lay.k α) W _ h1 (by rw[hlen,H6];omega),I5 pre new]
  congr 3
  have e:GI (pre++tl)++rest=GI pre++(GI tl++rest):=by rw[I5,List.append_assoc]
  rw[e,<-H6 pre,List.take_left]
 .rw[List.length_drop,hlen,H6,List.length_append,Nat.add_mul];omega
theorem JA.spare{W:World}{g cap:Nat}{fs:List α}(h:JA W g cap fs)(vs:List Value)(o:Nat)(ho:fs.length*Lay.k α<=o)(hfit:o+vs.length<=cap*Lay.k α):JA (W.setCells g o vs) g cap fs:=by
 obtain⟨rest,h1,h2,h4,h3⟩:=h;have hlen:(GI fs++rest).length=cap*Lay.k α:=by rw[List.length_append,H6];exact h2
 have hc:=H6 fs;refine⟨rest.take (o-fs.length*Lay.k α)++vs++(GI fs++rest).drop (o+vs.length),?_,?_,h4,h3⟩
 .rw[P8 vs o W _ h1 (by rw[hlen];omega)]
  congr 2
  rw[List.take_append,List.take_of_length_le (by omega),hc];simp only[List.append_assoc]
 .simp only[List.length_append,List.length_take,List.length_drop,hc];omega
theorem JA.vC{W:World}{g cap:Nat}{A B:List α}{y:α}(h:JA W g cap (A++y::B))(x:α):JA (W.setCells g (A.length*Lay.k α) (Lay.cs x)) g cap (A++x::B):=by
 obtain⟨rest,h1,h2,h4,h3⟩:=h;have hlen:(GI (A++y::B)++rest).length=cap*Lay.k α:=by rw[List.length_append,H6];exact h2
 refine⟨rest,?_,by simpa using h2,by simpa using h4,h3⟩;have hA:=H6 A;have hx3:(Lay.cs x).length=Lay.k α:=Lay.len x;have hy3:(Lay.cs y).length=Lay.k α:=Lay.len y;rw[P8 (Lay.cs x) (A.length*Lay.k α) W _ h1 (by rw[hlen,hx3];simp[Nat.add_mul]at h2;omega)];have e:GI (A++y::B)++rest=GI A++(Lay.cs y++(GI B++rest)):=by simp[I5,JU]
 have e':GI (A++x::B)++rest=GI A++(Lay.cs x++(GI B++rest)):=by simp[I5,JU]
 rw[e,e']
 congr 2
 rw[hx3,<-hA,List.take_left,show (GI A).length+Lay.k α=(GI A++Lay.cs y).length by rw[List.length_append,hy3],<-List.append_assoc (GI A) (Lay.cs y),List.drop_left,List.append_assoc]
theorem JA.some{W:World}{g cap:Nat}{fs:List α}(h:JA W g cap fs){j:Nat}(hj:j<cap*Lay.k α):(W.cell? ⟨g,j,none⟩).isSome=true:=by
 obtain⟨rest,h1,h2,_⟩:=h;have hl:j<(GI fs++rest).length:=by rw[List.length_append,H6,h2];exact hj
 rw[List.length_append]at hl;simp[World.cell?,h1,hl]
theorem JA.drew{W:World}{g cap:Nat}{fs:List α}(h:JA W g cap fs):JA W.drew g cap fs:=h
def JQ(W:World)(b:Nat)(x:α):Prop:=W.heap[b]?=some (.cells (Lay.cs x).toArray (Lay.ty α) (0,0))
theorem JQ.row{W:World}{b:Nat}{x:α}(h:JQ W b x):∀j v,(Lay.cs x)[j]?=some v->W.cell? ⟨b,0+j,none⟩=some v:=by
 intro j v hj;unfold JQ at h;simp[World.cell?,h,hj]
end
theorem J7(ss:List Int):(GI ss).length=ss.length:=(H6 ss).trans (Nat.mul_one _)
structure Touch(F:Nat->Prop)(w w':World):Prop where
 os:w'.os=w.os
 tape:w'.tape=w.tape
 output:w'.output=w.output
 size:w.heap.size<=w'.heap.size
 block:∀k,k<w.heap.size->¬F k->w'.heap[k]?=w.heap[k]?
theorem Touch.refl(F:Nat->Prop)(w:World):Touch F w w:=⟨rfl,rfl,rfl,Nat.le_refl _,fun _ _ _=>rfl⟩
theorem Touch.trans{F:Nat->Prop}{a b c:World}(h:Touch F a b)(k:Touch F b c):Touch F a c:=
 ⟨k.os.trans h.os,k.tape.trans h.tape,k.output.trans h.output,Nat.le_trans h.size k.size,fun i hi hf=>(k.block i (Nat.lt_of_lt_of_le hi h.size) hf).trans (h.block i hi hf)⟩
theorem Touch.of_below{F:Nat->Prop}{w w':World}(h:B0 w w'):Touch F w w':=⟨h.os,h.tape,h.output,h.size,fun k hk _=>h.block k hk⟩
theorem Touch.VI{F:Nat->Prop}{w w':World}{r:Option Nat}(h:w.grownBy w' r)(hr:∀k,r=some k->F k):Touch F w w':=⟨h.os,h.tape,h.output,h.size,fun k hk hf=>h.block k hk (fun e=>hf (hr k e.symm))⟩
theorem Touch.set{F:Nat->Prop}{w:World}{a:Addr}(hf:F a.block)(v:Value):Touch F w (w.setCell a v):=⟨rfl,rfl,rfl,by simp[World.setCell],fun k _ hn=>Below.heap_setCell w a v k (fun e=>hn (by rw[e];exact hf))⟩
theorem Touch.drew{F:Nat->Prop}{w w':World}(h:Touch F w w'):Touch F w w'.drew:=⟨h.os,h.tape,h.output,h.size,h.block⟩
theorem Touch.mono{F G:Nat->Prop}{w w':World}(h:Touch F w w')(hg:∀k,k<w.heap.size->F k->G k):Touch G w w':=⟨h.os,h.tape,h.output,h.size,fun k hk hn=>h.block k hk (fun hf=>hn (hg k hk hf))⟩
theorem Touch.below{F:Nat->Prop}{w w':World}{B:Nat}(h:Touch F w w')(hB:B<=w.heap.size)(hF:∀k,F k->B<=k):Below B w w':=
 ⟨h.os,h.tape,h.output,h.size,fun k hk=>h.block k (Nat.lt_of_lt_of_le hk hB) (fun hf=>by have:=hF k hf;omega)⟩
theorem GZ.low{α:Type}[Lay α]{W:World}{B:Nat}{v:Value}{xs:List α}(h:GZ W B v xs)(k:Nat)(hk:v.ownBlock=some k):k<W.heap.size:=by
 rcases h with⟨rfl,rfl⟩|⟨g,cap,rfl,_,h⟩
 .simp[Value.ownBlock]at hk
 .simp only[Value.ownBlock,Option.some.injEq]at hk;rw[<-hk];exact h.lt
theorem GZ.grown{α:Type}[Lay α]{W V:World}{B:Nat}{v:Value}{xs:List α}(h:GZ W B v xs){r:Option Nat}(hg:W.grownBy V r)(hr:∀k,v.ownBlock=some k->some k≠r):GZ V B v xs:=by
 rcases h with h|⟨g,cap,rfl,hB,h⟩
 .exact .inl h
 .obtain⟨rest,h1,h2⟩:=h;have hlt:=(Array.getElem?_eq_some_iff.1 h1).1;exact .inr ⟨g,cap,rfl,hB,rest,(hg.block g hlt (hr g rfl)).trans h1,h2⟩
theorem I9{w:World}{a:Addr}{v:Value}(h:w.cell? a=some v):w.setCell a v=w:=by
 obtain⟨heap,tape,drawn,os,output⟩:=w;simp only[World.setCell,World.cell?]at*
 congr 1
 apply Array.ext_getElem?
 intro k;rw[Array.getElem?_modify];by_cases hk:a.block=k
 .subst hk;simp only[if_true]
  cases ho:heap[a.block]? with
  |none=>rfl
  |some o=>
   rw[ho]at h
   cases o with
   |cells c e fz=>
    simp only at h;by_cases hs:a.spot.isSome=true
    .simp[hs]at h
    .simp only[hs]at h;simp[hs];have hlt:a.off<c.size:=(Array.getElem?_eq_some_iff.1 (by simpa using h)).1;have hv:c[a.off]=v:=(Array.getElem?_eq_some_iff.1 (by simpa using h)).2;rw[<-hv];simp[Array.setIfInBounds,hlt]
   |_=>simp at h
 .simp[hk]
theorem IB{W V:World}(h:Below W.drew.heap.size W.drew V):B0 W V:=((Below.refl _ W).drew).trans h
theorem CH5:(Tryz.prog.info? 74).map (fun i=>(i.zero,i.size,i.bytes))=some (some (.agg #[I0 0,.string ⟨#[]⟩]),2,24):=by kernel_rfl
theorem CU3:∃i0,Tryz.prog.info? 74=some i0/\i0.zero=some (.agg #[I0 0,.string ⟨#[]⟩])/\i0.size=2/\i0.bytes=24:=by
 obtain⟨i0,h,e⟩:=Option.map_eq_some_iff.1 CH5;simp only[Prod.mk.injEq]at e;exact⟨i0,h,e⟩
theorem RP{α:Type}[Lay α]{W:World}{g:Nat}{x:α}(h:JQ W g x)(j:Nat)(u:Value)(hj:(Lay.cs x)[j]?=some u):W.cell? ((⟨g,0,none⟩:Addr).add j)=some u:=by
 rw[Addr.add_lit];exact h.row j u hj
theorem zU(w:World)(k:Int)(p:List UInt8):JQ (w.alloc (.cells #[I0 k,S0 p] 74)) w.heap.size (⟨k,p⟩:Ev):=heap_alloc_new w _
def J9(t:GN):Value:=.agg #[I0 t.z,I0 t.o,I0 t.s,S0 t.p,S0 t.d,I0 t.v,I0 t.w]
end Go.Proofs.YtppjdeblncincaaGreatDoor
