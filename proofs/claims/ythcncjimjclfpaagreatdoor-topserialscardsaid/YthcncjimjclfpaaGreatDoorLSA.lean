/-
  Part.
-/
import Derived.WalkKit
import Derived.Lib.IndexLaws
import Derived.Laws.Cover1
import Derived.Test.YthcncjimjclfpaaGreatDoorProg
import Derived.Deep.LoopGhost
import Derived.Lib.QuietBelow
set_option maxRecDepth 20000
set_option maxHeartbeats 8000000
namespace Go.Proofs.YthcncjimjclfpaaGreatDoor
open Go.RowKit
abbrev I0 (x:Int):Value:=.int .i64 x
abbrev S0 (l:List UInt8):Value:=.string ⟨l.toArray⟩
abbrev N0:Value:=.slice none 0 0
abbrev P0 (k:Nat):Value:=.pointer (some ⟨k,0,none⟩)
abbrev R0 (w:World)(x:Value):Ending->World->Prop:=fun e w'=>e=.returned x/\Below w.heap.size w w'
abbrev B0 (w W:World):Prop:=Below w.heap.size w W
theorem G6{p:Prop}(h:p):Hid p:=h
theorem G5{p:Prop}(h:Hid p):p:=h
def TU(c:UInt8):Bool:=(decide (97<=c.toNat)&&decide (c.toNat<=122))||(decide (48<=c.toNat)&&decide (c.toNat<=57))||c.toNat==45||c.toNat==95
def IZ(l:List UInt8):Bool:=decide (1<=l.length)&&decide (l.length<=40)&&l.all TU
theorem iY(s:ByteArray)(k:Nat)(h:k<s.size):s.data.toList.take (k+1)=s.data.toList.take k++[s[k]]:=by
 rw[List.take_succ_eq_append_getElem (by simpa using h)];rfl
theorem V5(s:ByteArray)(k:Nat)(h:k<s.size)(p:UInt8->Bool)(h1:(s.data.toList.take k).all p=true)(h2:p s[k]=true):(s.data.toList.take (k+1)).all p=true:=by
 rw[iY s k h,List.all_append,h1];simpa using h2
theorem ZH(s:ByteArray)(k:Nat)(h:s.size<=k)(p:UInt8->Bool)(h1:(s.data.toList.take k).all p=true):s.data.toList.all p=true:=by
 rwa[List.take_of_length_le (by simpa using h)]at h1
theorem dO(s:ByteArray)(k:Nat)(h:k<s.size)(p:UInt8->Bool)(h2:p s[k]=false):s.data.toList.all p=false:=by
 rw[List.all_eq_false];exact⟨s[k],by have:s[k]∈s.data:=Array.getElem_mem h;simpa using this,by simp[h2]⟩
theorem aC(s:ByteArray):s.data.toList.length=s.size:=by simp
theorem uN(s:ByteArray)(h:s.size<1):IZ s.data.toList=false:=by
 simp only[IZ,aC,show ¬1<=s.size from by omega,decide_false,Bool.false_and]
theorem zO(s:ByteArray)(h:40<s.size):IZ s.data.toList=false:=by
 simp only[IZ,aC,show ¬s.size<=40 from by omega,decide_false,Bool.and_false,Bool.false_and]
theorem nP(s:ByteArray)(h:1<=s.size)(h':s.size<=40):IZ s.data.toList=s.data.toList.all TU:=by
 simp only[IZ,aC,h,h',decide_true,Bool.true_and]
def KD(z:Int):Bool:=decide (0<=z)&&decide (z<4611686018427387904)
def zIn(n:Int):Bool:=decide (0<=n)&&decide (n<2147483648)
def J3(z:Int):Int:=if KD z then z/2147483648 else 0
def nR(z:Int):Int:=if KD z then z%2147483648 else 0
def L6(e c:Int):Int:=if zIn e&&zIn c then e*2147483648+c else 0
def NU(e c:Int):Int:=if zIn e&&zIn c then 0 else 3
def iZ(z:Int):Int:=if KD z&&zIn (z%2147483648+1)then z+1 else 0
def WM(z:Int):Int:=if KD z then(if zIn (z%2147483648+1)then 0 else 6)else 3
theorem LZ{z:Int}:KD z=true↔0<=z/\z<4611686018427387904:=by simp[KD]
theorem PY{z:Int}:zIn z=true↔0<=z/\z<2147483648:=by simp[zIn]
theorem A83{z:Int}(h:¬ (0<=z/\z<2147483648)):zIn z=false:=by
 cases hg:zIn z with
 |false=>rfl
 |true=>exact absurd (PY.1 hg) h
theorem MB{z:Int}(h:KD z=true):J3 z=z/2147483648:=by rw[J3,if_pos h]
theorem uO{z:Int}(h:KD z=false):J3 z=0:=by rw[J3,h];rfl
theorem YF{z:Int}(h:KD z=true):nR z=z%2147483648:=by rw[nR,if_pos h]
theorem AT1{z:Int}(h:KD z=false):nR z=0:=by rw[nR,h];rfl
theorem U4{e c:Int}(he:zIn e=true)(hc:zIn c=true):L6 e c=e*2147483648+c/\NU e c=0:=by
 constructor<;>simp[L6,NU,he,hc]
theorem gZ{e c:Int}(h:zIn e=false\/zIn c=false):L6 e c=0/\NU e c=3:=by
 rcases h with h|h<;>constructor<;>simp[L6,NU,h]
theorem AT2{z:Int}(h:KD z=false):iZ z=0/\WM z=3:=by constructor<;>simp[iZ,WM,h]
theorem AI5{z:Int}(h:KD z=true)(h1:zIn (z%2147483648+1)=false):iZ z=0/\WM z=6:=by constructor<;>simp[iZ,WM,h,h1]
theorem qK{z:Int}(h:KD z=true)(h1:zIn (z%2147483648+1)=true):iZ z=z+1/\WM z=0:=by constructor<;>simp[iZ,WM,h,h1]
theorem uP(n:Int)(h₀:0<=n)(h₁:n<2^63):IntKind.i64.wrap n=n:=by rw[IntKind.wrap_i64];omega
theorem C09{e c:Int}(he:0<=e)(he1:e<2147483648)(hc:0<=c)(hc1:c<2147483648):bits .or .i64 (e*2147483648) c=e*2147483648+c:=
 bits_join .i64 63 (by decide) uP 31 (e*2147483648) c (by omega) (by omega) (by omega) hc (by omega) (by omega)
theorem BF4{z:Int}(h:0<=z)(h1:z<4611686018427387904):bits .and .i64 z 2147483647=z%2147483648:=
 bits_mask .i64 63 (by decide) uP 31 (by decide) z h (by omega)
theorem qL{a b:Int}(h:a=b):Ending.returned (I0 a)=.returned (I0 b):=by rw[h]
theorem P8{a b i j:Int}(h:a=b)(h':i=j):Ending.returned (.tuple #[I0 a,I0 i])=.returned (.tuple #[I0 b,I0 j]):=by rw[h,h']
def KL:List UInt8->List (List UInt8)
 |[]=>[[]]
 |c::l=>if c=47 then []::KL l else match KL l with
  |[]=>[[c]]
  |p::ps=>(c::p)::ps
theorem uQ(l:List UInt8):KL l≠[]:=by
 cases l with
 |nil=>simp[KL]
 |cons c l=>
  simp only[KL]
  split
  .simp
  .split<;>simp
theorem QM(l:List UInt8):KL (47::l)=[]::KL l:=by simp[KL]
theorem NC{c:UInt8}(h:c≠47){l p:List UInt8}{ps:List (List UInt8)}(hl:KL l=p::ps):KL (c::l)=(c::p)::ps:=by
 simp[KL,h,hl]
theorem jA:∀l:List UInt8,Lib.indexByte l 47=-1->KL l=[l]
 |[],_=>rfl
 |c::l,h=>by
  have h1:(c==47)=false:=by
   cases hc:(c==47)with
   |false=>rfl
   |true=>rw[Lib.indexByte,if_pos hc]at h;exact absurd h (by decide)
  have h2:Lib.indexByte l 47=-1:=by
   by_cases h3:(Lib.indexByte l 47==-1)=true
   .simpa using h3
   .rw[Lib.indexByte,if_neg (by simp[h1]),if_neg h3]at h;have:=Lib.indexByte_ge l 47;omega
  exact NC (by simpa using h1) (jA l h2)
theorem jB:∀ (l:List UInt8) (i:Nat),Lib.indexByte l 47=i->i<l.length/\KL l=l.take i::KL (l.drop (i+1))
 |[],i,h=>by simp[Lib.indexByte]at h
 |c::l,i,h=>by
  by_cases hc:(c==47)=true
  .rw[Lib.indexByte,if_pos hc]at h;have hi:i=0:=by omega
   subst hi;have:c=47:=by simpa using hc
   subst this;exact⟨by simp,by simp[QM]⟩
  .have hc':c≠47:=by simpa using hc
   by_cases h3:(Lib.indexByte l 47==-1)=true
   .rw[Lib.indexByte,if_neg hc,if_pos h3]at h;omega
   .rw[Lib.indexByte,if_neg hc,if_neg h3]at h;have hge:=Lib.indexByte_ge l 47;have hne:Lib.indexByte l 47≠ -1:=by simpa using h3
    obtain⟨j,rfl⟩:∃j,i=j+1:=⟨i-1,by omega⟩;obtain⟨h4,h5⟩:=jB l j (by omega);exact⟨by simp;omega,by rw[NC hc' h5];simp⟩
theorem jC(l:List UInt8):Lib.indexByte l 47=-1\/∃i:Nat,Lib.indexByte l 47=i:=by
 have:=Lib.indexByte_ge l 47;by_cases h:Lib.indexByte l 47=-1
 .exact .inl h
 .exact .inr ⟨(Lib.indexByte l 47).toNat,by omega⟩
theorem qM(l:List UInt8):∀p∈KL l,p.length<=l.length:=by
 induction l with
 |nil=>intro p hp;simp[KL]at hp;simp[hp]
 |cons c l ih=>
  intro p hp;by_cases hc:c=47
  .subst hc;rw[QM]at hp;rcases List.mem_cons.1 hp with rfl|h
   .simp
   .have:=ih p h;simp;omega
  .cases hl:KL l with
   |nil=>exact absurd hl (uQ l)
   |cons q qs=>
    rw[NC hc hl]at hp;rcases List.mem_cons.1 hp with rfl|h
    .have:=ih q (by rw[hl];simp);simp;omega
    .have:=ih p (by rw[hl];simp[h]);simp;omega
def MN(l:List UInt8):List (List UInt8):=if l=[47]then []else KL (Lib.trimPrefix l [47])
def II(l:List UInt8):Bool:=decide (l.length<=200)&&Lib.hasPrefix l [47]&&(MN l).all IZ
def CG7(c:Nat):Nat:=(c/2)^^^(3988292384*(c%2))
def BW7:Nat->Nat->Nat
 |0,c=>c
 |n+1,c=>CG7 (BW7 n c)
def CR6(c:Nat)(b:UInt8):Nat:=BW7 8 (c^^^b.toNat)
def BF5(l:List UInt8):Nat:=l.foldl CR6 4294967295
def A84(l:List UInt8):Nat:=4294967295^^^BF5 l
theorem AT3:(2:Nat)^32=4294967296:=by decide
theorem aF{a b:Nat}(ha:a<4294967296)(hb:b<4294967296):a^^^b<4294967296:=by
 have h:=Nat.xor_lt_two_pow (n:=32) (x:=a) (y:=b) (by rw[AT3];exact ha) (by rw[AT3];exact hb);rwa[AT3]at h
theorem C11{c:Nat}(h:c<4294967296):CG7 c<4294967296:=by
 unfold CG7;refine aF (by omega) ?_;rcases Nat.mod_two_eq_zero_or_one c with e|e<;>rw[e]<;>decide
theorem zQ{c:Nat}(h:c<4294967296):∀n,BW7 n c<4294967296
 |0=>h
 |n+1=>C11 (zQ h n)
theorem AT4(b:UInt8):b.toNat<4294967296:=by have:=b.toNat_lt;omega
theorem C14{c:Nat}(h:c<4294967296)(b:UInt8):CR6 c b<4294967296:=zQ (aF h (AT4 b)) 8
theorem BF6(l:List UInt8):∀c,c<4294967296->l.foldl CR6 c<4294967296:=by
 induction l with
 |nil=>intro c h;exact h
 |cons b l ih=>intro c h;exact ih _ (C14 h b)
theorem AT5(l:List UInt8):BF5 l<4294967296:=BF6 l _ (by decide)
theorem AT6(l:List UInt8):A84 l<4294967296:=aF (by decide) (AT5 l)
theorem AT7(l:List UInt8)(b:UInt8):BF5 (l++[b])=CR6 (BF5 l) b:=by simp[BF5]
theorem uS(n:Int)(h₀:0<=n)(h₁:n<2^32):IntKind.u32.wrap n=n:=by rw[IntKind.wrap_u32];omega
theorem uT(k:IntKind)(j:Nat)(hj:j<=k.bits)(hk:∀n:Int,0<=n->n<2^j->k.wrap n=n)(a b:Nat)(ha:a<2^j)(hb:b<2^j):bits .xor k a b=((a^^^b:Nat):Int):=by
 have hp:2^j<=2^k.bits:=Nat.pow_le_pow_right (by decide) hj;have ha':a%2^k.bits=a:=Nat.mod_eq_of_lt (Nat.lt_of_lt_of_le ha hp);have hb':b%2^k.bits=b:=Nat.mod_eq_of_lt (Nat.lt_of_lt_of_le hb hp);simp only[bits,BitVec.ofInt_natCast,BitVec.toNat_xor,BitVec.toNat_ofNat,ha',hb'];exact hk _ (Int.natCast_nonneg _) (by exact_mod_cast Nat.xor_lt_two_pow ha hb)
theorem zS{a b:Nat}(ha:a<4294967296)(hb:b<4294967296):bits .xor .u32 a b=((a^^^b:Nat):Int):=
 uT .u32 32 (by decide) uS a b (by rw[AT3];exact ha) (by rw[AT3];exact hb)
theorem BF7{a:Nat}(ha:a<4294967296):bits .and .u32 a 1=((a%2:Nat):Int):=by
 have h:=bits_mask .u32 32 (by decide) uS 1 (by decide) (a:Int) (by omega) (by omega)
 exact_mod_cast h
def be:Nat->Nat->List UInt8
 |0,_=>[]
 |k+1,n=>be k (n/256)++[UInt8.ofNat n]
def un(l:List UInt8):Nat:=l.foldl (fun a b=>a*256+b.toNat) 0
theorem IJ:∀k n,(be k n).length=k
 |0,_=>rfl
 |k+1,n=>by rw[be,List.length_append,IJ k];rfl
theorem zT(l:List UInt8)(b:UInt8):un (l++[b])=un l*256+b.toNat:=by simp[un]
theorem jD:∀k n,n<256^k->un (be k n)=n
 |0,n,h=>by
  have:n=0:=by simpa using h
  subst this;rfl
 |k+1,n,h=>by
  rw[be,zT,jD k (n/256) (by rw[Nat.pow_succ]at h;omega)];have:(UInt8.ofNat n).toNat=n%256:=by simp
  omega
theorem BF8(l:List UInt8):un l<256^l.length:=by
 induction h:l.length generalizing l with
 |zero=>obtain rfl:=List.eq_nil_of_length_eq_zero h;decide
 |succ k ih=>
  rcases List.eq_nil_or_concat l with rfl|⟨a,b,rfl⟩
  .simp at h
  .rw[List.concat_eq_append]at h⊢;have hk:a.length=k:=by simpa using h
   have h1:=ih a hk;have h2:=b.toNat_lt;rw[zT,Nat.pow_succ];omega
structure GI where
 z:Int
 o:Int
 s:Int
 p:List UInt8
 d:List UInt8
 v:Int
 w:Int
def t0:GI:=⟨0,0,0,[],[],0,0⟩
def mP(n least:Int):Bool:=decide (least<=n)&&decide (n<=2147483647)
theorem TK{n k:Int}:mP n k=true↔k<=n/\n<=2147483647:=by simp[mP]
def opB(o:Int):Bool:=decide (1<=o)&&decide (o<=5)
theorem jE{o:Int}:opB o=true↔1<=o/\o<=5:=by simp[opB]
def BE5(t:GI):Bool:=KD t.z&&mP t.s 1&&mP t.v 0&&mP t.w 0
theorem aG{t:GI}:BE5 t=true↔KD t.z=true/\mP t.s 1=true/\mP t.v 0=true/\mP t.w 0=true:=by simp[BE5,and_assoc]
def fmB(t:GI):Bool:=
 if t.o=3 then II t.p&& !(t.p==[47])&&t.v==0
 else if t.o=4 then II t.p&& !(t.p==[47])&&t.d==[]&&t.v==0&&t.w==0
 else if t.o=5 then II t.p&&t.w==0
 else t.p==[]&&t.d==[]&&t.v==0&&t.w==0
def gdE(t:GI):Int:=
 if opB t.o then(if BE5 t then(if t.d.length<=256 then(if fmB t then 0 else 2)else 1)else 3)else 4
theorem BF9{t:GI}(h:opB t.o=false):gdE t=4:=by simp[gdE,h]
theorem aH{t:GI}(h:opB t.o=true)(h1:BE5 t=false):gdE t=3:=by simp[gdE,h,h1]
theorem BG0{t:GI}(h:opB t.o=true)(h1:BE5 t=true)(h2:256<t.d.length):gdE t=1:=by
 simp[gdE,h,h1,show ¬t.d.length<=256 from by omega]
theorem BG1{t:GI}(h:opB t.o=true)(h1:BE5 t=true)(h2:t.d.length<=256)(h3:fmB t=false):gdE t=2:=by simp[gdE,h,h1,h2,h3]
theorem AT8{t:GI}(h:opB t.o=true)(h1:BE5 t=true)(h2:t.d.length<=256)(h3:fmB t=true):gdE t=0:=by simp[gdE,h,h1,h2,h3]
theorem iC{t:GI}(h:gdE t=0):opB t.o=true/\BE5 t=true/\t.d.length<=256/\fmB t=true:=by
 unfold gdE at h
 split at h
 .split at h
  .split at h
   .split at h
    .exact⟨‹_›,‹_›,‹_›,‹_›⟩
    .exact absurd h (by decide)
   .exact absurd h (by decide)
  .exact absurd h (by decide)
 .exact absurd h (by decide)
theorem zU{p:List UInt8}(h:II p=true):p.length<=200:=by
 unfold II at h;simp only[Bool.and_eq_true,decide_eq_true_eq]at h;exact h.1.1
theorem BW8{t:GI}(h:fmB t=true):t.p.length<=200:=by
 unfold fmB at h
 split at h
 .simp only[Bool.and_eq_true]at h;exact zU h.1.1
 .split at h
  .simp only[Bool.and_eq_true]at h;exact zU h.1.1.1.1
  .split at h
   .simp only[Bool.and_eq_true]at h;exact zU h.1
   .simp only[Bool.and_eq_true,beq_iff_eq]at h;rw[h.1.1.1];decide
theorem WO{t:GI}(h:gdE t=0):(0<=t.z/\t.z<4611686018427387904)/\(1<=t.o/\t.o<=5)/\(1<=t.s/\t.s<=2147483647)/\(0<=t.v/\t.v<=2147483647)/\(0<=t.w/\t.w<=2147483647)/\t.p.length<=200/\t.d.length<=256:=by
 obtain⟨h1,h2,h3,h4⟩:=iC h;obtain⟨a,b,c,d⟩:=aG.1 h2;exact⟨LZ.1 a,jE.1 h1,TK.1 b,TK.1 c,TK.1 d,BW8 h4,h3⟩
def QY(t:GI):List UInt8:=
 be 8 t.z.toNat++(be 1 t.o.toNat++(be 4 t.s.toNat++(be 4 t.v.toNat++(be 4 t.w.toNat++(be 1 t.p.length++(t.p++(be 2 t.d.length++t.d)))))))
def MS(b:List UInt8):List UInt8:=84::(be 2 b.length++b)
def QZ(t:GI):List UInt8:=MS (QY t)++be 4 (A84 (MS (QY t)))
theorem QN(t:GI):(QY t).length=24+t.p.length+t.d.length:=by
 simp only[QY,List.length_append,IJ];omega
theorem V6(b:List UInt8):(MS b).length=b.length+3:=by
 simp only[MS,List.length_cons,List.length_append,IJ];omega
theorem V7(t:GI):(QZ t).length=31+t.p.length+t.d.length:=by
 simp only[QZ,List.length_append,IJ,V6,QN];omega
def YG(b:List UInt8):Nat:=un ((b.drop 21).take 1)
def zI(b:List UInt8):Nat:=un ((b.drop (22+YG b)).take 2)
def tOf(b:List UInt8):GI:=
 ⟨wrap64 (un (b.take 8)),un ((b.drop 8).take 1),un ((b.drop 9).take 4),(b.drop 22).take (YG b),b.drop (24+YG b),un ((b.drop 13).take 4),un ((b.drop 17).take 4)⟩
def BE6(b:List UInt8):Bool:=decide (24+YG b<=b.length)&&decide (b.length=24+YG b+zI b)
def uF(b:List UInt8):Int:=if BE6 b then gdE (tOf b)else 2
def AT9(b:List UInt8):GI:=if uF b=0 then tOf b else t0
def lenOf(s:List UInt8):Nat:=un ((s.drop 1).take 2)
def WQ(s:List UInt8):Bool:=s.take 1==[84]&&decide (lenOf s<=1024)&&decide (lenOf s+7<=s.length)
def AU0(s:List UInt8):Bool:=un ((s.drop (lenOf s+3)).take 4)==A84 (s.take (lenOf s+3))
def V9(s:List UInt8):List UInt8:=(s.drop 3).take (lenOf s)
def dP(s:List UInt8):Int:=if WQ s then(if AU0 s then uF (V9 s)else 5)else 2
def nS(s:List UInt8):GI:=if dP s=0 then tOf (V9 s)else t0
def uG(s:List UInt8):Int:=if dP s=0 then(lenOf s+7:Nat)else 0
theorem dQ{s:List UInt8}(h:WQ s=false):dP s=2/\nS s=t0/\uG s=0:=by
 have e:dP s=2:=by simp[dP,h]
 exact⟨e,by simp[nS,e],by simp[uG,e]⟩
theorem C15{s:List UInt8}(h:WQ s=true)(h1:AU0 s=false):dP s=5/\nS s=t0/\uG s=0:=by
 have e:dP s=5:=by simp[dP,h,h1]
 exact⟨e,by simp[nS,e],by simp[uG,e]⟩
theorem BG2{s:List UInt8}(h:WQ s=true)(h1:AU0 s=true){e:Int}(h2:uF (V9 s)=e)(h3:e≠0):dP s=e/\nS s=t0/\uG s=0:=by
 have e:dP s=e:=by simp[dP,h,h1,h2]
 exact⟨e,by rw[nS,e,if_neg h3],by rw[uG,e,if_neg h3]⟩
theorem BW9{s:List UInt8}(h:WQ s=true)(h1:AU0 s=true)(h2:uF (V9 s)=0):dP s=0/\nS s=tOf (V9 s)/\uG s=(lenOf s+7:Nat):=by
 have e:dP s=0:=by simp[dP,h,h1,h2]
 exact⟨e,by rw[nS,e,if_pos rfl],by rw[uG,e,if_pos rfl]⟩
theorem C16{b:List UInt8}(h:BE6 b=false):uF b=2/\AT9 b=t0:=by
 have e:uF b=2:=by simp[uF,h]
 exact⟨e,by simp[AT9,e]⟩
theorem CG8{b:List UInt8}(h:BE6 b=true)(h1:gdE (tOf b)≠0):uF b=gdE (tOf b)/\AT9 b=t0:=by
 have e:uF b=gdE (tOf b):=by simp[uF,h]
 exact⟨e,by rw[AT9,e,if_neg h1]⟩
theorem CG9{b:List UInt8}(h:BE6 b=true)(h1:gdE (tOf b)=0):uF b=0/\AT9 b=tOf b:=by
 have e:uF b=0:=by simp[uF,h,h1]
 exact⟨e,by rw[AT9,e,if_pos rfl]⟩
theorem dR{s:List UInt8}:WQ s=true↔s.take 1=[84]/\lenOf s<=1024/\lenOf s+7<=s.length:=by
 simp[WQ,and_assoc]
theorem aI{s:List UInt8}(h:¬ (s.take 1=[84]/\lenOf s<=1024/\lenOf s+7<=s.length)):WQ s=false:=by
 cases hw:WQ s with
 |false=>rfl
 |true=>exact absurd (dR.1 hw) h
theorem aJ{b:List UInt8}:BE6 b=true↔24+YG b<=b.length/\b.length=24+YG b+zI b:=by simp[BE6]
theorem A85{s:List UInt8}:AU0 s=true↔un ((s.drop (lenOf s+3)).take 4)=A84 (s.take (lenOf s+3)):=by simp[AU0]
theorem uU{a b:List UInt8}{k:Nat}(h:a.length=k):(a++b).take k=a/\(a++b).drop k=b:=by
 subst h;simp
theorem P9{l a b:List UInt8}{j k:Nat}(h:l.drop j=a++b)(hk:a.length=k):l.drop (j+k)=b:=by
 rw[<-List.drop_drop,h];exact(uU hk).2
theorem ND{l a b:List UInt8}{j k:Nat}(h:l.drop j=a++b)(hk:a.length=k):(l.drop j).take k=a:=by
 rw[h];exact(uU hk).1
theorem CH0{n:Int}(h:0<=n)(h1:n<9223372036854775808):wrap64 n=n:=by unfold wrap64;omega
theorem BX0{t:GI}(h:gdE t=0):BE6 (QY t)=true/\tOf (QY t)=t:=by
 obtain⟨hz,ho,hs,hv,hw,hp,hd⟩:=WO h;have e0:(QY t).drop 0=be 8 t.z.toNat++_:=rfl;have e1:=P9 e0 (IJ 8 _);have e2:=P9 e1 (IJ 1 _);have e3:=P9 e2 (IJ 4 _);have e4:=P9 e3 (IJ 4 _);have e5:=P9 e4 (IJ 4 _);have e6:=P9 e5 (IJ 1 _);have e7:=P9 e6 (rfl:t.p.length=t.p.length);have e8:=P9 e7 (IJ 2 _);have g0:=ND e0 (IJ 8 _);have g1:=ND e1 (IJ 1 _);have g2:=ND e2 (IJ 4 _);have g3:=ND e3 (IJ 4 _);have g4:=ND e4 (IJ 4 _);have g5:=ND e5 (IJ 1 _);have g6:=ND e6 (rfl:t.p.length=t.p.length);have g7:=ND e7 (IJ 2 _);simp only[Nat.zero_add,Nat.reduceAdd,List.drop_zero]at e1 e2 e3 e4 e5 e6 e7 e8 g0 g1 g2 g3 g4 g5 g6 g7;have hpl:YG (QY t)=t.p.length:=by rw[YG,g5];exact jD 1 _ (by omega)
 have hdl:zI (QY t)=t.d.length:=by rw[zI,hpl,g7];exact jD 2 _ (by omega)
 refine⟨aJ.2 ?_,?_⟩
 .rw[hpl,hdl,QN];omega
 .rw[tOf,hpl,g0,g1,g2,g3,g4,g6,show 24+t.p.length=22+t.p.length+2 from by omega,e8];rw[jD 8 _ (by omega),jD 1 _ (by omega),jD 4 _ (by omega),jD 4 _ (by omega),jD 4 _ (by omega),CH0 (by omega) (by omega)];simp only[Int.toNat_of_nonneg hz.1,Int.toNat_of_nonneg hv.1,Int.toNat_of_nonneg hw.1,Int.toNat_of_nonneg (show 0<=t.o by omega),Int.toNat_of_nonneg (show 0<=t.s by omega)]
theorem BG3{t:GI}(h:gdE t=0):uF (QY t)=0:=by
 obtain⟨h1,h2⟩:=BX0 h;rw[uF,h1,h2,h];rfl
theorem AU1{b m more:List UInt8}(hb:b.length<=1024)(hm:m.length=4):
  WQ (MS b++(m++more))=true/\lenOf (MS b++(m++more))=b.length/\V9 (MS b++(m++more))=b/\
  AU0 (MS b++(m++more))=(un m==A84 (MS b)):=by
 have e0:(MS b++(m++more)).drop 1=be 2 b.length++(b++(m++more)):=by simp[MS]
 have g0:=ND e0 (IJ 2 _);have e1:=P9 e0 (IJ 2 _);have g1:=ND e1 (rfl:b.length=b.length);have hl:lenOf (MS b++(m++more))=b.length:=by rw[lenOf,g0];exact jD 2 _ (by omega)
 have hf:(MS b).length=b.length+3:=V6 b;refine⟨dR.2 ⟨by simp[MS],by omega,?_⟩,hl,?_,?_⟩
 .rw[hl,List.length_append,List.length_append,hf];omega
 .rw[V9,hl];exact g1
 .rw[AU0,hl,(uU hf).1,(uU hf).2,(uU hm).1]
theorem AU2(t:GI)(more:List UInt8):QZ t++more=MS (QY t)++(be 4 (A84 (MS (QY t)))++more):=by rw[QZ,List.append_assoc]
theorem dS{t:GI}(h:gdE t=0):(QY t).length<=1024:=by
 obtain⟨_,_,_,_,_,hp,hd⟩:=WO h;rw[QN];omega
theorem C17{t:GI}(h:gdE t=0)(more:List UInt8):dP (QZ t++more)=0/\nS (QZ t++more)=t/\uG (QZ t++more)=(QZ t).length:=by
 rw[AU2];obtain⟨h1,h2,h3,h4⟩:=AU1 (b:=QY t) (m:=be 4 (A84 (MS (QY t)))) (more:=more) (dS h) (IJ 4 _);have hs:un (be 4 (A84 (MS (QY t))))=A84 (MS (QY t)):=jD 4 _ (by have:=AT6 (MS (QY t));omega);rw[hs,beq_self_eq_true]at h4;obtain⟨a,b,c⟩:=BW9 h1 h4 (by rw[h3];exact BG3 h);refine⟨a,?_,?_⟩
 .rw[b,h3];exact(BX0 h).2
 .rw[c,h2,QN,V7];omega
theorem C18{t:GI}(h:gdE t=0){k:Nat}(hk:k<(QZ t).length):dP ((QZ t).take k)=2/\uG ((QZ t).take k)=0:=by
 have hw:WQ ((QZ t).take k)=false:=aI (by
  rintro⟨h1,h2,h3⟩;rw[List.length_take]at h3;have e0:(QZ t).drop 1=be 2 (QY t).length++(QY t++be 4 (A84 (MS (QY t)))):=by simp[QZ,MS]
  have g0:=ND e0 (IJ 2 _);have hl:lenOf ((QZ t).take k)=(QY t).length:=by
   rw[lenOf,List.drop_take,List.take_take,show min 2 (k-1)=2 from by omega,g0];exact jD 2 _ (by have:=dS h;omega)
  rw[hl,QN]at h3;rw[V7]at hk;omega)
 exact⟨(dQ hw).1,(dQ hw).2.2⟩
def IC:List GI->List UInt8
 |[]=>[]
 |t::l=>QZ t++IC l
theorem LK:∀a b,IC (a++b)=IC a++IC b
 |[],_=>rfl
 |t::a,b=>by rw[List.cons_append,IC,IC,LK a b,List.append_assoc]
theorem PZ(a:List GI)(t:GI):IC (a++[t])=IC a++QZ t:=by rw[LK,IC,IC,List.append_nil]
def J4(l:List GI):Int:=l.foldl (fun _ t=>t.z) 0
theorem SA(l:List GI)(t:GI):J4 (l++[t])=t.z:=by simp[J4]
theorem WR:J4 []=0:=rfl
def jF(l:List GI)(t:GI):Bool:=decide (l.length=0)||decide (J4 l<t.z)
theorem nT{l:List GI}{t:GI}(h:l.length≠0):jF l t=decide (J4 l<t.z):=by simp[jF,h]
theorem AU3{l:List GI}(h:l.length≠0):∃m x,l=m++[x]:=by
 rcases List.eq_nil_or_concat l with rfl|⟨m,x,rfl⟩
 .exact absurd rfl h
 .exact⟨m,x,List.concat_eq_append⟩
structure Logs(ts:List GI):Prop where
 good:∀t∈ts,gdE t=0
 rise:ts.Pairwise fun a b=>a.z<b.z
theorem Logs.nil:Logs []:=⟨by simp,List.Pairwise.nil⟩
theorem Logs.le_last{ts:List GI}(h:Logs ts){a:GI}(ha:a∈ts):a.z<=J4 ts:=by
 rcases List.eq_nil_or_concat ts with rfl|⟨m,x,e⟩
 .simp at ha
 .rw[List.concat_eq_append]at e;subst e;rw[SA];rcases List.mem_append.1 ha with h1|h1
  .have:=(List.pairwise_append.1 h.rise).2.2 a h1 x (by simp);omega
  .simp at h1;subst h1;omega
theorem Logs.left{a b:List GI}(h:Logs (a++b)):Logs a:=⟨fun t ht=>h.good t (by simp[ht]),(List.pairwise_append.1 h.rise).1⟩
theorem Logs.at{a b:List GI}{t:GI}(h:Logs (a++t::b)):gdE t=0/\jF a t=true:=by
 refine⟨h.good t (by simp),?_⟩;by_cases h0:a.length=0
 .simp[jF,h0]
 .rw[nT h0];obtain⟨m,x,rfl⟩:=AU3 h0;rw[SA];exact decide_eq_true ((List.pairwise_append.1 h.rise).2.2 x (by simp) t (by simp))
structure Scan(s:List UInt8)(ts:List GI)(r:List UInt8):Prop where
 eq:s=IC ts++r
 log:Logs ts
 stop:dP r≠0\/jF ts (nS r)=false
theorem C19:dP []≠0:=by rw[(dQ (s:=[]) (by decide)).1];decide
theorem uV{ts:List GI}(h:Logs ts):Scan (IC ts) ts []:=⟨by simp,h,.inl C19⟩
theorem AU4{ts:List GI}{t:GI}(h:Logs ts)(hg:gdE t=0){k:Nat}(hk:k<(QZ t).length):Scan (IC ts++(QZ t).take k) ts ((QZ t).take k):=
 ⟨rfl,h,.inl (by rw[(C18 hg hk).1];decide)⟩
theorem Scan.len{s r:List UInt8}{ts:List GI}(h:Scan s ts r):(IC ts).length+r.length=s.length:=by rw[h.eq,List.length_append]
theorem qN:∀ts:List GI,ts.length*31<=(IC ts).length
 |[]=>by simp[IC]
 |t::l=>by
  have:=qN l;rw[IC,List.length_append,V7,List.length_cons];omega
theorem jG{t:GI}(h:gdE t=0):(QZ t).length<=487:=by
 obtain⟨_,_,_,_,_,hp,hd⟩:=WO h;rw[V7];omega
theorem A86:∀ts:List GI,(∀t∈ts,gdE t=0)->(IC ts).length<=ts.length*487
 |[],_=>by simp[IC]
 |t::l,h=>by
  have h1:=A86 l (fun x hx=>h x (by simp[hx]));have h2:=jG (h t (by simp));rw[IC,List.length_append,List.length_cons];omega
theorem Q8{ts:List GI}{k:Nat}{t:GI}(h:ts[k]?=some t):ts.take (k+1)=ts.take k++[t]:=by
 obtain⟨hk,rfl⟩:=List.getElem?_eq_some_iff.1 h;exact List.take_succ_eq_append_getElem hk
abbrev bl(a b:List UInt8):Bool:=Op.bytesLess a b
theorem O9:∀a,bl a a=false
 |[]=>rfl
 |x::a=>by
  have h:¬x<x:=UInt8.lt_irrefl x;have:=O9 a;simp only[bl]at this;simp[bl,Op.bytesLess,h,this]
theorem QH:∀a b c,bl a b=true->bl b c=true->bl a c=true
 |[],_,[],_,h=>by cases ‹List UInt8› <;>simp[bl,Op.bytesLess]at h
 |[],_,_::_,_,_=>by simp[bl,Op.bytesLess]
 |_::_,[],_,h,_=>by simp[bl,Op.bytesLess]at h
 |_::_,_::_,[],_,h=>by simp[bl,Op.bytesLess]at h
 |x::a,y::b,z::c,h1,h2=>by
  have ih:=QH a b c;simp only[bl,Op.bytesLess,Bool.or_eq_true,Bool.and_eq_true,decide_eq_true_eq,beq_iff_eq]at h1 h2 ih⊢;rcases h1 with h1|⟨h1,h1'⟩<;>rcases h2 with h2|⟨h2,h2'⟩
  .exact .inl (UInt8.lt_trans h1 h2)
  .subst h2;exact .inl h1
  .subst h1;exact .inl h2
  .subst h1 h2;exact .inr ⟨rfl,ih h1' h2'⟩
theorem TL:∀a b,bl a b=false->bl b a=false->a=b
 |[],[],_,_=>rfl
 |[],_::_,h,_=>by simp[bl,Op.bytesLess]at h
 |_::_,[],_,h=>by simp[bl,Op.bytesLess]at h
 |x::a,y::b,h1,h2=>by
  have ih:=TL a b;simp only[bl,Op.bytesLess,Bool.or_eq_false_iff,Bool.and_eq_false_iff,decide_eq_false_iff_not,beq_eq_false_iff_ne]at h1 h2 ih;have e:x=y:=UInt8.le_antisymm (UInt8.not_lt.1 h2.1) (UInt8.not_lt.1 h1.1);subst e;rw[ih (h1.2.elim (fun h=>absurd rfl h) id) (h2.2.elim (fun h=>absurd rfl h) id)]
theorem OD{a b:List UInt8}(h:bl a b=true):bl b a=false:=by
 cases h':bl b a with
 |false=>rfl
 |true=>have:=QH a b a h h';rw[O9]at this;cases this
theorem WS{a b:List UInt8}(h:bl a b=true):a≠b:=by rintro rfl;rw[O9]at h;cases h
theorem A90:∀a b,decide (Lib.compareBytes a b<0)=bl a b
 |[],[]=>by simp[bl,Op.bytesLess,Lib.compareBytes]
 |[],_::_=>by simp[bl,Op.bytesLess,Lib.compareBytes]
 |_::_,[]=>by simp[bl,Op.bytesLess,Lib.compareBytes]
 |x::a,y::b=>by
  have ih:=A90 a b;simp only[bl]at ih;simp only[bl,Op.bytesLess,Lib.compareBytes];by_cases h1:x<y
  .simp[h1]
  .by_cases h2:y<x
   .have:x≠y:=by rintro rfl;exact h1 h2
    simp[h1,h2,this]
   .have:x=y:=UInt8.le_antisymm (UInt8.not_lt.1 h2) (UInt8.not_lt.1 h1);subst this;simp[h1,<-ih]
theorem iD:∀a b,decide (Lib.compareBytes a b=0)=decide (a=b)
 |[],[]=>by simp[Lib.compareBytes]
 |[],_::_=>by simp[Lib.compareBytes]
 |_::_,[]=>by simp[Lib.compareBytes]
 |x::a,y::b=>by
  have ih:=iD a b;simp only[Lib.compareBytes];by_cases h1:x<y
  .have:x≠y:=by rintro rfl;exact UInt8.lt_irrefl x h1
   simp[h1,this]
  .by_cases h2:y<x
   .have:x≠y:=by rintro rfl;exact h1 h2
    simp[h1,h2,this]
   .have:x=y:=UInt8.le_antisymm (UInt8.not_lt.1 h2) (UInt8.not_lt.1 h1);subst this;simp[h1,ih]
structure DF where
 n:List UInt8
 s:List UInt8
 t:List UInt8
instance:Inhabited DF:=⟨⟨[],[],[]⟩⟩
def QO(f:DF):Bool:=IZ f.n&&decide (f.s.length+f.t.length<=1048576)
def Asc(fs:List DF):Prop:=fs.Pairwise fun a b=>bl a.n b.n=true
structure LW(fs:List DF):Prop where
 few:fs.length<=16
 ok:∀f∈fs,QO f=true
 asc:Asc fs
noncomputable def VB(fs:List DF):Bool:= @decide (LW fs) (Classical.propDecidable _)
theorem MW{fs:List DF}:VB fs=true↔LW fs:=by unfold VB;exact @decide_eq_true_iff _ (Classical.propDecidable _)
theorem ZI{fs:List DF}:VB fs=false↔¬LW fs:=by unfold VB;exact @decide_eq_false_iff_not _ (Classical.propDecidable _)
def C20(fs:List DF)(k:Nat):Prop:=∀i,i<k->∀f,fs[i]?=some f->QO f=true/\∀g,0<i->fs[i-1]?=some g->bl g.n f.n=true
theorem AU8(fs:List DF):C20 fs 0:=fun _ h=>absurd h (Nat.not_lt_zero _)
theorem AU9{fs:List DF}{k:Nat}(h:C20 fs k){f:DF}(hf:fs[k]?=some f)(h1:QO f=true)(h2:∀g,0<k->fs[k-1]?=some g->bl g.n f.n=true):C20 fs (k+1):=by
 intro i hi f' hf';by_cases e:i=k
 .subst e;rw[hf]at hf'
  cases hf'
  exact⟨h1,h2⟩
 .exact h i (by omega) f' hf'
theorem zV{fs:List DF}(h:C20 fs fs.length):Asc fs:=by
 have step:∀j i,(hij:i<j)->∀ (hj:j<fs.length),bl (fs[i]'(Nat.lt_trans hij hj)).n fs[j].n=true:=by
  intro j
  induction j with
  |zero=>intro i hi;omega
  |succ j ih=>
   intro i hi hj;have h1:=(h (j+1) hj _ (List.getElem?_eq_getElem hj)).2 fs[j] (by omega) (by simp);by_cases e:i=j
   .subst e;exact h1
   .exact QH _ _ _ (ih i (by omega) (by omega)) h1
 exact List.pairwise_iff_getElem.2 fun i j hi hj hij=>step j i hij hj
theorem uX{fs:List DF}(hl:fs.length<=16)(h:C20 fs fs.length):VB fs=true:=
 MW.2 ⟨hl,fun f hf=>by
  obtain⟨i,hi,rfl⟩:=List.getElem_of_mem hf;exact(h i hi _ (List.getElem?_eq_getElem hi)).1,zV h⟩
theorem C21{fs:List DF}(h:16<fs.length):VB fs=false:=ZI.2 fun g=>by have:=g.few;omega
theorem BG8{fs:List DF}{k:Nat}{f:DF}(hf:fs[k]?=some f)(h:QO f=false):VB fs=false:=
 ZI.2 fun g=>by rw[g.ok f (List.mem_of_getElem? hf)]at h;cases h
theorem AV0{fs:List DF}{k:Nat}{f g:DF}(hf:fs[k]?=some f)(hg:fs[k-1]?=some g)(h0:0<k)(h:bl g.n f.n=false):VB fs=false:=
 ZI.2 fun G=>by
  obtain⟨hk,rfl⟩:=List.getElem?_eq_some_iff.1 hf;obtain⟨hk',rfl⟩:=List.getElem?_eq_some_iff.1 hg;rw[List.pairwise_iff_getElem.1 G.asc (k-1) k hk' hk (by omega)]at h
  cases h
structure There(fs A:List DF)(f:DF)(B:List DF)(name:List UInt8):Prop where
 eq:fs=A++f::B
 nm:f.n=name
 lo:∀a∈A,bl a.n name=true
 hi:∀b∈B,bl name b.n=true
structure Gap(fs A B:List DF)(name:List UInt8):Prop where
 eq:fs=A++B
 lo:∀a∈A,bl a.n name=true
 hi:∀b∈B,bl name b.n=true
theorem A91(name:List UInt8):∀fs:List DF,Asc fs->(∃A f B,There fs A f B name)\/∃A B,Gap fs A B name
 |[],_=>.inr ⟨[],[],rfl,by simp,by simp⟩
 |x::r,h=>by
  obtain⟨hx,hr⟩:=List.pairwise_cons.1 h
  cases h1:bl x.n name with
  |true=>
   rcases A91 name r hr with⟨A,f,B,T⟩|⟨A,B,G⟩
   .exact .inl ⟨x::A,f,B,by rw[T.eq];rfl,T.nm,by simp[h1];exact T.lo,T.hi⟩
   .exact .inr ⟨x::A,B,by rw[G.eq];rfl,by simp[h1];exact G.lo,G.hi⟩
  |false=>
   cases h2:bl name x.n with
   |true=>exact .inr ⟨[],x::r,rfl,by simp,by simp[h2];exact fun b hb=>QH _ _ _ h2 (hx b hb)⟩
   |false=>
    have e:=TL _ _ h1 h2;exact .inl ⟨[],x,r,rfl,e,by simp,fun b hb=>by rw[<-e];exact hx b hb⟩
theorem There.ok{fs A B:List DF}{f:DF}{name:List UInt8}(T:There fs A f B name)(g:LW fs):QO f=true:=g.ok f (by rw[T.eq];simp)
theorem NQ{f:DF}(h:QO f=true):f.s.length+f.t.length<=1048576:=by simp[QO]at h;exact h.2
theorem WT{f:DF}(h:QO f=true):IZ f.n=true:=by simp[QO]at h;exact h.1
end Go.Proofs.YthcncjimjclfpaaGreatDoor
namespace Go.Proofs.YthcncjimjclfpaaGreatDoor
structure Ev where
 k:Int
 p:List UInt8
end Go.Proofs.YthcncjimjclfpaaGreatDoor
namespace Go.Proofs.YthcncjimjclfpaaGreatDoor
open Go.RowKit
def JB(f:DF):List Value:=[S0 f.n,S0 f.s,S0 f.t]
def BI7(f:DF):Value:=.agg #[S0 f.n,S0 f.s,S0 f.t]
def H7:List DF->List Value
 |[]=>[]
 |f::r=>JB f++H7 r
theorem GY:∀fs:List DF,(H7 fs).length=fs.length*3
 |[]=>rfl
 |f::r=>by rw[H7,List.length_append,GY r];simp[JB];omega
theorem JM:∀a b:List DF,H7 (a++b)=H7 a++H7 b
 |[],_=>rfl
 |f::r,b=>by rw[List.cons_append,H7,H7,JM r b,List.append_assoc]
theorem YM:∀ (fs:List DF) (i:Nat) (f:DF),fs[i]?=some f->∀c,c<3->(H7 fs)[i*3+c]?=(JB f)[c]?
 |[],i,f,h,_,_=>by simp at h
 |x::r,0,f,h,c,hc=>by
  simp at h;subst h;rw[H7,List.getElem?_append_left (by simp[JB];omega)];simp
 |x::r,i+1,f,h,c,hc=>by
  rw[H7,List.getElem?_append_right (by simp[JB];omega),<-YM r i f (by simpa using h) c hc]
  congr 1
  simp[JB];omega
theorem YN(fs:List DF):∀u∈H7 fs,u.oneCell'=true:=by
 induction fs with
 |nil=>simp[H7]
 |cons f r ih=>
  intro u hu;rcases List.mem_append.1 hu with h|h
  .simp[JB]at h;rcases h with rfl|rfl|rfl<;>rfl
  .exact ih u h
theorem oD:∀ (fs:List DF) (i:Nat) (f g:DF),fs[i]?=some f->∀c v,c<3->(JB g)=(JB f).set c v->(H7 fs).set (i*3+c) v=H7 (fs.set i g)
 |[],i,f,g,h,_,_,_,_=>by simp at h
 |x::r,0,f,g,h,c,v,hc,hg=>by
  simp at h;subst h;rw[H7,List.set_cons_zero,H7,hg,List.set_append_left _ _ (by simp[JB];omega)];simp
 |x::r,i+1,f,g,h,c,v,hc,hg=>by
  rw[H7,List.set_cons_succ,H7,List.set_append_right _ _ (by simp[JB];omega),<-oD r i f g (by simpa using h) c v hc hg]
  congr 2
  simp[JB];omega
def IE(w:World)(b off:Nat)(cs:List Value):Prop:=∀j v,cs[j]?=some v->w.cell? ⟨b,off+j,none⟩=some v
theorem IE.c0{w:World}{b off:Nat}{fs:List DF}(h:IE w b off (H7 fs)){i:Nat}{f:DF}(hi:fs[i]?=some f):w.cell? ⟨b,off+i*3,none⟩=some (S0 f.n):=
 h (i*3) _ (by have:=YM fs i f hi 0 (by omega);simpa [JB]using this)
theorem IE.c1{w:World}{b off:Nat}{fs:List DF}(h:IE w b off (H7 fs)){i:Nat}{f:DF}(hi:fs[i]?=some f):w.cell? ⟨b,off+i*3+1,none⟩=some (S0 f.s):=by
 rw[Nat.add_assoc];exact h (i*3+1) _ (by have:=YM fs i f hi 1 (by omega);simpa [JB]using this)
theorem IE.c2{w:World}{b off:Nat}{fs:List DF}(h:IE w b off (H7 fs)){i:Nat}{f:DF}(hi:fs[i]?=some f):w.cell? ⟨b,off+i*3+2,none⟩=some (S0 f.t):=by
 rw[Nat.add_assoc];exact h (i*3+2) _ (by have:=YM fs i f hi 2 (by omega);simpa [JB]using this)
theorem IE.kept{w w':World}{b off B:Nat}{cs:List Value}(h:IE w b off cs)(hb:Below B w w')(hB:b<B):IE w' b off cs:=
 fun j v hj=>by rw[hb.cell (p:=⟨b,off+j,none⟩) hB];exact h j v hj
def IQ(w:World)(v:Value)(fs:List DF):Prop:=
 (∃a cap,v=.slice a 0 cap/\fs=[]/\cap<=maxLen)\/
 ∃b off cap,v=.slice (some ⟨b,off,none⟩) fs.length cap/\fs.length<=cap/\cap<=maxLen/\b<w.heap.size/\fs≠[]/\IE w b off (H7 fs)
theorem IQ.kept{w w':World}{B:Nat}{v:Value}{fs:List DF}(h:IQ w v fs)(hb:Below B w w')(hB:w.heap.size<=B):IQ w' v fs:=by
 rcases h with h|⟨b,off,cap,rfl,h1,h2,h3,h0,h4⟩
 .exact .inl h
 .exact .inr ⟨b,off,cap,rfl,h1,h2,Nat.lt_of_lt_of_le h3 hb.size,h0,h4.kept hb (Nat.lt_of_lt_of_le h3 hB)⟩
theorem IQ.next{w w':World}{v:Value}{fs:List DF}(h:IQ w v fs)(hb:B0 w w'):IQ w' v fs:=h.kept hb (Nat.le_refl _)
theorem IQ.alloc{w:World}{v:Value}{fs:List DF}(h:IQ w v fs)(o:Obj):IQ (w.alloc o) v fs:=h.next ((Below.refl _ _).alloc (Nat.le_refl _) o)
theorem IQ.drew{w:World}{v:Value}{fs:List DF}(h:IQ w v fs):IQ w.drew v fs:=h.next (Below.refl _ _).drew
theorem IQ.nil(w:World):IQ w (N0) []:=.inl ⟨none,0,rfl,rfl,by decide⟩
def Own(W:World)(g cap:Nat)(fs:List DF):Prop:=∃rest:List Value,W.heap[g]?=some (.cells (H7 fs++rest).toArray 90 (0,0))/\fs.length*3+rest.length=cap*3/\cap<=maxLen
theorem Own.lt{W:World}{g cap:Nat}{fs:List DF}(h:Own W g cap fs):g<W.heap.size:=by
 obtain⟨rest,h1,_⟩:=h;exact(Array.getElem?_eq_some_iff.1 h1).1
theorem Own.le{W:World}{g cap:Nat}{fs:List DF}(h:Own W g cap fs):fs.length<=cap:=by obtain⟨rest,_,h2,_⟩:=h;omega
theorem Own.capLe{W:World}{g cap:Nat}{fs:List DF}(h:Own W g cap fs):cap<=maxLen:=by obtain⟨rest,_,_,h3⟩:=h;exact h3
theorem Own.row{W:World}{g cap:Nat}{fs:List DF}(h:Own W g cap fs):IE W g 0 (H7 fs):=by
 obtain⟨rest,h1,_⟩:=h;intro j v hj;have hlt:j<(H7 fs).length:=(List.getElem?_eq_some_iff.1 hj).1;simp[World.cell?,h1,List.getElem?_append_left hlt,hj]
theorem Own.frozen{W:World}{g cap:Nat}{fs:List DF}(h:Own W g cap fs)(j:Nat):W.frozen? ⟨g,j,none⟩=false:=by
 obtain⟨rest,h1,_⟩:=h;simp[World.frozen?,h1]
theorem Own.c0{W:World}{g cap:Nat}{fs:List DF}(h:Own W g cap fs){i:Nat}{f:DF}(hi:fs[i]?=some f):W.cell? ⟨g,i*3,none⟩=some (S0 f.n):=by simpa using h.row.c0 hi
theorem Own.c1{W:World}{g cap:Nat}{fs:List DF}(h:Own W g cap fs){i:Nat}{f:DF}(hi:fs[i]?=some f):W.cell? ⟨g,i*3+1,none⟩=some (S0 f.s):=by simpa using h.row.c1 hi
theorem Own.c2{W:World}{g cap:Nat}{fs:List DF}(h:Own W g cap fs){i:Nat}{f:DF}(hi:fs[i]?=some f):W.cell? ⟨g,i*3+2,none⟩=some (S0 f.t):=by simpa using h.row.c2 hi
theorem Own.kept{W V:World}{g B cap:Nat}{fs:List DF}(h:Own W g cap fs)(hb:Below B W V)(hg:g<B):Own V g cap fs:=by
 obtain⟨rest,h1,h2⟩:=h;exact⟨rest,(hb.block _ hg).trans h1,h2⟩
theorem Own.next{W V:World}{g cap:Nat}{fs:List DF}(h:Own W g cap fs)(hb:B0 W V):Own V g cap fs:=h.kept hb h.lt
theorem Own.alloc{W:World}{g cap:Nat}{fs:List DF}(h:Own W g cap fs)(o:Obj):Own (W.alloc o) g cap fs:=h.next ((Below.refl _ _).alloc (Nat.le_refl _) o)
theorem Own.drew{W:World}{g cap:Nat}{fs:List DF}(h:Own W g cap fs):Own W.drew g cap fs:=h
theorem Own.other{W:World}{g cap:Nat}{fs:List DF}(h:Own W g cap fs){a:Addr}(ha:g≠a.block)(v:Value):Own (W.setCell a v) g cap fs:=by
 obtain⟨rest,h1,h2⟩:=h;exact⟨rest,(Below.heap_setCell W a v g ha).trans h1,h2⟩
theorem GL{w:World}{g j:Nat}{cur:Array Value}{t:TypeId}{fz:Nat×Nat}(v:Value)(h:w.heap[g]?=some (.cells cur t fz)):
  (w.setCell ⟨g,j,none⟩ v).heap[g]?=some (.cells (cur.setIfInBounds j v) t fz):=by
 obtain⟨hlt,hk⟩:=Array.getElem?_eq_some_iff.1 h;show (w.heap.modify g _)[g]?=_;rw[Array.getElem?_eq_getElem (by rw[Array.size_modify];exact hlt),Array.getElem_modify_self,hk];rfl
theorem Own.set{W:World}{g cap:Nat}{fs:List DF}(h:Own W g cap fs){i:Nat}{f f':DF}(hi:fs[i]?=some f){c:Nat}(hc:c<3){v:Value}(hf:JB f'=(JB f).set c v):Own (W.setCell ⟨g,i*3+c,none⟩ v) g cap (fs.set i f'):=by
 obtain⟨rest,h1,h2,h3⟩:=h;refine⟨rest,?_,by simpa using h2,h3⟩;have hl:i<fs.length:=(List.getElem?_eq_some_iff.1 hi).1;rw[GL v h1,<-oD fs i f f' hi c v hc hf];simp[List.set_append_left _ _ (show i*3+c<(H7 fs).length by rw[GY];omega)]
theorem Own.s1{W:World}{g cap:Nat}{fs:List DF}(h:Own W g cap fs){i:Nat}{f:DF}(hi:fs[i]?=some f)(x:List UInt8):Own (W.setCell ⟨g,i*3+1,none⟩ (S0 x)) g cap (fs.set i ⟨f.n,x,f.t⟩):=h.set hi (c:=1) (by omega) rfl
theorem Own.s2{W:World}{g cap:Nat}{fs:List DF}(h:Own W g cap fs){i:Nat}{f:DF}(hi:fs[i]?=some f)(x:List UInt8):Own (W.setCell ⟨g,i*3+2,none⟩ (S0 x)) g cap (fs.set i ⟨f.n,f.s,x⟩):=h.set hi (c:=2) (by omega) rfl
def YO(W:World)(B:Nat)(v:Value)(fs:List DF):Prop:=(v=N0/\fs=[])\/∃g cap,v=.slice (some ⟨g,0,none⟩) fs.length cap/\B<=g/\Own W g cap fs
theorem YO.disk{W:World}{B:Nat}{v:Value}{fs:List DF}(h:YO W B v fs):IQ W v fs:=by
 rcases h with⟨rfl,rfl⟩|⟨g,cap,rfl,_,h⟩
 .exact IQ.nil W
 .by_cases h0:fs=[]
  .subst h0;exact .inl ⟨_,cap,rfl,rfl,h.capLe⟩
  .exact .inr ⟨g,0,cap,rfl,h.le,h.capLe,h.lt,h0,h.row⟩
theorem YO.next{W V:World}{B:Nat}{v:Value}{fs:List DF}(h:YO W B v fs)(hb:B0 W V):YO V B v fs:=by
 rcases h with h|⟨g,cap,rfl,hB,h⟩
 .exact .inl h
 .exact .inr ⟨g,cap,rfl,hB,h.next hb⟩
theorem YO.LD{W:World}{B:Nat}{v:Value}{fs:List DF}(h:W.ownsRow B 90 3 v fs.length (H7 fs)):YO W B v fs:=by
 obtain⟨_,⟨rfl,h0⟩|⟨g,cap,cur,rfl,hB,hg,hn,hm,hs,ht⟩⟩:=h
 .exact .inl ⟨rfl,List.eq_nil_of_length_eq_zero h0⟩
 .refine .inr ⟨g,cap,rfl,hB,cur.toList.drop (fs.length*3),?_,?_,hm⟩
  .rw[hg,<-ht,List.take_append_drop]
  .simp[hs];omega
theorem YO.row{W:World}{B:Nat}{v:Value}{fs:List DF}(h:YO W B v fs):W.ownsRow B 90 3 v fs.length (H7 fs):=by
 refine⟨GY fs,?_⟩;rcases h with⟨rfl,rfl⟩|⟨g,cap,rfl,hB,h⟩
 .exact .inl ⟨rfl,rfl⟩
 .have hle:=h.le;obtain⟨rest,h1,h2,h3⟩:=h;refine .inr ⟨g,cap,_,rfl,hB,h1,hle,h3,by simp[GY,h2],?_⟩;simp[<-GY fs]
class Lay (α:Type) where
 k:Nat
 cs:α->List Value
 ty:TypeId
 len:∀x,(cs x).length=k
 one:∀x,∀u∈cs x,u.oneCell'=true
def AY0(e:Ev):List Value:=[I0 e.k,S0 e.p]
def evV(e:Ev):Value:=.agg #[I0 e.k,S0 e.p]
instance layE:Lay Ev:=⟨2,AY0,246,fun _=>rfl,fun x u hu=>by simp[AY0]at hu;rcases hu with rfl|rfl<;>rfl⟩
instance layI:Lay Int:=⟨1,fun x=>[I0 x],3,fun _=>rfl,fun x u hu=>by simp at hu;subst hu;rfl⟩
instance layS:Lay (List UInt8):=⟨1,fun x=>[S0 x],9,fun _=>rfl,fun x u hu=>by simp at hu;subst hu;rfl⟩
section
variable {α:Type} [Lay α]
def G9(xs:List α):List Value:=xs.flatMap Lay.cs
theorem SE:G9 ([]:List α)=[]:=rfl
theorem JO(x:α)(r:List α):G9 (x::r)=Lay.cs x++G9 r:=by simp[G9]
theorem GX(xs:List α):(G9 xs).length=xs.length*Lay.k α:=by
 induction xs with
 |nil=>simp[G9]
 |cons x r ih=>rw[JO,List.length_append,Lay.len,ih,List.length_cons,Nat.add_mul];omega
theorem H8(a b:List α):G9 (a++b)=G9 a++G9 b:=by simp[G9]
theorem JE(a:List α)(x:α):G9 (a++[x])=G9 a++Lay.cs x:=by simp[G9]
theorem AY1(A:List α)(x:α)(B:List α)(c:Nat)(hc:c<Lay.k α):(G9 (A++x::B))[A.length*Lay.k α+c]?=(Lay.cs x)[c]? :=by
 rw[H8,List.getElem?_append_right (by rw[GX];omega),GX,Nat.add_sub_cancel_left,JO,List.getElem?_append_left (by rw[Lay.len];exact hc)]
theorem GV(xs:List α)(i:Nat)(x:α)(h:xs[i]?=some x)(c:Nat)(hc:c<Lay.k α):(G9 xs)[i*Lay.k α+c]?=(Lay.cs x)[c]? :=by
 obtain⟨hi,rfl⟩:=List.getElem?_eq_some_iff.1 h;have e:xs=xs.take i++xs[i]::xs.drop (i+1):=by simp
 have:=AY1 (xs.take i) xs[i] (xs.drop (i+1)) c hc;rw[<-e,List.length_take,Nat.min_eq_left (Nat.le_of_lt hi)]at this;exact this
theorem JL(xs:List α):∀u∈G9 xs,u.oneCell'=true:=by
 intro u hu;obtain⟨x,_,hx⟩:=List.mem_flatMap.1 hu;exact Lay.one x u hx
theorem AK5(A:List α)(x y:α)(B:List α)(c:Nat)(v:Value)(hc:c<Lay.k α)(hy:Lay.cs y=(Lay.cs x).set c v):(G9 (A++x::B)).set (A.length*Lay.k α+c) v=G9 (A++y::B):=by
 rw[H8,H8,List.set_append_right _ _ (by rw[GX];omega),GX,Nat.add_sub_cancel_left,JO,JO,List.set_append_left _ _ (by rw[Lay.len];exact hc),hy]
def IU(w:World)(v:Value)(xs:List α):Prop:=
 (∃a cap,v=.slice a 0 cap/\xs=[]/\cap<=maxLen)\/
 ∃b off cap,v=.slice (some ⟨b,off,none⟩) xs.length cap/\xs.length<=cap/\cap<=maxLen/\b<w.heap.size/\xs≠[]/\IE w b off (G9 xs)
theorem IU.kept{w w':World}{B:Nat}{v:Value}{xs:List α}(h:IU w v xs)(hb:Below B w w')(hB:w.heap.size<=B):IU w' v xs:=by
 rcases h with h|⟨b,off,cap,rfl,h1,h2,h3,h0,h4⟩
 .exact .inl h
 .exact .inr ⟨b,off,cap,rfl,h1,h2,Nat.lt_of_lt_of_le h3 hb.size,h0,h4.kept hb (Nat.lt_of_lt_of_le h3 hB)⟩
theorem IU.next{w w':World}{v:Value}{xs:List α}(h:IU w v xs)(hb:B0 w w'):IU w' v xs:=h.kept hb (Nat.le_refl _)
theorem IU.alloc{w:World}{v:Value}{xs:List α}(h:IU w v xs)(o:Obj):IU (w.alloc o) v xs:=h.next ((Below.refl _ _).alloc (Nat.le_refl _) o)
theorem IU.nil(w:World):IU w (N0) ([]:List α):=.inl ⟨none,0,rfl,rfl,by decide⟩
theorem GK{w:World}{v:Value}{xs:List α}(hv:IU w v xs):∃a c,v=.slice a xs.length c:=by
 rcases hv with⟨a,cap,rfl,rfl,_⟩|⟨b,off,cap,rfl,_⟩
 .exact⟨_,_,rfl⟩
 .exact⟨_,_,rfl⟩
theorem NZ{w:World}{v:Value}{xs:List α}(hv:IU w v xs)(h0:xs≠[]):
  ∃b off cap,v=.slice (some ⟨b,off,none⟩) xs.length cap/\b<w.heap.size/\IE w b off (G9 xs)/\xs.length<=cap/\cap<=maxLen:=by
 rcases hv with⟨a,cap,rfl,rfl,_⟩|⟨b,off,cap,rfl,h1,h2,hb,_,hr⟩
 .exact absurd rfl h0
 .exact⟨b,off,cap,rfl,hb,hr,h1,h2⟩
def J9(W:World)(g cap:Nat)(xs:List α):Prop:=∃rest:List Value,W.heap[g]?=some (.cells (G9 xs++rest).toArray (Lay.ty α) (0,0))/\xs.length*Lay.k α+rest.length=cap*Lay.k α/\xs.length<=cap/\cap<=maxLen
theorem J9.lt{W:World}{g cap:Nat}{xs:List α}(h:J9 W g cap xs):g<W.heap.size:=by
 obtain⟨rest,h1,_⟩:=h;exact(Array.getElem?_eq_some_iff.1 h1).1
theorem J9.le{W:World}{g cap:Nat}{xs:List α}(h:J9 W g cap xs):xs.length<=cap:=by obtain⟨rest,_,_,h2,_⟩:=h;exact h2
theorem J9.capLe{W:World}{g cap:Nat}{xs:List α}(h:J9 W g cap xs):cap<=maxLen:=by obtain⟨rest,_,_,_,h3⟩:=h;exact h3
theorem J9.row{W:World}{g cap:Nat}{xs:List α}(h:J9 W g cap xs):IE W g 0 (G9 xs):=by
 obtain⟨rest,h1,_⟩:=h;intro j v hj;have hlt:j<(G9 xs).length:=(List.getElem?_eq_some_iff.1 hj).1;simp[World.cell?,h1,List.getElem?_append_left hlt,hj]
theorem J9.frozen{W:World}{g cap:Nat}{xs:List α}(h:J9 W g cap xs)(j:Nat):W.frozen? ⟨g,j,none⟩=false:=by
 obtain⟨rest,h1,_⟩:=h;simp[World.frozen?,h1]
theorem J9.kept{W V:World}{g B cap:Nat}{xs:List α}(h:J9 W g cap xs)(hb:Below B W V)(hg:g<B):J9 V g cap xs:=by
 obtain⟨rest,h1,h2⟩:=h;exact⟨rest,(hb.block _ hg).trans h1,h2⟩
theorem J9.next{W V:World}{g cap:Nat}{xs:List α}(h:J9 W g cap xs)(hb:B0 W V):J9 V g cap xs:=h.kept hb h.lt
theorem J9.other{W:World}{g cap:Nat}{xs:List α}(h:J9 W g cap xs){a:Addr}(ha:g≠a.block)(v:Value):J9 (W.setCell a v) g cap xs:=by
 obtain⟨rest,h1,h2⟩:=h;exact⟨rest,(Below.heap_setCell W a v g ha).trans h1,h2⟩
theorem J9.set{W:World}{g cap:Nat}{A B:List α}{x y:α}(h:J9 W g cap (A++x::B)){c:Nat}(hc:c<Lay.k α){v:Value}(hy:Lay.cs y=(Lay.cs x).set c v):J9 (W.setCell ⟨g,A.length*Lay.k α+c,none⟩ v) g cap (A++y::B):=by
 obtain⟨rest,h1,h2,h3⟩:=h;refine⟨rest,?_,by simpa using h2,by simpa using h3⟩;rw[GL v h1,<-AK5 A x y B c v hc hy];have hlt:A.length*Lay.k α+c<(G9 (A++x::B)).length:=by
  rw[GX];simp[Nat.add_mul];omega
 simp[List.set_append_left _ _ hlt]
def GZ(W:World)(B:Nat)(v:Value)(xs:List α):Prop:=(v=N0/\xs=[])\/∃g cap,v=.slice (some ⟨g,0,none⟩) xs.length cap/\B<=g/\J9 W g cap xs
theorem GZ.seq{W:World}{B:Nat}{v:Value}{xs:List α}(h:GZ W B v xs):IU W v xs:=by
 rcases h with⟨rfl,rfl⟩|⟨g,cap,rfl,_,h⟩
 .exact IU.nil W
 .by_cases h0:xs=[]
  .subst h0;exact .inl ⟨_,cap,rfl,rfl,h.capLe⟩
  .exact .inr ⟨g,0,cap,rfl,h.le,h.capLe,h.lt,h0,h.row⟩
theorem GZ.kept{W V:World}{B C:Nat}{v:Value}{xs:List α}(h:GZ W B v xs)(hb:Below C W V)(hC:W.heap.size<=C):GZ V B v xs:=by
 rcases h with h|⟨g,cap,rfl,hB,h⟩
 .exact .inl h
 .exact .inr ⟨g,cap,rfl,hB,h.kept hb (Nat.lt_of_lt_of_le h.lt hC)⟩
theorem GZ.next{W V:World}{B:Nat}{v:Value}{xs:List α}(h:GZ W B v xs)(hb:B0 W V):GZ V B v xs:=h.kept hb (Nat.le_refl _)
theorem GZ.other{W:World}{B:Nat}{v:Value}{xs:List α}(h:GZ W B v xs){a:Addr}(ha:v.ownBlock≠some a.block)(u:Value):GZ (W.setCell a u) B v xs:=by
 rcases h with h|⟨g,cap,rfl,hB,h⟩
 .exact .inl h
 .exact .inr ⟨g,cap,rfl,hB,h.other (by intro e;apply ha;simp[Value.ownBlock,e]) u⟩
theorem GZ.lower{W:World}{B C:Nat}{v:Value}{xs:List α}(h:GZ W B v xs)(hC:C<=B):GZ W C v xs:=by
 rcases h with h|⟨g,cap,rfl,hB,h⟩
 .exact .inl h
 .exact .inr ⟨g,cap,rfl,Nat.le_trans hC hB,h⟩
theorem GZ.LD{W:World}{B:Nat}{v:Value}{xs:List α}(h:W.ownsRow B (Lay.ty α) (Lay.k α) v xs.length (G9 xs)):GZ W B v xs:=by
 obtain⟨_,⟨rfl,h0⟩|⟨g,cap,cur,rfl,hB,hg,hn,hm,hs,ht⟩⟩:=h
 .exact .inl ⟨rfl,List.eq_nil_of_length_eq_zero h0⟩
 .refine .inr ⟨g,cap,rfl,hB,cur.toList.drop (xs.length*Lay.k α),?_,?_,hn,hm⟩
  .rw[hg,<-ht,List.take_append_drop]
  .have:=Nat.mul_le_mul_right (Lay.k α) hn;simp[hs];omega
theorem GZ.row{W:World}{B:Nat}{v:Value}{xs:List α}(h:GZ W B v xs):W.ownsRow B (Lay.ty α) (Lay.k α) v xs.length (G9 xs):=by
 refine⟨GX xs,?_⟩;rcases h with⟨rfl,rfl⟩|⟨g,cap,rfl,hB,h⟩
 .exact .inl ⟨rfl,rfl⟩
 .obtain⟨rest,h1,h2,hle,h3⟩:=h;refine .inr ⟨g,cap,_,rfl,hB,h1,hle,h3,by simp[GX,h2],?_⟩;simp[<-GX xs]
theorem GZ.slice{W:World}{B:Nat}{v:Value}{xs:List α}(h:GZ W B v xs):∃a c,v=.slice a xs.length c/\c<=maxLen:=by
 rcases h with⟨rfl,rfl⟩|⟨g,cap,rfl,_,h⟩
 .exact⟨none,0,rfl,by decide⟩
 .exact⟨_,_,rfl,h.capLe⟩
end
theorem IE.i0{w:World}{b off:Nat}{xs:List Int}(h:IE w b off (G9 xs)){i:Nat}{x:Int}(hi:xs[i]?=some x):w.cell? ⟨b,off+i,none⟩=some (I0 x):=
 h i _ (by have:=GV xs i x hi 0 (by decide);simpa [Lay.k,Lay.cs]using this)
theorem IE.s0{w:World}{b off:Nat}{xs:List (List UInt8)}(h:IE w b off (G9 xs)){i:Nat}{x:List UInt8}(hi:xs[i]?=some x):w.cell? ⟨b,off+i,none⟩=some (S0 x):=
 h i _ (by have:=GV xs i x hi 0 (by decide);simpa [Lay.k,Lay.cs]using this)
theorem IE.e0{w:World}{b off:Nat}{xs:List Ev}(h:IE w b off (G9 xs)){i:Nat}{x:Ev}(hi:xs[i]?=some x):w.cell? ⟨b,off+i*2,none⟩=some (I0 x.k):=
 h (i*2) _ (GV xs i x hi 0 (by decide))
theorem IE.e1{w:World}{b off:Nat}{xs:List Ev}(h:IE w b off (G9 xs)){i:Nat}{x:Ev}(hi:xs[i]?=some x):w.cell? ⟨b,off+i*2+1,none⟩=some (S0 x.p):=by
 rw[Nat.add_assoc];exact h (i*2+1) _ (GV xs i x hi 1 (by decide))
theorem GU{w:World}{o:Obj}{w1:World}(h:Below (w.alloc o).heap.size (w.alloc o) w1):B0 w w1:=
 ((Below.refl _ _).alloc (Nat.le_refl _) _).trans (h.mono (by simp))
theorem G8{w W V:World}(h:B0 w W)(h':B0 W V):B0 w V:=h.trans (h'.mono h.size)
theorem G7(w:World)(o:Obj):B0 w (w.alloc o):=(Below.refl _ _).alloc (Nat.le_refl _) _
theorem QC{w:World}{g j:Nat}(v:Value):w.grownBy (w.setCell ⟨g,j,none⟩ v) (some g):=⟨rfl,rfl,rfl,by simp[World.setCell],fun k _ hne=>Below.heap_setCell w ⟨g,j,none⟩ v k (fun e=>hne (by rw[e]))⟩
theorem IL{w w' w'':World}{g:Nat}(h:w.grownBy w' (some g))(h':w'.grownBy w'' (some g)):w.grownBy w'' (some g):=
 ⟨h'.os.trans h.os,h'.tape.trans h.tape,h'.output.trans h.output,Nat.le_trans h.size h'.size,fun k hk hne=>(h'.block k (Nat.lt_of_lt_of_le hk h.size) hne).trans (h.block k hk hne)⟩
theorem PI{g:Nat}{t:TypeId}{fz:Nat×Nat}:∀ (vs:List Value) (o:Nat) (w:World) (l:List Value),w.heap[g]?=some (.cells l.toArray t fz)->o+vs.length<=l.length->
  (w.setCells g o vs).heap[g]?=some (.cells (l.take o++vs++l.drop (o+vs.length)).toArray t fz)
 |[],o,w,l,h,_=>by simpa [World.setCells]using h
 |v::r,o,w,l,h,hl=>by
  have h1:(w.setCell ⟨g,o,none⟩ v).heap[g]?=some (.cells (l.set o v).toArray t fz):=by rw[GL v h];simp
  rw[World.setCells,PI r (o+1) _ _ h1 (by simp at hl⊢;omega)];have ho:o<l.length:=by simp at hl;omega
  have e1:(l.set o v).take (o+1)=l.take o++[v]:=by
   rw[List.take_set,List.take_succ_eq_append_getElem ho,List.set_append_right _ _ (by simp;omega)];simp[Nat.min_eq_left (Nat.le_of_lt ho)]
  have e2:(l.set o v).drop (o+1+r.length)=l.drop (o+(r.length+1)):=by
   rw[List.drop_set_of_lt (by omega)];congr 1;omega
  rw[e1,e2];simp
theorem I5{g:Nat}:∀ (vs:List Value) (o:Nat) (w:World),w.grownBy (w.setCells g o vs) (some g)
 |[],_,_=>⟨rfl,rfl,rfl,Nat.le_refl _,fun _ _ _=>rfl⟩
 |v::r,o,_=>IL (QC v) (I5 r (o+1) _)
section
variable {α:Type} [Lay α]
theorem J9.splice{W:World}{g cap:Nat}{pre tl:List α}(h:J9 W g cap (pre++tl))(new:List α)(hfit:pre.length+new.length<=cap):J9 (W.setCells g (pre.length*Lay.k α) (G9 new)) g cap (pre++new):=by
 obtain⟨rest,h1,h2,h4,h3⟩:=h;have hlen:(G9 (pre++tl)++rest).length=cap*Lay.k α:=by rw[List.length_append,GX];exact h2
 have hf:pre.length*Lay.k α+new.length*Lay.k α<=cap*Lay.k α:=by rw[<-Nat.add_mul];exact Nat.mul_le_mul_right _ hfit
 refine⟨(G9 (pre++tl)++rest).drop (pre.length*Lay.k α+(G9 new).length),?_,?_,by simpa using hfit,h3⟩
 .rw[PI (G9 new) (pre.length*Lay.k α) W _ h1 (by rw[hlen,GX];omega),H8 pre new]
  congr 3
  have e:G9 (pre++tl)++rest=G9 pre++(G9 tl++rest):=by rw[H8,List.append_assoc]
  rw[e,<-GX pre,List.take_left]
 .rw[List.length_drop,hlen,GX,List.length_append,Nat.add_mul];omega
theorem J9.spare{W:World}{g cap:Nat}{fs:List α}(h:J9 W g cap fs)(vs:List Value)(o:Nat)(ho:fs.length*Lay.k α<=o)(hfit:o+vs.length<=cap*Lay.k α):J9 (W.setCells g o vs) g cap fs:=by
 obtain⟨rest,h1,h2,h4,h3⟩:=h;have hlen:(G9 fs++rest).length=cap*Lay.k α:=by rw[List.length_append,GX];exact h2
 have hc:=GX fs;refine⟨rest.take (o-fs.length*Lay.k α)++vs++(G9 fs++rest).drop (o+vs.length),?_,?_,h4,h3⟩
 .rw[PI vs o W _ h1 (by rw[hlen];omega)]
  congr 2
  rw[List.take_append,List.take_of_length_le (by omega),hc];simp only[List.append_assoc]
 .simp only[List.length_append,List.length_take,List.length_drop,hc];omega
theorem J9.vX{W:World}{g cap:Nat}{A B:List α}{y:α}(h:J9 W g cap (A++y::B))(x:α):J9 (W.setCells g (A.length*Lay.k α) (Lay.cs x)) g cap (A++x::B):=by
 obtain⟨rest,h1,h2,h4,h3⟩:=h;have hlen:(G9 (A++y::B)++rest).length=cap*Lay.k α:=by rw[List.length_append,GX];exact h2
 refine⟨rest,?_,by simpa using h2,by simpa using h4,h3⟩;have hA:=GX A;have hx3:(Lay.cs x).length=Lay.k α:=Lay.len x;have hy3:(Lay.cs y).length=Lay.k α:=Lay.len y;rw[PI (Lay.cs x) (A.length*Lay.k α) W _ h1 (by rw[hlen,hx3];simp[Nat.add_mul]at h2;omega)];have e:G9 (A++y::B)++rest=G9 A++(Lay.cs y++(G9 B++rest)):=by simp[H8,JO]
 have e':G9 (A++x::B)++rest=G9 A++(Lay.cs x++(G9 B++rest)):=by simp[H8,JO]
 rw[e,e']
 congr 2
 rw[hx3,<-hA,List.take_left,show (G9 A).length+Lay.k α=(G9 A++Lay.cs y).length by rw[List.length_append,hy3],<-List.append_assoc (G9 A) (Lay.cs y),List.drop_left,List.append_assoc]
theorem J9.some{W:World}{g cap:Nat}{fs:List α}(h:J9 W g cap fs){j:Nat}(hj:j<cap*Lay.k α):(W.cell? ⟨g,j,none⟩).isSome=true:=by
 obtain⟨rest,h1,h2,_⟩:=h;have hl:j<(G9 fs++rest).length:=by rw[List.length_append,GX,h2];exact hj
 rw[List.length_append]at hl;simp[World.cell?,h1,hl]
theorem J9.drew{W:World}{g cap:Nat}{fs:List α}(h:J9 W g cap fs):J9 W.drew g cap fs:=h
def JF(W:World)(b:Nat)(x:α):Prop:=W.heap[b]?=some (.cells (Lay.cs x).toArray (Lay.ty α) (0,0))
theorem JF.row{W:World}{b:Nat}{x:α}(h:JF W b x):∀j v,(Lay.cs x)[j]?=some v->W.cell? ⟨b,0+j,none⟩=some v:=by
 intro j v hj;unfold JF at h;simp[World.cell?,h,hj]
end
theorem J6(ss:List Int):(G9 ss).length=ss.length:=(GX ss).trans (Nat.mul_one _)
structure Touch(F:Nat->Prop)(w w':World):Prop where
 os:w'.os=w.os
 tape:w'.tape=w.tape
 output:w'.output=w.output
 size:w.heap.size<=w'.heap.size
 block:∀k,k<w.heap.size->¬F k->w'.heap[k]?=w.heap[k]?
theorem Touch.refl(F:Nat->Prop)(w:World):Touch F w w:=⟨rfl,rfl,rfl,Nat.le_refl _,fun _ _ _=>rfl⟩
theorem Touch.trans{F:Nat->Prop}{a b c:World}(h:Touch F a b)(k:Touch F b c):Touch F a c:=
 ⟨k.os.trans h.os,k.tape.trans h.tape,k.output.trans h.output,Nat.le_trans h.size k.size,fun i hi hf=>(k.block i (Nat.lt_of_lt_of_le hi h.size) hf).trans (h.block i hi hf)⟩
theorem Touch.of_below{F:Nat->Prop}{w w':World}(h:B0 w w'):Touch F w w':=⟨h.os,h.tape,h.output,h.size,fun k hk _=>h.block k hk⟩
theorem Touch.VG{F:Nat->Prop}{w w':World}{r:Option Nat}(h:w.grownBy w' r)(hr:∀k,r=some k->F k):Touch F w w':=⟨h.os,h.tape,h.output,h.size,fun k hk hf=>h.block k hk (fun e=>hf (hr k e.symm))⟩
theorem Touch.set{F:Nat->Prop}{w:World}{a:Addr}(hf:F a.block)(v:Value):Touch F w (w.setCell a v):=⟨rfl,rfl,rfl,by simp[World.setCell],fun k _ hn=>Below.heap_setCell w a v k (fun e=>hn (by rw[e];exact hf))⟩
theorem Touch.drew{F:Nat->Prop}{w w':World}(h:Touch F w w'):Touch F w w'.drew:=⟨h.os,h.tape,h.output,h.size,h.block⟩
theorem Touch.mono{F G:Nat->Prop}{w w':World}(h:Touch F w w')(hg:∀k,k<w.heap.size->F k->G k):Touch G w w':=⟨h.os,h.tape,h.output,h.size,fun k hk hn=>h.block k hk (fun hf=>hn (hg k hk hf))⟩
theorem Touch.below{F:Nat->Prop}{w w':World}{B:Nat}(h:Touch F w w')(hB:B<=w.heap.size)(hF:∀k,F k->B<=k):Below B w w':=
 ⟨h.os,h.tape,h.output,h.size,fun k hk=>h.block k (Nat.lt_of_lt_of_le hk hB) (fun hf=>by have:=hF k hf;omega)⟩
theorem GZ.low{α:Type}[Lay α]{W:World}{B:Nat}{v:Value}{xs:List α}(h:GZ W B v xs)(k:Nat)(hk:v.ownBlock=some k):k<W.heap.size:=by
 rcases h with⟨rfl,rfl⟩|⟨g,cap,rfl,_,h⟩
 .simp[Value.ownBlock]at hk
 .simp only[Value.ownBlock,Option.some.injEq]at hk;rw[<-hk];exact h.lt
theorem GZ.grown{α:Type}[Lay α]{W V:World}{B:Nat}{v:Value}{xs:List α}(h:GZ W B v xs){r:Option Nat}(hg:W.grownBy V r)(hr:∀k,v.ownBlock=some k->some k≠r):GZ V B v xs:=by
 rcases h with h|⟨g,cap,rfl,hB,h⟩
 .exact .inl h
 .obtain⟨rest,h1,h2⟩:=h;have hlt:=(Array.getElem?_eq_some_iff.1 h1).1;exact .inr ⟨g,cap,rfl,hB,rest,(hg.block g hlt (hr g rfl)).trans h1,h2⟩
theorem I8{w:World}{a:Addr}{v:Value}(h:w.cell? a=some v):w.setCell a v=w:=by
 obtain⟨heap,tape,drawn,os,output⟩:=w;simp only[World.setCell,World.cell?]at*
 congr 1
 apply Array.ext_getElem?
 intro k;rw[Array.getElem?_modify];by_cases hk:a.block=k
 .subst hk;simp only[if_true]
  cases ho:heap[a.block]? with
  |none=>rfl
  |some o=>
   rw[ho]at h
   cases o with
   |cells c e fz=>
    simp only at h;by_cases hs:a.spot.isSome=true
    .simp[hs]at h
    .simp only[hs]at h;simp[hs];have hlt:a.off<c.size:=(Array.getElem?_eq_some_iff.1 (by simpa using h)).1;have hv:c[a.off]=v:=(Array.getElem?_eq_some_iff.1 (by simpa using h)).2;rw[<-hv];simp[Array.setIfInBounds,hlt]
   |_=>simp at h
 .simp[hk]
theorem I9{W V:World}(h:Below W.drew.heap.size W.drew V):B0 W V:=((Below.refl _ W).drew).trans h
theorem CI2:(Tryz.prog.info? 246).map (fun i=>(i.zero,i.size,i.bytes))=some (some (.agg #[I0 0,.string ⟨#[]⟩]),2,24):=by kernel_rfl
theorem CU2:∃i0,Tryz.prog.info? 246=some i0/\i0.zero=some (.agg #[I0 0,.string ⟨#[]⟩])/\i0.size=2/\i0.bytes=24:=by
 obtain⟨i0,h,e⟩:=Option.map_eq_some_iff.1 CI2;simp only[Prod.mk.injEq]at e;exact⟨i0,h,e⟩
theorem RS{α:Type}[Lay α]{W:World}{g:Nat}{x:α}(h:JF W g x)(j:Nat)(u:Value)(hj:(Lay.cs x)[j]?=some u):W.cell? ((⟨g,0,none⟩:Addr).add j)=some u:=by
 rw[Addr.add_lit];exact h.row j u hj
theorem A10(w:World)(k:Int)(p:List UInt8):JF (w.alloc (.cells #[I0 k,S0 p] 246)) w.heap.size (⟨k,p⟩:Ev):=heap_alloc_new w _
def J8(t:GI):Value:=.agg #[I0 t.z,I0 t.o,I0 t.s,S0 t.p,S0 t.d,I0 t.v,I0 t.w]
def N7(t:GI):List Value:=[I0 t.z,I0 t.o,I0 t.s,S0 t.p,S0 t.d,I0 t.v,I0 t.w]
def KG:List GI->List Value
 |[]=>[]
 |t::r=>N7 t++KG r
theorem aY:∀ts:List GI,(KG ts).length=ts.length*7
 |[]=>rfl
 |t::r=>by rw[KG,List.length_append,aY r];simp[N7];omega
theorem RV:∀a b:List GI,KG (a++b)=KG a++KG b
 |[],_=>rfl
 |t::r,b=>by rw[List.cons_append,KG,KG,RV r b,List.append_assoc]
theorem A11(a:List GI)(t:GI):KG (a++[t])=KG a++N7 t:=by rw[RV,KG,KG,List.append_nil]
theorem OT:∀ (ts:List GI) (i:Nat) (t:GI),ts[i]?=some t->∀c,c<7->(KG ts)[i*7+c]?=(N7 t)[c]?
 |[],i,t,h,_,_=>by simp at h
 |x::r,0,t,h,c,hc=>by
  simp at h;subst h;rw[KG,List.getElem?_append_left (by simp[N7];omega)];simp
 |x::r,i+1,t,h,c,hc=>by
  rw[KG,List.getElem?_append_right (by simp[N7];omega),<-OT r i t (by simpa using h) c hc]
  congr 1
  simp[N7];omega
theorem oG(t:GI):∀u∈N7 t,u.oneCell'=true:=by
 intro u hu;simp[N7]at hu;rcases hu with rfl|rfl|rfl|rfl|rfl|rfl|rfl<;>rfl
theorem IE.z{w:World}{b off:Nat}{ts:List GI}(h:IE w b off (KG ts)){i:Nat}{t:GI}(hi:ts[i]?=some t):w.cell? ⟨b,off+i*7,none⟩=some (I0 t.z):=
 h (i*7) _ (by have:=OT ts i t hi 0 (by omega);simpa [N7]using this)
theorem IE.o{w:World}{b off:Nat}{ts:List GI}(h:IE w b off (KG ts)){i:Nat}{t:GI}(hi:ts[i]?=some t):w.cell? ⟨b,off+i*7+1,none⟩=some (I0 t.o):=by
 rw[Nat.add_assoc];exact h (i*7+1) _ (by have:=OT ts i t hi 1 (by omega);simpa [N7]using this)
theorem IE.s{w:World}{b off:Nat}{ts:List GI}(h:IE w b off (KG ts)){i:Nat}{t:GI}(hi:ts[i]?=some t):w.cell? ⟨b,off+i*7+2,none⟩=some (I0 t.s):=by
 rw[Nat.add_assoc];exact h (i*7+2) _ (by have:=OT ts i t hi 2 (by omega);simpa [N7]using this)
theorem IE.p{w:World}{b off:Nat}{ts:List GI}(h:IE w b off (KG ts)){i:Nat}{t:GI}(hi:ts[i]?=some t):w.cell? ⟨b,off+i*7+3,none⟩=some (S0 t.p):=by
 rw[Nat.add_assoc];exact h (i*7+3) _ (by have:=OT ts i t hi 3 (by omega);simpa [N7]using this)
theorem IE.d{w:World}{b off:Nat}{ts:List GI}(h:IE w b off (KG ts)){i:Nat}{t:GI}(hi:ts[i]?=some t):w.cell? ⟨b,off+i*7+4,none⟩=some (S0 t.d):=by
 rw[Nat.add_assoc];exact h (i*7+4) _ (by have:=OT ts i t hi 4 (by omega);simpa [N7]using this)
theorem IE.v{w:World}{b off:Nat}{ts:List GI}(h:IE w b off (KG ts)){i:Nat}{t:GI}(hi:ts[i]?=some t):w.cell? ⟨b,off+i*7+5,none⟩=some (I0 t.v):=by
 rw[Nat.add_assoc];exact h (i*7+5) _ (by have:=OT ts i t hi 5 (by omega);simpa [N7]using this)
theorem IE.w{w:World}{b off:Nat}{ts:List GI}(h:IE w b off (KG ts)){i:Nat}{t:GI}(hi:ts[i]?=some t):w.cell? ⟨b,off+i*7+6,none⟩=some (I0 t.w):=by
 rw[Nat.add_assoc];exact h (i*7+6) _ (by have:=OT ts i t hi 6 (by omega);simpa [N7]using this)
def NV(w:World)(v:Value)(ts:List GI):Prop:=
 (∃a cap,v=.slice a 0 cap/\ts=[]/\cap<=maxLen)\/
 ∃b off cap,v=.slice (some ⟨b,off,none⟩) ts.length cap/\ts.length<=cap/\cap<=maxLen/\b<w.heap.size/\ts≠[]/\IE w b off (KG ts)
theorem NV.kept{w w':World}{B:Nat}{v:Value}{ts:List GI}(h:NV w v ts)(hb:Below B w w')(hB:w.heap.size<=B):NV w' v ts:=by
 rcases h with h|⟨b,off,cap,rfl,h1,h2,h3,h0,h4⟩
 .exact .inl h
 .exact .inr ⟨b,off,cap,rfl,h1,h2,Nat.lt_of_lt_of_le h3 hb.size,h0,h4.kept hb (Nat.lt_of_lt_of_le h3 hB)⟩
theorem NV.next{w w':World}{v:Value}{ts:List GI}(h:NV w v ts)(hb:B0 w w'):NV w' v ts:=h.kept hb (Nat.le_refl _)
theorem NV.drew{w:World}{v:Value}{ts:List GI}(h:NV w v ts):NV w.drew v ts:=h.next (Below.refl _ _).drew
theorem NV.nil(w:World):NV w (N0) []:=.inl ⟨none,0,rfl,rfl,by decide⟩
theorem MF{w:World}{v:Value}{ts:List GI}(hv:NV w v ts):∃a c,v=.slice a ts.length c:=by
 rcases hv with⟨a,cap,rfl,rfl,_⟩|⟨b,off,cap,rfl,_⟩
 .exact⟨_,_,rfl⟩
 .exact⟨_,_,rfl⟩
theorem ZO{w:World}{v:Value}{ts:List GI}(hv:NV w v ts){i:Nat}{t:GI}(hi:ts[i]?=some t):
  ∃b off cap,v=.slice (some ⟨b,off,none⟩) ts.length cap/\b<w.heap.size/\IE w b off (KG ts)/\i<ts.length/\ts.length<=cap/\cap<=maxLen:=by
 have hlt:=(List.getElem?_eq_some_iff.1 hi).1;rcases hv with⟨a,cap,rfl,rfl,_⟩|⟨b,off,cap,rfl,h1,h2,hb,_,hr⟩
 .simp at hi
 .exact⟨b,off,cap,rfl,hb,hr,hlt,h1,h2⟩
def nH(W:World)(B:Nat)(v:Value)(ts:List GI):Prop:=W.ownsRow B 93 7 v ts.length (KG ts)
theorem nH.nil(W:World)(B:Nat):nH W B (N0) []:=⟨rfl,.inl ⟨rfl,rfl⟩⟩
theorem nH.log{W:World}{B:Nat}{v:Value}{ts:List GI}(h:nH W B v ts):NV W v ts:=by
 obtain⟨hl,⟨rfl,h0⟩|⟨g,cap,cur,rfl,hB,hg,hn,hm,hs,ht⟩⟩:=h
 .rw[List.eq_nil_of_length_eq_zero h0];exact NV.nil W
 .by_cases h0:ts=[]
  .subst h0;exact .inl ⟨_,cap,rfl,rfl,hm⟩
  .refine .inr ⟨g,0,cap,rfl,hn,hm,(Array.getElem?_eq_some_iff.1 hg).1,h0,fun j v hj=>?_⟩;have hlt:j<(KG ts).length:=(List.getElem?_eq_some_iff.1 hj).1;have:cur[j]?=some v:=by
    rw[<-ht,List.getElem?_take_of_lt (by rw[hl]at hlt;exact hlt)]at hj;simpa using hj
   simp[World.cell?,hg,this]
theorem nH.next{W V:World}{B:Nat}{v:Value}{ts:List GI}(h:nH W B v ts)(hb:B0 W V):nH V B v ts:=by
 obtain⟨hl,h|⟨g,cap,cur,e,hB,hg,hr⟩⟩:=h
 .exact⟨hl,.inl h⟩
 .exact⟨hl,.inr ⟨g,cap,cur,e,hB,(hb.block _ (Array.getElem?_eq_some_iff.1 hg).1).trans hg,hr⟩⟩
theorem AK7{W:World}{B:Nat}{v:Value}{ts:List GI}(h:nH W B v ts):∃a c,v=.slice a ts.length c:=MF h.log
theorem AK8{W:World}{B:Nat}{v:Value}{ts:List GI}(h:nH W B v ts):∀k,v.ownBlock=some k->B<=k/\k<W.heap.size:=World.ownsRow.lt h
theorem nH.more{W:World}{B:Nat}{v:Value}{ts:List GI}{t:GI}(h:W.ownsRow B 93 7 v (ts.length+1) (KG ts++N7 t)):nH W B v (ts++[t]):=by
 unfold nH;rw[A11,List.length_append];exact h
def TAt(W:World)(g:Nat)(t:GI):Prop:=W.heap[g]?=some (.cells #[I0 t.z,I0 t.o,I0 t.s,S0 t.p,S0 t.d,I0 t.v,I0 t.w] 93 (0,0))
theorem TAt.new(W:World)(t:GI):TAt (W.alloc (.cells #[I0 t.z,I0 t.o,I0 t.s,S0 t.p,S0 t.d,I0 t.v,I0 t.w] 93)) W.heap.size t:=heap_alloc_new W _
theorem TAt.next{W V:World}{g:Nat}{t:GI}(h:TAt W g t)(hb:B0 W V):TAt V g t:=(hb.block g (by unfold TAt at h;exact(Array.getElem?_eq_some_iff.1 h).1)).trans h
theorem TAt.lt{W:World}{g:Nat}{t:GI}(h:TAt W g t):g<W.heap.size:=by unfold TAt at h;exact(Array.getElem?_eq_some_iff.1 h).1
theorem TAt.c0{W:World}{g:Nat}{t:GI}(h:TAt W g t):W.cell? ⟨g,0,none⟩=some (I0 t.z):=by unfold TAt at h;simp[World.cell?,h]
theorem TAt.c1{W:World}{g:Nat}{t:GI}(h:TAt W g t):W.cell? ⟨g,1,none⟩=some (I0 t.o):=by unfold TAt at h;simp[World.cell?,h]
theorem TAt.c2{W:World}{g:Nat}{t:GI}(h:TAt W g t):W.cell? ⟨g,2,none⟩=some (I0 t.s):=by unfold TAt at h;simp[World.cell?,h]
theorem TAt.c3{W:World}{g:Nat}{t:GI}(h:TAt W g t):W.cell? ⟨g,3,none⟩=some (S0 t.p):=by unfold TAt at h;simp[World.cell?,h]
theorem TAt.c4{W:World}{g:Nat}{t:GI}(h:TAt W g t):W.cell? ⟨g,4,none⟩=some (S0 t.d):=by unfold TAt at h;simp[World.cell?,h]
theorem TAt.c5{W:World}{g:Nat}{t:GI}(h:TAt W g t):W.cell? ⟨g,5,none⟩=some (I0 t.v):=by unfold TAt at h;simp[World.cell?,h]
theorem TAt.c6{W:World}{g:Nat}{t:GI}(h:TAt W g t):W.cell? ⟨g,6,none⟩=some (I0 t.w):=by unfold TAt at h;simp[World.cell?,h]
theorem TAt.f{W:World}{g:Nat}{t:GI}(h:TAt W g t)(j:Nat):W.frozen? ⟨g,j,none⟩=false:=by unfold TAt at h;simp[World.frozen?,h]
theorem AZ0:(Tryz.prog.info? 93).map (fun i=>(i.zero,i.size,i.bytes))=some (some (J8 t0),7,72):=by kernel_rfl
theorem rC:∃i0,Tryz.prog.info? 93=some i0/\i0.zero=some (J8 t0)/\i0.size=7/\i0.bytes=72:=by
 obtain⟨i0,h,e⟩:=Option.map_eq_some_iff.1 AZ0;simp only[Prod.mk.injEq]at e;exact⟨i0,h,e.1,e.2.1,e.2.2⟩
instance layX:Lay GI:=⟨7,N7,93,fun _=>rfl,fun x u hu=>oG x u hu⟩
theorem BJ5(ts:List GI):G9 ts=KG ts:=by
 induction ts with
 |nil=>rfl
 |cons f r ih=>rw[JO,ih];rfl
theorem PK{w:World}{v:Value}{ts:List GI}:IU w v ts↔NV w v ts:=by unfold IU NV;rw[BJ5]
end Go.Proofs.YthcncjimjclfpaaGreatDoor
