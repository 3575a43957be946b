/-
  Part.
-/
import Derived.WalkKit
import Derived.Lib.IndexLaws
import Derived.Laws.Cover1
import Derived.Test.YtefephchbjfdfaaGreatDoorProg
import Derived.Deep.LoopGhost
import Derived.Lib.QuietBelow
set_option maxRecDepth 20000
set_option maxHeartbeats 8000000
namespace Go.Proofs.YtefephchbjfdfaaGreatDoor
open Go.RowKit
abbrev I0 (x:Int):Value:=.int .i64 x
abbrev S0 (l:List UInt8):Value:=.string ⟨l.toArray⟩
abbrev N0:Value:=.slice none 0 0
abbrev P0 (k:Nat):Value:=.pointer (some ⟨k,0,none⟩)
abbrev R0 (w:World)(x:Value):Ending->World->Prop:=fun e w'=>e=.returned x/\Below w.heap.size w w'
abbrev B0 (w W:World):Prop:=Below w.heap.size w W
theorem GH{p:Prop}(h:p):Hid p:=h
theorem G9{p:Prop}(h:Hid p):p:=h
def U5(c:UInt8):Bool:=(decide (97<=c.toNat)&&decide (c.toNat<=122))||(decide (48<=c.toNat)&&decide (c.toNat<=57))||c.toNat==45||c.toNat==95
def JF(l:List UInt8):Bool:=decide (1<=l.length)&&decide (l.length<=40)&&l.all U5
theorem iV(s:ByteArray)(k:Nat)(h:k<s.size):s.data.toList.take (k+1)=s.data.toList.take k++[s[k]]:=by
 rw[List.take_succ_eq_append_getElem (by simpa using h)];rfl
theorem VA(s:ByteArray)(k:Nat)(h:k<s.size)(p:UInt8->Bool)(h1:(s.data.toList.take k).all p=true)(h2:p s[k]=true):(s.data.toList.take (k+1)).all p=true:=by
 rw[iV s k h,List.all_append,h1];simpa using h2
theorem ZE(s:ByteArray)(k:Nat)(h:s.size<=k)(p:UInt8->Bool)(h1:(s.data.toList.take k).all p=true):s.data.toList.all p=true:=by
 rwa[List.take_of_length_le (by simpa using h)]at h1
theorem dL(s:ByteArray)(k:Nat)(h:k<s.size)(p:UInt8->Bool)(h2:p s[k]=false):s.data.toList.all p=false:=by
 rw[List.all_eq_false];exact⟨s[k],by have:s[k]∈s.data:=Array.getElem_mem h;simpa using this,by simp[h2]⟩
theorem aB(s:ByteArray):s.data.toList.length=s.size:=by simp
theorem uH(s:ByteArray)(h:s.size<1):JF s.data.toList=false:=by
 simp only[JF,aB,show ¬1<=s.size from by omega,decide_false,Bool.false_and]
theorem yZ(s:ByteArray)(h:40<s.size):JF s.data.toList=false:=by
 simp only[JF,aB,show ¬s.size<=40 from by omega,decide_false,Bool.and_false,Bool.false_and]
theorem mZ(s:ByteArray)(h:1<=s.size)(h':s.size<=40):JF s.data.toList=s.data.toList.all U5:=by
 simp only[JF,aB,h,h',decide_true,Bool.true_and]
def KP(z:Int):Bool:=decide (0<=z)&&decide (z<4611686018427387904)
def zIn(n:Int):Bool:=decide (0<=n)&&decide (n<2147483648)
def J6(z:Int):Int:=if KP z then z/2147483648 else 0
def nC(z:Int):Int:=if KP z then z%2147483648 else 0
def L9(e c:Int):Int:=if zIn e&&zIn c then e*2147483648+c else 0
def OC(e c:Int):Int:=if zIn e&&zIn c then 0 else 3
def iW(z:Int):Int:=if KP z&&zIn (z%2147483648+1)then z+1 else 0
def WM(z:Int):Int:=if KP z then(if zIn (z%2147483648+1)then 0 else 6)else 3
theorem MC{z:Int}:KP z=true↔0<=z/\z<4611686018427387904:=by simp[KP]
theorem QA{z:Int}:zIn z=true↔0<=z/\z<2147483648:=by simp[zIn]
theorem A69{z:Int}(h:¬ (0<=z/\z<2147483648)):zIn z=false:=by
 cases hg:zIn z with
 |false=>rfl
 |true=>exact absurd (QA.1 hg) h
theorem MF{z:Int}(h:KP z=true):J6 z=z/2147483648:=by rw[J6,if_pos h]
theorem uI{z:Int}(h:KP z=false):J6 z=0:=by rw[J6,h];rfl
theorem YC{z:Int}(h:KP z=true):nC z=z%2147483648:=by rw[nC,if_pos h]
theorem AS4{z:Int}(h:KP z=false):nC z=0:=by rw[nC,h];rfl
theorem UD{e c:Int}(he:zIn e=true)(hc:zIn c=true):L9 e c=e*2147483648+c/\OC e c=0:=by
 constructor<;>simp[L9,OC,he,hc]
theorem gX{e c:Int}(h:zIn e=false\/zIn c=false):L9 e c=0/\OC e c=3:=by
 rcases h with h|h<;>constructor<;>simp[L9,OC,h]
theorem AS5{z:Int}(h:KP z=false):iW z=0/\WM z=3:=by constructor<;>simp[iW,WM,h]
theorem AG4{z:Int}(h:KP z=true)(h1:zIn (z%2147483648+1)=false):iW z=0/\WM z=6:=by constructor<;>simp[iW,WM,h,h1]
theorem qA{z:Int}(h:KP z=true)(h1:zIn (z%2147483648+1)=true):iW z=z+1/\WM z=0:=by constructor<;>simp[iW,WM,h,h1]
theorem uJ(n:Int)(h₀:0<=n)(h₁:n<2^63):IntKind.i64.wrap n=n:=by rw[IntKind.wrap_i64];omega
theorem BZ5{e c:Int}(he:0<=e)(he1:e<2147483648)(hc:0<=c)(hc1:c<2147483648):bits .or .i64 (e*2147483648) c=e*2147483648+c:=
 bits_join .i64 63 (by decide) uJ 31 (e*2147483648) c (by omega) (by omega) (by omega) hc (by omega) (by omega)
theorem BE3{z:Int}(h:0<=z)(h1:z<4611686018427387904):bits .and .i64 z 2147483647=z%2147483648:=
 bits_mask .i64 63 (by decide) uJ 31 (by decide) z h (by omega)
theorem qB{a b:Int}(h:a=b):Ending.returned (I0 a)=.returned (I0 b):=by rw[h]
theorem PO{a b i j:Int}(h:a=b)(h':i=j):Ending.returned (.tuple #[I0 a,I0 i])=.returned (.tuple #[I0 b,I0 j]):=by rw[h,h']
def NI:List UInt8->List (List UInt8)
 |[]=>[[]]
 |c::l=>if c=47 then []::NI l else match NI l with
  |[]=>[[c]]
  |p::ps=>(c::p)::ps
theorem AS6(l:List UInt8):NI l≠[]:=by
 cases l with
 |nil=>simp[NI]
 |cons c l=>
  simp only[NI]
  split
  .simp
  .split<;>simp
theorem fG(l:List UInt8):NI (47::l)=[]::NI l:=by simp[NI]
theorem WO{c:UInt8}(h:c≠47){l p:List UInt8}{ps:List (List UInt8)}(hl:NI l=p::ps):NI (c::l)=(c::p)::ps:=by
 simp[NI,h,hl]
theorem iY:∀l:List UInt8,Lib.indexByte l 47=-1->NI l=[l]
 |[],_=>rfl
 |c::l,h=>by
  have h1:(c==47)=false:=by
   cases hc:(c==47)with
   |false=>rfl
   |true=>rw[Lib.indexByte,if_pos hc]at h;exact absurd h (by decide)
  have h2:Lib.indexByte l 47=-1:=by
   by_cases h3:(Lib.indexByte l 47==-1)=true
   .simpa using h3
   .rw[Lib.indexByte,if_neg (by simp[h1]),if_neg h3]at h;have:=Lib.indexByte_ge l 47;omega
  exact WO (by simpa using h1) (iY l h2)
theorem iZ:∀ (l:List UInt8) (i:Nat),Lib.indexByte l 47=i->i<l.length/\NI l=l.take i::NI (l.drop (i+1))
 |[],i,h=>by simp[Lib.indexByte]at h
 |c::l,i,h=>by
  by_cases hc:(c==47)=true
  .rw[Lib.indexByte,if_pos hc]at h;have hi:i=0:=by omega
   subst hi;have:c=47:=by simpa using hc
   subst this;exact⟨by simp,by simp[fG]⟩
  .have hc':c≠47:=by simpa using hc
   by_cases h3:(Lib.indexByte l 47==-1)=true
   .rw[Lib.indexByte,if_neg hc,if_pos h3]at h;omega
   .rw[Lib.indexByte,if_neg hc,if_neg h3]at h;have hge:=Lib.indexByte_ge l 47;have hne:Lib.indexByte l 47≠ -1:=by simpa using h3
    obtain⟨j,rfl⟩:∃j,i=j+1:=⟨i-1,by omega⟩;obtain⟨h4,h5⟩:=iZ l j (by omega);exact⟨by simp;omega,by rw[WO hc' h5];simp⟩
theorem jA(l:List UInt8):Lib.indexByte l 47=-1\/∃i:Nat,Lib.indexByte l 47=i:=by
 have:=Lib.indexByte_ge l 47;by_cases h:Lib.indexByte l 47=-1
 .exact .inl h
 .exact .inr ⟨(Lib.indexByte l 47).toNat,by omega⟩
theorem qC(l:List UInt8):∀p∈NI l,p.length<=l.length:=by
 induction l with
 |nil=>intro p hp;simp[NI]at hp;simp[hp]
 |cons c l ih=>
  intro p hp;by_cases hc:c=47
  .subst hc;rw[fG]at hp;rcases List.mem_cons.1 hp with rfl|h
   .simp
   .have:=ih p h;simp;omega
  .cases hl:NI l with
   |nil=>exact absurd hl (AS6 l)
   |cons q qs=>
    rw[WO hc hl]at hp;rcases List.mem_cons.1 hp with rfl|h
    .have:=ih q (by rw[hl];simp);simp;omega
    .have:=ih p (by rw[hl];simp[h]);simp;omega
def YT(l:List UInt8):List (List UInt8):=if l=[47]then []else NI (Lib.trimPrefix l [47])
def J8(l:List UInt8):Bool:=decide (l.length<=200)&&Lib.hasPrefix l [47]&&(YT l).all JF
def CF9(c:Nat):Nat:=(c/2)^^^(3988292384*(c%2))
def BV9:Nat->Nat->Nat
 |0,c=>c
 |n+1,c=>CF9 (BV9 n c)
def CR5(c:Nat)(b:UInt8):Nat:=BV9 8 (c^^^b.toNat)
def BE4(l:List UInt8):Nat:=l.foldl CR5 4294967295
def A70(l:List UInt8):Nat:=4294967295^^^BE4 l
theorem AS7:(2:Nat)^32=4294967296:=by decide
theorem aC{a b:Nat}(ha:a<4294967296)(hb:b<4294967296):a^^^b<4294967296:=by
 have h:=Nat.xor_lt_two_pow (n:=32) (x:=a) (y:=b) (by rw[AS7];exact ha) (by rw[AS7];exact hb);rwa[AS7]at h
theorem BZ6{c:Nat}(h:c<4294967296):CF9 c<4294967296:=by
 unfold CF9;refine aC (by omega) ?_;rcases Nat.mod_two_eq_zero_or_one c with e|e<;>rw[e]<;>decide
theorem zA{c:Nat}(h:c<4294967296):∀n,BV9 n c<4294967296
 |0=>h
 |n+1=>BZ6 (zA h n)
theorem AS8(b:UInt8):b.toNat<4294967296:=by have:=b.toNat_lt;omega
theorem BZ7{c:Nat}(h:c<4294967296)(b:UInt8):CR5 c b<4294967296:=zA (aC h (AS8 b)) 8
theorem BE5(l:List UInt8):∀c,c<4294967296->l.foldl CR5 c<4294967296:=by
 induction l with
 |nil=>intro c h;exact h
 |cons b l ih=>intro c h;exact ih _ (BZ7 h b)
theorem AS9(l:List UInt8):BE4 l<4294967296:=BE5 l _ (by decide)
theorem AT0(l:List UInt8):A70 l<4294967296:=aC (by decide) (AS9 l)
theorem AT1(l:List UInt8)(b:UInt8):BE4 (l++[b])=CR5 (BE4 l) b:=by simp[BE4]
theorem uK(n:Int)(h₀:0<=n)(h₁:n<2^32):IntKind.u32.wrap n=n:=by rw[IntKind.wrap_u32];omega
theorem uM(k:IntKind)(j:Nat)(hj:j<=k.bits)(hk:∀n:Int,0<=n->n<2^j->k.wrap n=n)(a b:Nat)(ha:a<2^j)(hb:b<2^j):bits .xor k a b=((a^^^b:Nat):Int):=by
 have hp:2^j<=2^k.bits:=Nat.pow_le_pow_right (by decide) hj;have ha':a%2^k.bits=a:=Nat.mod_eq_of_lt (Nat.lt_of_lt_of_le ha hp);have hb':b%2^k.bits=b:=Nat.mod_eq_of_lt (Nat.lt_of_lt_of_le hb hp);simp only[bits,BitVec.ofInt_natCast,BitVec.toNat_xor,BitVec.toNat_ofNat,ha',hb'];exact hk _ (Int.natCast_nonneg _) (by exact_mod_cast Nat.xor_lt_two_pow ha hb)
theorem zC{a b:Nat}(ha:a<4294967296)(hb:b<4294967296):bits .xor .u32 a b=((a^^^b:Nat):Int):=
 uM .u32 32 (by decide) uK a b (by rw[AS7];exact ha) (by rw[AS7];exact hb)
theorem BE6{a:Nat}(ha:a<4294967296):bits .and .u32 a 1=((a%2:Nat):Int):=by
 have h:=bits_mask .u32 32 (by decide) uK 1 (by decide) (a:Int) (by omega) (by omega)
 exact_mod_cast h
def be:Nat->Nat->List UInt8
 |0,_=>[]
 |k+1,n=>be k (n/256)++[UInt8.ofNat n]
def un(l:List UInt8):Nat:=l.foldl (fun a b=>a*256+b.toNat) 0
theorem IK:∀k n,(be k n).length=k
 |0,_=>rfl
 |k+1,n=>by rw[be,List.length_append,IK k];rfl
theorem zF(l:List UInt8)(b:UInt8):un (l++[b])=un l*256+b.toNat:=by simp[un]
theorem jB:∀k n,n<256^k->un (be k n)=n
 |0,n,h=>by
  have:n=0:=by simpa using h
  subst this;rfl
 |k+1,n,h=>by
  rw[be,zF,jB k (n/256) (by rw[Nat.pow_succ]at h;omega)];have:(UInt8.ofNat n).toNat=n%256:=by simp
  omega
theorem BE7(l:List UInt8):un l<256^l.length:=by
 induction h:l.length generalizing l with
 |zero=>obtain rfl:=List.eq_nil_of_length_eq_zero h;decide
 |succ k ih=>
  rcases List.eq_nil_or_concat l with rfl|⟨a,b,rfl⟩
  .simp at h
  .rw[List.concat_eq_append]at h⊢;have hk:a.length=k:=by simpa using h
   have h1:=ih a hk;have h2:=b.toNat_lt;rw[zF,Nat.pow_succ];omega
structure GV where
 z:Int
 o:Int
 s:Int
 p:List UInt8
 d:List UInt8
 v:Int
 w:Int
def t0:GV:=⟨0,0,0,[],[],0,0⟩
def zG(n least:Int):Bool:=decide (least<=n)&&decide (n<=2147483647)
theorem VB{n k:Int}:zG n k=true↔k<=n/\n<=2147483647:=by simp[zG]
def opB(o:Int):Bool:=decide (1<=o)&&decide (o<=5)
theorem jC{o:Int}:opB o=true↔1<=o/\o<=5:=by simp[opB]
def BD9(t:GV):Bool:=KP t.z&&zG t.s 1&&zG t.v 0&&zG t.w 0
theorem qE{t:GV}:BD9 t=true↔KP t.z=true/\zG t.s 1=true/\zG t.v 0=true/\zG t.w 0=true:=by simp[BD9,and_assoc]
def fmB(t:GV):Bool:=
 if t.o=3 then J8 t.p&& !(t.p==[47])&&t.v==0
 else if t.o=4 then J8 t.p&& !(t.p==[47])&&t.d==[]&&t.v==0&&t.w==0
 else if t.o=5 then J8 t.p&&t.w==0
 else t.p==[]&&t.d==[]&&t.v==0&&t.w==0
def gdE(t:GV):Int:=
 if opB t.o then(if BD9 t then(if t.d.length<=256 then(if fmB t then 0 else 2)else 1)else 3)else 4
theorem BE8{t:GV}(h:opB t.o=false):gdE t=4:=by simp[gdE,h]
theorem aF{t:GV}(h:opB t.o=true)(h1:BD9 t=false):gdE t=3:=by simp[gdE,h,h1]
theorem BE9{t:GV}(h:opB t.o=true)(h1:BD9 t=true)(h2:256<t.d.length):gdE t=1:=by
 simp[gdE,h,h1,show ¬t.d.length<=256 from by omega]
theorem BF0{t:GV}(h:opB t.o=true)(h1:BD9 t=true)(h2:t.d.length<=256)(h3:fmB t=false):gdE t=2:=by simp[gdE,h,h1,h2,h3]
theorem CG1{t:GV}(h:opB t.o=true)(h1:BD9 t=true)(h2:t.d.length<=256)(h3:fmB t=true):gdE t=0:=by simp[gdE,h,h1,h2,h3]
theorem gY{t:GV}(h:gdE t=0):opB t.o=true/\BD9 t=true/\t.d.length<=256/\fmB t=true:=by
 unfold gdE at h
 split at h
 .split at h
  .split at h
   .split at h
    .exact⟨‹_›,‹_›,‹_›,‹_›⟩
    .exact absurd h (by decide)
   .exact absurd h (by decide)
  .exact absurd h (by decide)
 .exact absurd h (by decide)
theorem zH{p:List UInt8}(h:J8 p=true):p.length<=200:=by
 unfold J8 at h;simp only[Bool.and_eq_true,decide_eq_true_eq]at h;exact h.1.1
theorem BW0{t:GV}(h:fmB t=true):t.p.length<=200:=by
 unfold fmB at h
 split at h
 .simp only[Bool.and_eq_true]at h;exact zH h.1.1
 .split at h
  .simp only[Bool.and_eq_true]at h;exact zH h.1.1.1.1
  .split at h
   .simp only[Bool.and_eq_true]at h;exact zH h.1
   .simp only[Bool.and_eq_true,beq_iff_eq]at h;rw[h.1.1.1];decide
theorem WQ{t:GV}(h:gdE t=0):(0<=t.z/\t.z<4611686018427387904)/\(1<=t.o/\t.o<=5)/\(1<=t.s/\t.s<=2147483647)/\(0<=t.v/\t.v<=2147483647)/\(0<=t.w/\t.w<=2147483647)/\t.p.length<=200/\t.d.length<=256:=by
 obtain⟨h1,h2,h3,h4⟩:=gY h;obtain⟨a,b,c,d⟩:=qE.1 h2;exact⟨MC.1 a,jC.1 h1,VB.1 b,VB.1 c,VB.1 d,BW0 h4,h3⟩
def RH(t:GV):List UInt8:=
 be 8 t.z.toNat++(be 1 t.o.toNat++(be 4 t.s.toNat++(be 4 t.v.toNat++(be 4 t.w.toNat++(be 1 t.p.length++(t.p++(be 2 t.d.length++t.d)))))))
def MW(b:List UInt8):List UInt8:=84::(be 2 b.length++b)
def RI(t:GV):List UInt8:=MW (RH t)++be 4 (A70 (MW (RH t)))
theorem QS(t:GV):(RH t).length=24+t.p.length+t.d.length:=by
 simp only[RH,List.length_append,IK];omega
theorem VD(b:List UInt8):(MW b).length=b.length+3:=by
 simp only[MW,List.length_cons,List.length_append,IK];omega
theorem VE(t:GV):(RI t).length=31+t.p.length+t.d.length:=by
 simp only[RI,List.length_append,IK,VD,QS];omega
def YD(b:List UInt8):Nat:=un ((b.drop 21).take 1)
def yT(b:List UInt8):Nat:=un ((b.drop (22+YD b)).take 2)
def tOf(b:List UInt8):GV:=
 ⟨wrap64 (un (b.take 8)),un ((b.drop 8).take 1),un ((b.drop 9).take 4),(b.drop 22).take (YD b),b.drop (24+YD b),un ((b.drop 13).take 4),un ((b.drop 17).take 4)⟩
def BE0(b:List UInt8):Bool:=decide (24+YD b<=b.length)&&decide (b.length=24+YD b+yT b)
def tY(b:List UInt8):Int:=if BE0 b then gdE (tOf b)else 2
def AT2(b:List UInt8):GV:=if tY b=0 then tOf b else t0
def lenOf(s:List UInt8):Nat:=un ((s.drop 1).take 2)
def WR(s:List UInt8):Bool:=s.take 1==[84]&&decide (lenOf s<=1024)&&decide (lenOf s+7<=s.length)
def AT3(s:List UInt8):Bool:=un ((s.drop (lenOf s+3)).take 4)==A70 (s.take (lenOf s+3))
def VF(s:List UInt8):List UInt8:=(s.drop 3).take (lenOf s)
def dM(s:List UInt8):Int:=if WR s then(if AT3 s then tY (VF s)else 5)else 2
def nD(s:List UInt8):GV:=if dM s=0 then tOf (VF s)else t0
def tZ(s:List UInt8):Int:=if dM s=0 then(lenOf s+7:Nat)else 0
theorem dO{s:List UInt8}(h:WR s=false):dM s=2/\nD s=t0/\tZ s=0:=by
 have e:dM s=2:=by simp[dM,h]
 exact⟨e,by simp[nD,e],by simp[tZ,e]⟩
theorem BZ8{s:List UInt8}(h:WR s=true)(h1:AT3 s=false):dM s=5/\nD s=t0/\tZ s=0:=by
 have e:dM s=5:=by simp[dM,h,h1]
 exact⟨e,by simp[nD,e],by simp[tZ,e]⟩
theorem BF1{s:List UInt8}(h:WR s=true)(h1:AT3 s=true){e:Int}(h2:tY (VF s)=e)(h3:e≠0):dM s=e/\nD s=t0/\tZ s=0:=by
 have e:dM s=e:=by simp[dM,h,h1,h2]
 exact⟨e,by rw[nD,e,if_neg h3],by rw[tZ,e,if_neg h3]⟩
theorem BW1{s:List UInt8}(h:WR s=true)(h1:AT3 s=true)(h2:tY (VF s)=0):dM s=0/\nD s=tOf (VF s)/\tZ s=(lenOf s+7:Nat):=by
 have e:dM s=0:=by simp[dM,h,h1,h2]
 exact⟨e,by rw[nD,e,if_pos rfl],by rw[tZ,e,if_pos rfl]⟩
theorem BZ9{b:List UInt8}(h:BE0 b=false):tY b=2/\AT2 b=t0:=by
 have e:tY b=2:=by simp[tY,h]
 exact⟨e,by simp[AT2,e]⟩
theorem CG2{b:List UInt8}(h:BE0 b=true)(h1:gdE (tOf b)≠0):tY b=gdE (tOf b)/\AT2 b=t0:=by
 have e:tY b=gdE (tOf b):=by simp[tY,h]
 exact⟨e,by rw[AT2,e,if_neg h1]⟩
theorem CG3{b:List UInt8}(h:BE0 b=true)(h1:gdE (tOf b)=0):tY b=0/\AT2 b=tOf b:=by
 have e:tY b=0:=by simp[tY,h,h1]
 exact⟨e,by rw[AT2,e,if_pos rfl]⟩
theorem dP{s:List UInt8}:WR s=true↔s.take 1=[84]/\lenOf s<=1024/\lenOf s+7<=s.length:=by
 simp[WR,and_assoc]
theorem aG{s:List UInt8}(h:¬ (s.take 1=[84]/\lenOf s<=1024/\lenOf s+7<=s.length)):WR s=false:=by
 cases hw:WR s with
 |false=>rfl
 |true=>exact absurd (dP.1 hw) h
theorem aH{b:List UInt8}:BE0 b=true↔24+YD b<=b.length/\b.length=24+YD b+yT b:=by simp[BE0]
theorem A71{s:List UInt8}:AT3 s=true↔un ((s.drop (lenOf s+3)).take 4)=A70 (s.take (lenOf s+3)):=by simp[AT3]
theorem uN{a b:List UInt8}{k:Nat}(h:a.length=k):(a++b).take k=a/\(a++b).drop k=b:=by
 subst h;simp
theorem PS{l a b:List UInt8}{j k:Nat}(h:l.drop j=a++b)(hk:a.length=k):l.drop (j+k)=b:=by
 rw[<-List.drop_drop,h];exact(uN hk).2
theorem NK{l a b:List UInt8}{j k:Nat}(h:l.drop j=a++b)(hk:a.length=k):(l.drop j).take k=a:=by
 rw[h];exact(uN hk).1
theorem CG4{n:Int}(h:0<=n)(h1:n<9223372036854775808):wrap64 n=n:=by unfold wrap64;omega
theorem BW2{t:GV}(h:gdE t=0):BE0 (RH t)=true/\tOf (RH t)=t:=by
 obtain⟨hz,ho,hs,hv,hw,hp,hd⟩:=WQ h;have e0:(RH t).drop 0=be 8 t.z.toNat++_:=rfl;have e1:=PS e0 (IK 8 _);have e2:=PS e1 (IK 1 _);have e3:=PS e2 (IK 4 _);have e4:=PS e3 (IK 4 _);have e5:=PS e4 (IK 4 _);have e6:=PS e5 (IK 1 _);have e7:=PS e6 (rfl:t.p.length=t.p.length);have e8:=PS e7 (IK 2 _);have g0:=NK e0 (IK 8 _);have g1:=NK e1 (IK 1 _);have g2:=NK e2 (IK 4 _);have g3:=NK e3 (IK 4 _);have g4:=NK e4 (IK 4 _);have g5:=NK e5 (IK 1 _);have g6:=NK e6 (rfl:t.p.length=t.p.length);have g7:=NK e7 (IK 2 _);simp only[Nat.zero_add,Nat.reduceAdd,List.drop_zero]at e1 e2 e3 e4 e5 e6 e7 e8 g0 g1 g2 g3 g4 g5 g6 g7;have hpl:YD (RH t)=t.p.length:=by rw[YD,g5];exact jB 1 _ (by omega)
 have hdl:yT (RH t)=t.d.length:=by rw[yT,hpl,g7];exact jB 2 _ (by omega)
 refine⟨aH.2 ?_,?_⟩
 .rw[hpl,hdl,QS];omega
 .rw[tOf,hpl,g0,g1,g2,g3,g4,g6,show 24+t.p.length=22+t.p.length+2 from by omega,e8];rw[jB 8 _ (by omega),jB 1 _ (by omega),jB 4 _ (by omega),jB 4 _ (by omega),jB 4 _ (by omega),CG4 (by omega) (by omega)];simp only[Int.toNat_of_nonneg hz.1,Int.toNat_of_nonneg hv.1,Int.toNat_of_nonneg hw.1,Int.toNat_of_nonneg (show 0<=t.o by omega),Int.toNat_of_nonneg (show 0<=t.s by omega)]
theorem BF2{t:GV}(h:gdE t=0):tY (RH t)=0:=by
 obtain⟨h1,h2⟩:=BW2 h;rw[tY,h1,h2,h];rfl
theorem AT4{b m more:List UInt8}(hb:b.length<=1024)(hm:m.length=4):
  WR (MW b++(m++more))=true/\lenOf (MW b++(m++more))=b.length/\VF (MW b++(m++more))=b/\
  AT3 (MW b++(m++more))=(un m==A70 (MW b)):=by
 have e0:(MW b++(m++more)).drop 1=be 2 b.length++(b++(m++more)):=by simp[MW]
 have g0:=NK e0 (IK 2 _);have e1:=PS e0 (IK 2 _);have g1:=NK e1 (rfl:b.length=b.length);have hl:lenOf (MW b++(m++more))=b.length:=by rw[lenOf,g0];exact jB 2 _ (by omega)
 have hf:(MW b).length=b.length+3:=VD b;refine⟨dP.2 ⟨by simp[MW],by omega,?_⟩,hl,?_,?_⟩
 .rw[hl,List.length_append,List.length_append,hf];omega
 .rw[VF,hl];exact g1
 .rw[AT3,hl,(uN hf).1,(uN hf).2,(uN hm).1]
theorem AT5(t:GV)(more:List UInt8):RI t++more=MW (RH t)++(be 4 (A70 (MW (RH t)))++more):=by rw[RI,List.append_assoc]
theorem dQ{t:GV}(h:gdE t=0):(RH t).length<=1024:=by
 obtain⟨_,_,_,_,_,hp,hd⟩:=WQ h;rw[QS];omega
theorem C01{t:GV}(h:gdE t=0)(more:List UInt8):dM (RI t++more)=0/\nD (RI t++more)=t/\tZ (RI t++more)=(RI t).length:=by
 rw[AT5];obtain⟨h1,h2,h3,h4⟩:=AT4 (b:=RH t) (m:=be 4 (A70 (MW (RH t)))) (more:=more) (dQ h) (IK 4 _);have hs:un (be 4 (A70 (MW (RH t))))=A70 (MW (RH t)):=jB 4 _ (by have:=AT0 (MW (RH t));omega);rw[hs,beq_self_eq_true]at h4;obtain⟨a,b,c⟩:=BW1 h1 h4 (by rw[h3];exact BF2 h);refine⟨a,?_,?_⟩
 .rw[b,h3];exact(BW2 h).2
 .rw[c,h2,QS,VE];omega
theorem C02{t:GV}(h:gdE t=0){k:Nat}(hk:k<(RI t).length):dM ((RI t).take k)=2/\tZ ((RI t).take k)=0:=by
 have hw:WR ((RI t).take k)=false:=aG (by
  rintro⟨h1,h2,h3⟩;rw[List.length_take]at h3;have e0:(RI t).drop 1=be 2 (RH t).length++(RH t++be 4 (A70 (MW (RH t)))):=by simp[RI,MW]
  have g0:=NK e0 (IK 2 _);have hl:lenOf ((RI t).take k)=(RH t).length:=by
   rw[lenOf,List.drop_take,List.take_take,show min 2 (k-1)=2 from by omega,g0];exact jB 2 _ (by have:=dQ h;omega)
  rw[hl,QS]at h3;rw[VE]at hk;omega)
 exact⟨(dO hw).1,(dO hw).2.2⟩
def IJ:List GV->List UInt8
 |[]=>[]
 |t::l=>RI t++IJ l
theorem LM:∀a b,IJ (a++b)=IJ a++IJ b
 |[],_=>rfl
 |t::a,b=>by rw[List.cons_append,IJ,IJ,LM a b,List.append_assoc]
theorem QB(a:List GV)(t:GV):IJ (a++[t])=IJ a++RI t:=by rw[LM,IJ,IJ,List.append_nil]
def J7(l:List GV):Int:=l.foldl (fun _ t=>t.z) 0
theorem UE(l:List GV)(t:GV):J7 (l++[t])=t.z:=by simp[J7]
theorem WS:J7 []=0:=rfl
def jD(l:List GV)(t:GV):Bool:=decide (l.length=0)||decide (J7 l<t.z)
theorem nG{l:List GV}{t:GV}(h:l.length≠0):jD l t=decide (J7 l<t.z):=by simp[jD,h]
theorem AT6{l:List GV}(h:l.length≠0):∃m x,l=m++[x]:=by
 rcases List.eq_nil_or_concat l with rfl|⟨m,x,rfl⟩
 .exact absurd rfl h
 .exact⟨m,x,List.concat_eq_append⟩
structure Logs(ts:List GV):Prop where
 good:∀t∈ts,gdE t=0
 rise:ts.Pairwise fun a b=>a.z<b.z
theorem Logs.nil:Logs []:=⟨by simp,List.Pairwise.nil⟩
theorem Logs.le_last{ts:List GV}(h:Logs ts){a:GV}(ha:a∈ts):a.z<=J7 ts:=by
 rcases List.eq_nil_or_concat ts with rfl|⟨m,x,e⟩
 .simp at ha
 .rw[List.concat_eq_append]at e;subst e;rw[UE];rcases List.mem_append.1 ha with h1|h1
  .have:=(List.pairwise_append.1 h.rise).2.2 a h1 x (by simp);omega
  .simp at h1;subst h1;omega
theorem Logs.left{a b:List GV}(h:Logs (a++b)):Logs a:=⟨fun t ht=>h.good t (by simp[ht]),(List.pairwise_append.1 h.rise).1⟩
theorem Logs.at{a b:List GV}{t:GV}(h:Logs (a++t::b)):gdE t=0/\jD a t=true:=by
 refine⟨h.good t (by simp),?_⟩;by_cases h0:a.length=0
 .simp[jD,h0]
 .rw[nG h0];obtain⟨m,x,rfl⟩:=AT6 h0;rw[UE];exact decide_eq_true ((List.pairwise_append.1 h.rise).2.2 x (by simp) t (by simp))
structure Scan(s:List UInt8)(ts:List GV)(r:List UInt8):Prop where
 eq:s=IJ ts++r
 log:Logs ts
 stop:dM r≠0\/jD ts (nD r)=false
theorem C03:dM []≠0:=by rw[(dO (s:=[]) (by decide)).1];decide
theorem uO{ts:List GV}(h:Logs ts):Scan (IJ ts) ts []:=⟨by simp,h,.inl C03⟩
theorem AT7{ts:List GV}{t:GV}(h:Logs ts)(hg:gdE t=0){k:Nat}(hk:k<(RI t).length):Scan (IJ ts++(RI t).take k) ts ((RI t).take k):=
 ⟨rfl,h,.inl (by rw[(C02 hg hk).1];decide)⟩
theorem Scan.len{s r:List UInt8}{ts:List GV}(h:Scan s ts r):(IJ ts).length+r.length=s.length:=by rw[h.eq,List.length_append]
theorem qF:∀ts:List GV,ts.length*31<=(IJ ts).length
 |[]=>by simp[IJ]
 |t::l=>by
  have:=qF l;rw[IJ,List.length_append,VE,List.length_cons];omega
theorem jE{t:GV}(h:gdE t=0):(RI t).length<=487:=by
 obtain⟨_,_,_,_,_,hp,hd⟩:=WQ h;rw[VE];omega
theorem A72:∀ts:List GV,(∀t∈ts,gdE t=0)->(IJ ts).length<=ts.length*487
 |[],_=>by simp[IJ]
 |t::l,h=>by
  have h1:=A72 l (fun x hx=>h x (by simp[hx]));have h2:=jE (h t (by simp));rw[IJ,List.length_append,List.length_cons];omega
theorem QC{ts:List GV}{k:Nat}{t:GV}(h:ts[k]?=some t):ts.take (k+1)=ts.take k++[t]:=by
 obtain⟨hk,rfl⟩:=List.getElem?_eq_some_iff.1 h;exact List.take_succ_eq_append_getElem hk
abbrev bl(a b:List UInt8):Bool:=Op.bytesLess a b
theorem QT:∀a,bl a a=false
 |[]=>rfl
 |x::a=>by
  have h:¬x<x:=UInt8.lt_irrefl x;have:=QT a;simp only[bl]at this;simp[bl,Op.bytesLess,h,this]
theorem RU:∀a b c,bl a b=true->bl b c=true->bl a c=true
 |[],_,[],_,h=>by cases ‹List UInt8› <;>simp[bl,Op.bytesLess]at h
 |[],_,_::_,_,_=>by simp[bl,Op.bytesLess]
 |_::_,[],_,h,_=>by simp[bl,Op.bytesLess]at h
 |_::_,_::_,[],_,h=>by simp[bl,Op.bytesLess]at h
 |x::a,y::b,z::c,h1,h2=>by
  have ih:=RU a b c;simp only[bl,Op.bytesLess,Bool.or_eq_true,Bool.and_eq_true,decide_eq_true_eq,beq_iff_eq]at h1 h2 ih⊢;rcases h1 with h1|⟨h1,h1'⟩<;>rcases h2 with h2|⟨h2,h2'⟩
  .exact .inl (UInt8.lt_trans h1 h2)
  .subst h2;exact .inl h1
  .subst h1;exact .inl h2
  .subst h1 h2;exact .inr ⟨rfl,ih h1' h2'⟩
theorem TU:∀a b,bl a b=false->bl b a=false->a=b
 |[],[],_,_=>rfl
 |[],_::_,h,_=>by simp[bl,Op.bytesLess]at h
 |_::_,[],_,h=>by simp[bl,Op.bytesLess]at h
 |x::a,y::b,h1,h2=>by
  have ih:=TU a b;simp only[bl,Op.bytesLess,Bool.or_eq_false_iff,Bool.and_eq_false_iff,decide_eq_false_iff_not,beq_eq_false_iff_ne]at h1 h2 ih;have e:x=y:=UInt8.le_antisymm (UInt8.not_lt.1 h2.1) (UInt8.not_lt.1 h1.1);subst e;rw[ih (h1.2.elim (fun h=>absurd rfl h) id) (h2.2.elim (fun h=>absurd rfl h) id)]
theorem OT{a b:List UInt8}(h:bl a b=true):bl b a=false:=by
 cases h':bl b a with
 |false=>rfl
 |true=>have:=RU a b a h h';rw[QT]at this;cases this
theorem WT{a b:List UInt8}(h:bl a b=true):a≠b:=by rintro rfl;rw[QT]at h;cases h
theorem A76:∀a b,decide (Lib.compareBytes a b<0)=bl a b
 |[],[]=>by simp[bl,Op.bytesLess,Lib.compareBytes]
 |[],_::_=>by simp[bl,Op.bytesLess,Lib.compareBytes]
 |_::_,[]=>by simp[bl,Op.bytesLess,Lib.compareBytes]
 |x::a,y::b=>by
  have ih:=A76 a b;simp only[bl]at ih;simp only[bl,Op.bytesLess,Lib.compareBytes];by_cases h1:x<y
  .simp[h1]
  .by_cases h2:y<x
   .have:x≠y:=by rintro rfl;exact h1 h2
    simp[h1,h2,this]
   .have:x=y:=UInt8.le_antisymm (UInt8.not_lt.1 h2) (UInt8.not_lt.1 h1);subst this;simp[h1,<-ih]
theorem gZ:∀a b,decide (Lib.compareBytes a b=0)=decide (a=b)
 |[],[]=>by simp[Lib.compareBytes]
 |[],_::_=>by simp[Lib.compareBytes]
 |_::_,[]=>by simp[Lib.compareBytes]
 |x::a,y::b=>by
  have ih:=gZ a b;simp only[Lib.compareBytes];by_cases h1:x<y
  .have:x≠y:=by rintro rfl;exact UInt8.lt_irrefl x h1
   simp[h1,this]
  .by_cases h2:y<x
   .have:x≠y:=by rintro rfl;exact h1 h2
    simp[h1,h2,this]
   .have:x=y:=UInt8.le_antisymm (UInt8.not_lt.1 h2) (UInt8.not_lt.1 h1);subst this;simp[h1,ih]
structure DF where
 n:List UInt8
 s:List UInt8
 t:List UInt8
instance:Inhabited DF:=⟨⟨[],[],[]⟩⟩
def QU(f:DF):Bool:=JF f.n&&decide (f.s.length+f.t.length<=1048576)
def Asc(fs:List DF):Prop:=fs.Pairwise fun a b=>bl a.n b.n=true
structure LV(fs:List DF):Prop where
 few:fs.length<=16
 ok:∀f∈fs,QU f=true
 asc:Asc fs
noncomputable def VH(fs:List DF):Bool:= @decide (LV fs) (Classical.propDecidable _)
theorem MZ{fs:List DF}:VH fs=true↔LV fs:=by unfold VH;exact @decide_eq_true_iff _ (Classical.propDecidable _)
theorem ZF{fs:List DF}:VH fs=false↔¬LV fs:=by unfold VH;exact @decide_eq_false_iff_not _ (Classical.propDecidable _)
def C04(fs:List DF)(k:Nat):Prop:=∀i,i<k->∀f,fs[i]?=some f->QU f=true/\∀g,0<i->fs[i-1]?=some g->bl g.n f.n=true
theorem AU1(fs:List DF):C04 fs 0:=fun _ h=>absurd h (Nat.not_lt_zero _)
theorem AU2{fs:List DF}{k:Nat}(h:C04 fs k){f:DF}(hf:fs[k]?=some f)(h1:QU f=true)(h2:∀g,0<k->fs[k-1]?=some g->bl g.n f.n=true):C04 fs (k+1):=by
 intro i hi f' hf';by_cases e:i=k
 .subst e;rw[hf]at hf'
  cases hf'
  exact⟨h1,h2⟩
 .exact h i (by omega) f' hf'
theorem zI{fs:List DF}(h:C04 fs fs.length):Asc fs:=by
 have step:∀j i,(hij:i<j)->∀ (hj:j<fs.length),bl (fs[i]'(Nat.lt_trans hij hj)).n fs[j].n=true:=by
  intro j
  induction j with
  |zero=>intro i hi;omega
  |succ j ih=>
   intro i hi hj;have h1:=(h (j+1) hj _ (List.getElem?_eq_getElem hj)).2 fs[j] (by omega) (by simp);by_cases e:i=j
   .subst e;exact h1
   .exact RU _ _ _ (ih i (by omega) (by omega)) h1
 exact List.pairwise_iff_getElem.2 fun i j hi hj hij=>step j i hij hj
theorem uP{fs:List DF}(hl:fs.length<=16)(h:C04 fs fs.length):VH fs=true:=
 MZ.2 ⟨hl,fun f hf=>by
  obtain⟨i,hi,rfl⟩:=List.getElem_of_mem hf;exact(h i hi _ (List.getElem?_eq_getElem hi)).1,zI h⟩
theorem C05{fs:List DF}(h:16<fs.length):VH fs=false:=ZF.2 fun g=>by have:=g.few;omega
theorem BF7{fs:List DF}{k:Nat}{f:DF}(hf:fs[k]?=some f)(h:QU f=false):VH fs=false:=
 ZF.2 fun g=>by rw[g.ok f (List.mem_of_getElem? hf)]at h;cases h
theorem AU3{fs:List DF}{k:Nat}{f g:DF}(hf:fs[k]?=some f)(hg:fs[k-1]?=some g)(h0:0<k)(h:bl g.n f.n=false):VH fs=false:=
 ZF.2 fun G=>by
  obtain⟨hk,rfl⟩:=List.getElem?_eq_some_iff.1 hf;obtain⟨hk',rfl⟩:=List.getElem?_eq_some_iff.1 hg;rw[List.pairwise_iff_getElem.1 G.asc (k-1) k hk' hk (by omega)]at h
  cases h
structure There(fs A:List DF)(f:DF)(B:List DF)(name:List UInt8):Prop where
 eq:fs=A++f::B
 nm:f.n=name
 lo:∀a∈A,bl a.n name=true
 hi:∀b∈B,bl name b.n=true
structure Gap(fs A B:List DF)(name:List UInt8):Prop where
 eq:fs=A++B
 lo:∀a∈A,bl a.n name=true
 hi:∀b∈B,bl name b.n=true
theorem A77(name:List UInt8):∀fs:List DF,Asc fs->(∃A f B,There fs A f B name)\/∃A B,Gap fs A B name
 |[],_=>.inr ⟨[],[],rfl,by simp,by simp⟩
 |x::r,h=>by
  obtain⟨hx,hr⟩:=List.pairwise_cons.1 h
  cases h1:bl x.n name with
  |true=>
   rcases A77 name r hr with⟨A,f,B,T⟩|⟨A,B,G⟩
   .exact .inl ⟨x::A,f,B,by rw[T.eq];rfl,T.nm,by simp[h1];exact T.lo,T.hi⟩
   .exact .inr ⟨x::A,B,by rw[G.eq];rfl,by simp[h1];exact G.lo,G.hi⟩
  |false=>
   cases h2:bl name x.n with
   |true=>exact .inr ⟨[],x::r,rfl,by simp,by simp[h2];exact fun b hb=>RU _ _ _ h2 (hx b hb)⟩
   |false=>
    have e:=TU _ _ h1 h2;exact .inl ⟨[],x,r,rfl,e,by simp,fun b hb=>by rw[<-e];exact hx b hb⟩
theorem There.ok{fs A B:List DF}{f:DF}{name:List UInt8}(T:There fs A f B name)(g:LV fs):QU f=true:=g.ok f (by rw[T.eq];simp)
theorem NZ{f:DF}(h:QU f=true):f.s.length+f.t.length<=1048576:=by simp[QU]at h;exact h.2
theorem WU{f:DF}(h:QU f=true):JF f.n=true:=by simp[QU]at h;exact h.1
end Go.Proofs.YtefephchbjfdfaaGreatDoor
namespace Go.Proofs.YtefephchbjfdfaaGreatDoor
structure Ev where
 k:Int
 p:List UInt8
end Go.Proofs.YtefephchbjfdfaaGreatDoor
namespace Go.Proofs.YtefephchbjfdfaaGreatDoor
open Go.RowKit
def JH(f:DF):List Value:=[S0 f.n,S0 f.s,S0 f.t]
def BH9(f:DF):Value:=.agg #[S0 f.n,S0 f.s,S0 f.t]
def I9:List DF->List Value
 |[]=>[]
 |f::r=>JH f++I9 r
theorem H8:∀fs:List DF,(I9 fs).length=fs.length*3
 |[]=>rfl
 |f::r=>by rw[I9,List.length_append,H8 r];simp[JH];omega
theorem JV:∀a b:List DF,I9 (a++b)=I9 a++I9 b
 |[],_=>rfl
 |f::r,b=>by rw[List.cons_append,I9,I9,JV r b,List.append_assoc]
theorem YF:∀ (fs:List DF) (i:Nat) (f:DF),fs[i]?=some f->∀c,c<3->(I9 fs)[i*3+c]?=(JH f)[c]?
 |[],i,f,h,_,_=>by simp at h
 |x::r,0,f,h,c,hc=>by
  simp at h;subst h;rw[I9,List.getElem?_append_left (by simp[JH];omega)];simp
 |x::r,i+1,f,h,c,hc=>by
  rw[I9,List.getElem?_append_right (by simp[JH];omega),<-YF r i f (by simpa using h) c hc]
  congr 1
  simp[JH];omega
theorem YG(fs:List DF):∀u∈I9 fs,u.oneCell'=true:=by
 induction fs with
 |nil=>simp[I9]
 |cons f r ih=>
  intro u hu;rcases List.mem_append.1 hu with h|h
  .simp[JH]at h;rcases h with rfl|rfl|rfl<;>rfl
  .exact ih u h
theorem nU:∀ (fs:List DF) (i:Nat) (f g:DF),fs[i]?=some f->∀c v,c<3->(JH g)=(JH f).set c v->(I9 fs).set (i*3+c) v=I9 (fs.set i g)
 |[],i,f,g,h,_,_,_,_=>by simp at h
 |x::r,0,f,g,h,c,v,hc,hg=>by
  simp at h;subst h;rw[I9,List.set_cons_zero,I9,hg,List.set_append_left _ _ (by simp[JH];omega)];simp
 |x::r,i+1,f,g,h,c,v,hc,hg=>by
  rw[I9,List.set_cons_succ,I9,List.set_append_right _ _ (by simp[JH];omega),<-nU r i f g (by simpa using h) c v hc hg]
  congr 2
  simp[JH];omega
def II(w:World)(b off:Nat)(cs:List Value):Prop:=∀j v,cs[j]?=some v->w.cell? ⟨b,off+j,none⟩=some v
theorem II.c0{w:World}{b off:Nat}{fs:List DF}(h:II w b off (I9 fs)){i:Nat}{f:DF}(hi:fs[i]?=some f):w.cell? ⟨b,off+i*3,none⟩=some (S0 f.n):=
 h (i*3) _ (by have:=YF fs i f hi 0 (by omega);simpa [JH]using this)
theorem II.c1{w:World}{b off:Nat}{fs:List DF}(h:II w b off (I9 fs)){i:Nat}{f:DF}(hi:fs[i]?=some f):w.cell? ⟨b,off+i*3+1,none⟩=some (S0 f.s):=by
 rw[Nat.add_assoc];exact h (i*3+1) _ (by have:=YF fs i f hi 1 (by omega);simpa [JH]using this)
theorem II.c2{w:World}{b off:Nat}{fs:List DF}(h:II w b off (I9 fs)){i:Nat}{f:DF}(hi:fs[i]?=some f):w.cell? ⟨b,off+i*3+2,none⟩=some (S0 f.t):=by
 rw[Nat.add_assoc];exact h (i*3+2) _ (by have:=YF fs i f hi 2 (by omega);simpa [JH]using this)
theorem II.kept{w w':World}{b off B:Nat}{cs:List Value}(h:II w b off cs)(hb:Below B w w')(hB:b<B):II w' b off cs:=
 fun j v hj=>by rw[hb.cell (p:=⟨b,off+j,none⟩) hB];exact h j v hj
def IY(w:World)(v:Value)(fs:List DF):Prop:=
 (∃a cap,v=.slice a 0 cap/\fs=[]/\cap<=maxLen)\/
 ∃b off cap,v=.slice (some ⟨b,off,none⟩) fs.length cap/\fs.length<=cap/\cap<=maxLen/\b<w.heap.size/\fs≠[]/\II w b off (I9 fs)
theorem IY.kept{w w':World}{B:Nat}{v:Value}{fs:List DF}(h:IY w v fs)(hb:Below B w w')(hB:w.heap.size<=B):IY w' v fs:=by
 rcases h with h|⟨b,off,cap,rfl,h1,h2,h3,h0,h4⟩
 .exact .inl h
 .exact .inr ⟨b,off,cap,rfl,h1,h2,Nat.lt_of_lt_of_le h3 hb.size,h0,h4.kept hb (Nat.lt_of_lt_of_le h3 hB)⟩
theorem IY.next{w w':World}{v:Value}{fs:List DF}(h:IY w v fs)(hb:B0 w w'):IY w' v fs:=h.kept hb (Nat.le_refl _)
theorem IY.alloc{w:World}{v:Value}{fs:List DF}(h:IY w v fs)(o:Obj):IY (w.alloc o) v fs:=h.next ((Below.refl _ _).alloc (Nat.le_refl _) o)
theorem IY.drew{w:World}{v:Value}{fs:List DF}(h:IY w v fs):IY w.drew v fs:=h.next (Below.refl _ _).drew
theorem IY.nil(w:World):IY w (N0) []:=.inl ⟨none,0,rfl,rfl,by decide⟩
def Own(W:World)(g cap:Nat)(fs:List DF):Prop:=∃rest:List Value,W.heap[g]?=some (.cells (I9 fs++rest).toArray 63 (0,0))/\fs.length*3+rest.length=cap*3/\cap<=maxLen
theorem Own.lt{W:World}{g cap:Nat}{fs:List DF}(h:Own W g cap fs):g<W.heap.size:=by
 obtain⟨rest,h1,_⟩:=h;exact(Array.getElem?_eq_some_iff.1 h1).1
theorem Own.le{W:World}{g cap:Nat}{fs:List DF}(h:Own W g cap fs):fs.length<=cap:=by obtain⟨rest,_,h2,_⟩:=h;omega
theorem Own.capLe{W:World}{g cap:Nat}{fs:List DF}(h:Own W g cap fs):cap<=maxLen:=by obtain⟨rest,_,_,h3⟩:=h;exact h3
theorem Own.row{W:World}{g cap:Nat}{fs:List DF}(h:Own W g cap fs):II W g 0 (I9 fs):=by
 obtain⟨rest,h1,_⟩:=h;intro j v hj;have hlt:j<(I9 fs).length:=(List.getElem?_eq_some_iff.1 hj).1;simp[World.cell?,h1,List.getElem?_append_left hlt,hj]
theorem Own.frozen{W:World}{g cap:Nat}{fs:List DF}(h:Own W g cap fs)(j:Nat):W.frozen? ⟨g,j,none⟩=false:=by
 obtain⟨rest,h1,_⟩:=h;simp[World.frozen?,h1]
theorem Own.c0{W:World}{g cap:Nat}{fs:List DF}(h:Own W g cap fs){i:Nat}{f:DF}(hi:fs[i]?=some f):W.cell? ⟨g,i*3,none⟩=some (S0 f.n):=by simpa using h.row.c0 hi
theorem Own.c1{W:World}{g cap:Nat}{fs:List DF}(h:Own W g cap fs){i:Nat}{f:DF}(hi:fs[i]?=some f):W.cell? ⟨g,i*3+1,none⟩=some (S0 f.s):=by simpa using h.row.c1 hi
theorem Own.c2{W:World}{g cap:Nat}{fs:List DF}(h:Own W g cap fs){i:Nat}{f:DF}(hi:fs[i]?=some f):W.cell? ⟨g,i*3+2,none⟩=some (S0 f.t):=by simpa using h.row.c2 hi
theorem Own.kept{W V:World}{g B cap:Nat}{fs:List DF}(h:Own W g cap fs)(hb:Below B W V)(hg:g<B):Own V g cap fs:=by
 obtain⟨rest,h1,h2⟩:=h;exact⟨rest,(hb.block _ hg).trans h1,h2⟩
theorem Own.next{W V:World}{g cap:Nat}{fs:List DF}(h:Own W g cap fs)(hb:B0 W V):Own V g cap fs:=h.kept hb h.lt
theorem Own.alloc{W:World}{g cap:Nat}{fs:List DF}(h:Own W g cap fs)(o:Obj):Own (W.alloc o) g cap fs:=h.next ((Below.refl _ _).alloc (Nat.le_refl _) o)
theorem Own.drew{W:World}{g cap:Nat}{fs:List DF}(h:Own W g cap fs):Own W.drew g cap fs:=h
theorem Own.other{W:World}{g cap:Nat}{fs:List DF}(h:Own W g cap fs){a:Addr}(ha:g≠a.block)(v:Value):Own (W.setCell a v) g cap fs:=by
 obtain⟨rest,h1,h2⟩:=h;exact⟨rest,(Below.heap_setCell W a v g ha).trans h1,h2⟩
theorem GY{w:World}{g j:Nat}{cur:Array Value}{t:TypeId}{fz:Nat×Nat}(v:Value)(h:w.heap[g]?=some (.cells cur t fz)):
  (w.setCell ⟨g,j,none⟩ v).heap[g]?=some (.cells (cur.setIfInBounds j v) t fz):=by
 obtain⟨hlt,hk⟩:=Array.getElem?_eq_some_iff.1 h;show (w.heap.modify g _)[g]?=_;rw[Array.getElem?_eq_getElem (by rw[Array.size_modify];exact hlt),Array.getElem_modify_self,hk];rfl
theorem Own.set{W:World}{g cap:Nat}{fs:List DF}(h:Own W g cap fs){i:Nat}{f f':DF}(hi:fs[i]?=some f){c:Nat}(hc:c<3){v:Value}(hf:JH f'=(JH f).set c v):Own (W.setCell ⟨g,i*3+c,none⟩ v) g cap (fs.set i f'):=by
 obtain⟨rest,h1,h2,h3⟩:=h;refine⟨rest,?_,by simpa using h2,h3⟩;have hl:i<fs.length:=(List.getElem?_eq_some_iff.1 hi).1;rw[GY v h1,<-nU fs i f f' hi c v hc hf];simp[List.set_append_left _ _ (show i*3+c<(I9 fs).length by rw[H8];omega)]
theorem Own.s1{W:World}{g cap:Nat}{fs:List DF}(h:Own W g cap fs){i:Nat}{f:DF}(hi:fs[i]?=some f)(x:List UInt8):Own (W.setCell ⟨g,i*3+1,none⟩ (S0 x)) g cap (fs.set i ⟨f.n,x,f.t⟩):=h.set hi (c:=1) (by omega) rfl
theorem Own.s2{W:World}{g cap:Nat}{fs:List DF}(h:Own W g cap fs){i:Nat}{f:DF}(hi:fs[i]?=some f)(x:List UInt8):Own (W.setCell ⟨g,i*3+2,none⟩ (S0 x)) g cap (fs.set i ⟨f.n,f.s,x⟩):=h.set hi (c:=2) (by omega) rfl
def YH(W:World)(B:Nat)(v:Value)(fs:List DF):Prop:=(v=N0/\fs=[])\/∃g cap,v=.slice (some ⟨g,0,none⟩) fs.length cap/\B<=g/\Own W g cap fs
theorem YH.disk{W:World}{B:Nat}{v:Value}{fs:List DF}(h:YH W B v fs):IY W v fs:=by
 rcases h with⟨rfl,rfl⟩|⟨g,cap,rfl,_,h⟩
 .exact IY.nil W
 .by_cases h0:fs=[]
  .subst h0;exact .inl ⟨_,cap,rfl,rfl,h.capLe⟩
  .exact .inr ⟨g,0,cap,rfl,h.le,h.capLe,h.lt,h0,h.row⟩
theorem YH.next{W V:World}{B:Nat}{v:Value}{fs:List DF}(h:YH W B v fs)(hb:B0 W V):YH V B v fs:=by
 rcases h with h|⟨g,cap,rfl,hB,h⟩
 .exact .inl h
 .exact .inr ⟨g,cap,rfl,hB,h.next hb⟩
theorem YH.LD{W:World}{B:Nat}{v:Value}{fs:List DF}(h:W.ownsRow B 63 3 v fs.length (I9 fs)):YH W B v fs:=by
 obtain⟨_,⟨rfl,h0⟩|⟨g,cap,cur,rfl,hB,hg,hn,hm,hs,ht⟩⟩:=h
 .exact .inl ⟨rfl,List.eq_nil_of_length_eq_zero h0⟩
 .refine .inr ⟨g,cap,rfl,hB,cur.toList.drop (fs.length*3),?_,?_,hm⟩
  .rw[hg,<-ht,List.take_append_drop]
  .simp[hs];omega
theorem YH.row{W:World}{B:Nat}{v:Value}{fs:List DF}(h:YH W B v fs):W.ownsRow B 63 3 v fs.length (I9 fs):=by
 refine⟨H8 fs,?_⟩;rcases h with⟨rfl,rfl⟩|⟨g,cap,rfl,hB,h⟩
 .exact .inl ⟨rfl,rfl⟩
 .have hle:=h.le;obtain⟨rest,h1,h2,h3⟩:=h;refine .inr ⟨g,cap,_,rfl,hB,h1,hle,h3,by simp[H8,h2],?_⟩;simp[<-H8 fs]
class Lay (α:Type) where
 k:Nat
 cs:α->List Value
 ty:TypeId
 len:∀x,(cs x).length=k
 one:∀x,∀u∈cs x,u.oneCell'=true
def AX4(e:Ev):List Value:=[I0 e.k,S0 e.p]
def evV(e:Ev):Value:=.agg #[I0 e.k,S0 e.p]
instance layE:Lay Ev:=⟨2,AX4,40,fun _=>rfl,fun x u hu=>by simp[AX4]at hu;rcases hu with rfl|rfl<;>rfl⟩
instance layI:Lay Int:=⟨1,fun x=>[I0 x],3,fun _=>rfl,fun x u hu=>by simp at hu;subst hu;rfl⟩
instance layS:Lay (List UInt8):=⟨1,fun x=>[S0 x],9,fun _=>rfl,fun x u hu=>by simp at hu;subst hu;rfl⟩
section
variable {α:Type} [Lay α]
def GL(xs:List α):List Value:=xs.flatMap Lay.cs
theorem SX:GL ([]:List α)=[]:=rfl
theorem JW(x:α)(r:List α):GL (x::r)=Lay.cs x++GL r:=by simp[GL]
theorem GX(xs:List α):(GL xs).length=xs.length*Lay.k α:=by
 induction xs with
 |nil=>simp[GL]
 |cons x r ih=>rw[JW,List.length_append,Lay.len,ih,List.length_cons,Nat.add_mul];omega
theorem I8(a b:List α):GL (a++b)=GL a++GL b:=by simp[GL]
theorem JJ(a:List α)(x:α):GL (a++[x])=GL a++Lay.cs x:=by simp[GL]
theorem AX5(A:List α)(x:α)(B:List α)(c:Nat)(hc:c<Lay.k α):(GL (A++x::B))[A.length*Lay.k α+c]?=(Lay.cs x)[c]? :=by
 rw[I8,List.getElem?_append_right (by rw[GX];omega),GX,Nat.add_sub_cancel_left,JW,List.getElem?_append_left (by rw[Lay.len];exact hc)]
theorem GZ(xs:List α)(i:Nat)(x:α)(h:xs[i]?=some x)(c:Nat)(hc:c<Lay.k α):(GL xs)[i*Lay.k α+c]?=(Lay.cs x)[c]? :=by
 obtain⟨hi,rfl⟩:=List.getElem?_eq_some_iff.1 h;have e:xs=xs.take i++xs[i]::xs.drop (i+1):=by simp
 have:=AX5 (xs.take i) xs[i] (xs.drop (i+1)) c hc;rw[<-e,List.length_take,Nat.min_eq_left (Nat.le_of_lt hi)]at this;exact this
theorem JK(xs:List α):∀u∈GL xs,u.oneCell'=true:=by
 intro u hu;obtain⟨x,_,hx⟩:=List.mem_flatMap.1 hu;exact Lay.one x u hx
theorem AI7(A:List α)(x y:α)(B:List α)(c:Nat)(v:Value)(hc:c<Lay.k α)(hy:Lay.cs y=(Lay.cs x).set c v):(GL (A++x::B)).set (A.length*Lay.k α+c) v=GL (A++y::B):=by
 rw[I8,I8,List.set_append_right _ _ (by rw[GX];omega),GX,Nat.add_sub_cancel_left,JW,JW,List.set_append_left _ _ (by rw[Lay.len];exact hc),hy]
def IV(w:World)(v:Value)(xs:List α):Prop:=
 (∃a cap,v=.slice a 0 cap/\xs=[]/\cap<=maxLen)\/
 ∃b off cap,v=.slice (some ⟨b,off,none⟩) xs.length cap/\xs.length<=cap/\cap<=maxLen/\b<w.heap.size/\xs≠[]/\II w b off (GL xs)
theorem IV.kept{w w':World}{B:Nat}{v:Value}{xs:List α}(h:IV w v xs)(hb:Below B w w')(hB:w.heap.size<=B):IV w' v xs:=by
 rcases h with h|⟨b,off,cap,rfl,h1,h2,h3,h0,h4⟩
 .exact .inl h
 .exact .inr ⟨b,off,cap,rfl,h1,h2,Nat.lt_of_lt_of_le h3 hb.size,h0,h4.kept hb (Nat.lt_of_lt_of_le h3 hB)⟩
theorem IV.next{w w':World}{v:Value}{xs:List α}(h:IV w v xs)(hb:B0 w w'):IV w' v xs:=h.kept hb (Nat.le_refl _)
theorem IV.alloc{w:World}{v:Value}{xs:List α}(h:IV w v xs)(o:Obj):IV (w.alloc o) v xs:=h.next ((Below.refl _ _).alloc (Nat.le_refl _) o)
theorem IV.nil(w:World):IV w (N0) ([]:List α):=.inl ⟨none,0,rfl,rfl,by decide⟩
theorem GU{w:World}{v:Value}{xs:List α}(hv:IV w v xs):∃a c,v=.slice a xs.length c:=by
 rcases hv with⟨a,cap,rfl,rfl,_⟩|⟨b,off,cap,rfl,_⟩
 .exact⟨_,_,rfl⟩
 .exact⟨_,_,rfl⟩
theorem N8{w:World}{v:Value}{xs:List α}(hv:IV w v xs)(h0:xs≠[]):
  ∃b off cap,v=.slice (some ⟨b,off,none⟩) xs.length cap/\b<w.heap.size/\II w b off (GL xs)/\xs.length<=cap/\cap<=maxLen:=by
 rcases hv with⟨a,cap,rfl,rfl,_⟩|⟨b,off,cap,rfl,h1,h2,hb,_,hr⟩
 .exact absurd rfl h0
 .exact⟨b,off,cap,rfl,hb,hr,h1,h2⟩
def JD(W:World)(g cap:Nat)(xs:List α):Prop:=∃rest:List Value,W.heap[g]?=some (.cells (GL xs++rest).toArray (Lay.ty α) (0,0))/\xs.length*Lay.k α+rest.length=cap*Lay.k α/\xs.length<=cap/\cap<=maxLen
theorem JD.lt{W:World}{g cap:Nat}{xs:List α}(h:JD W g cap xs):g<W.heap.size:=by
 obtain⟨rest,h1,_⟩:=h;exact(Array.getElem?_eq_some_iff.1 h1).1
theorem JD.le{W:World}{g cap:Nat}{xs:List α}(h:JD W g cap xs):xs.length<=cap:=by obtain⟨rest,_,_,h2,_⟩:=h;exact h2
theorem JD.capLe{W:World}{g cap:Nat}{xs:List α}(h:JD W g cap xs):cap<=maxLen:=by obtain⟨rest,_,_,_,h3⟩:=h;exact h3
theorem JD.row{W:World}{g cap:Nat}{xs:List α}(h:JD W g cap xs):II W g 0 (GL xs):=by
 obtain⟨rest,h1,_⟩:=h;intro j v hj;have hlt:j<(GL xs).length:=(List.getElem?_eq_some_iff.1 hj).1;simp[World.cell?,h1,List.getElem?_append_left hlt,hj]
theorem JD.frozen{W:World}{g cap:Nat}{xs:List α}(h:JD W g cap xs)(j:Nat):W.frozen? ⟨g,j,none⟩=false:=by
 obtain⟨rest,h1,_⟩:=h;simp[World.frozen?,h1]
theorem JD.kept{W V:World}{g B cap:Nat}{xs:List α}(h:JD W g cap xs)(hb:Below B W V)(hg:g<B):JD V g cap xs:=by
 obtain⟨rest,h1,h2⟩:=h;exact⟨rest,(hb.block _ hg).trans h1,h2⟩
theorem JD.next{W V:World}{g cap:Nat}{xs:List α}(h:JD W g cap xs)(hb:B0 W V):JD V g cap xs:=h.kept hb h.lt
theorem JD.other{W:World}{g cap:Nat}{xs:List α}(h:JD W g cap xs){a:Addr}(ha:g≠a.block)(v:Value):JD (W.setCell a v) g cap xs:=by
 obtain⟨rest,h1,h2⟩:=h;exact⟨rest,(Below.heap_setCell W a v g ha).trans h1,h2⟩
theorem JD.set{W:World}{g cap:Nat}{A B:List α}{x y:α}(h:JD W g cap (A++x::B)){c:Nat}(hc:c<Lay.k α){v:Value}(hy:Lay.cs y=(Lay.cs x).set c v):JD (W.setCell ⟨g,A.length*Lay.k α+c,none⟩ v) g cap (A++y::B):=by
 obtain⟨rest,h1,h2,h3⟩:=h;refine⟨rest,?_,by simpa using h2,by simpa using h3⟩;rw[GY v h1,<-AI7 A x y B c v hc hy];have hlt:A.length*Lay.k α+c<(GL (A++x::B)).length:=by
  rw[GX];simp[Nat.add_mul];omega
 simp[List.set_append_left _ _ hlt]
def I5(W:World)(B:Nat)(v:Value)(xs:List α):Prop:=(v=N0/\xs=[])\/∃g cap,v=.slice (some ⟨g,0,none⟩) xs.length cap/\B<=g/\JD W g cap xs
theorem I5.seq{W:World}{B:Nat}{v:Value}{xs:List α}(h:I5 W B v xs):IV W v xs:=by
 rcases h with⟨rfl,rfl⟩|⟨g,cap,rfl,_,h⟩
 .exact IV.nil W
 .by_cases h0:xs=[]
  .subst h0;exact .inl ⟨_,cap,rfl,rfl,h.capLe⟩
  .exact .inr ⟨g,0,cap,rfl,h.le,h.capLe,h.lt,h0,h.row⟩
theorem I5.kept{W V:World}{B C:Nat}{v:Value}{xs:List α}(h:I5 W B v xs)(hb:Below C W V)(hC:W.heap.size<=C):I5 V B v xs:=by
 rcases h with h|⟨g,cap,rfl,hB,h⟩
 .exact .inl h
 .exact .inr ⟨g,cap,rfl,hB,h.kept hb (Nat.lt_of_lt_of_le h.lt hC)⟩
theorem I5.next{W V:World}{B:Nat}{v:Value}{xs:List α}(h:I5 W B v xs)(hb:B0 W V):I5 V B v xs:=h.kept hb (Nat.le_refl _)
theorem I5.other{W:World}{B:Nat}{v:Value}{xs:List α}(h:I5 W B v xs){a:Addr}(ha:v.ownBlock≠some a.block)(u:Value):I5 (W.setCell a u) B v xs:=by
 rcases h with h|⟨g,cap,rfl,hB,h⟩
 .exact .inl h
 .exact .inr ⟨g,cap,rfl,hB,h.other (by intro e;apply ha;simp[Value.ownBlock,e]) u⟩
theorem I5.lower{W:World}{B C:Nat}{v:Value}{xs:List α}(h:I5 W B v xs)(hC:C<=B):I5 W C v xs:=by
 rcases h with h|⟨g,cap,rfl,hB,h⟩
 .exact .inl h
 .exact .inr ⟨g,cap,rfl,Nat.le_trans hC hB,h⟩
theorem I5.LD{W:World}{B:Nat}{v:Value}{xs:List α}(h:W.ownsRow B (Lay.ty α) (Lay.k α) v xs.length (GL xs)):I5 W B v xs:=by
 obtain⟨_,⟨rfl,h0⟩|⟨g,cap,cur,rfl,hB,hg,hn,hm,hs,ht⟩⟩:=h
 .exact .inl ⟨rfl,List.eq_nil_of_length_eq_zero h0⟩
 .refine .inr ⟨g,cap,rfl,hB,cur.toList.drop (xs.length*Lay.k α),?_,?_,hn,hm⟩
  .rw[hg,<-ht,List.take_append_drop]
  .have:=Nat.mul_le_mul_right (Lay.k α) hn;simp[hs];omega
theorem I5.row{W:World}{B:Nat}{v:Value}{xs:List α}(h:I5 W B v xs):W.ownsRow B (Lay.ty α) (Lay.k α) v xs.length (GL xs):=by
 refine⟨GX xs,?_⟩;rcases h with⟨rfl,rfl⟩|⟨g,cap,rfl,hB,h⟩
 .exact .inl ⟨rfl,rfl⟩
 .obtain⟨rest,h1,h2,hle,h3⟩:=h;refine .inr ⟨g,cap,_,rfl,hB,h1,hle,h3,by simp[GX,h2],?_⟩;simp[<-GX xs]
theorem I5.slice{W:World}{B:Nat}{v:Value}{xs:List α}(h:I5 W B v xs):∃a c,v=.slice a xs.length c/\c<=maxLen:=by
 rcases h with⟨rfl,rfl⟩|⟨g,cap,rfl,_,h⟩
 .exact⟨none,0,rfl,by decide⟩
 .exact⟨_,_,rfl,h.capLe⟩
end
theorem II.i0{w:World}{b off:Nat}{xs:List Int}(h:II w b off (GL xs)){i:Nat}{x:Int}(hi:xs[i]?=some x):w.cell? ⟨b,off+i,none⟩=some (I0 x):=
 h i _ (by have:=GZ xs i x hi 0 (by decide);simpa [Lay.k,Lay.cs]using this)
theorem II.s0{w:World}{b off:Nat}{xs:List (List UInt8)}(h:II w b off (GL xs)){i:Nat}{x:List UInt8}(hi:xs[i]?=some x):w.cell? ⟨b,off+i,none⟩=some (S0 x):=
 h i _ (by have:=GZ xs i x hi 0 (by decide);simpa [Lay.k,Lay.cs]using this)
theorem II.e0{w:World}{b off:Nat}{xs:List Ev}(h:II w b off (GL xs)){i:Nat}{x:Ev}(hi:xs[i]?=some x):w.cell? ⟨b,off+i*2,none⟩=some (I0 x.k):=
 h (i*2) _ (GZ xs i x hi 0 (by decide))
theorem II.e1{w:World}{b off:Nat}{xs:List Ev}(h:II w b off (GL xs)){i:Nat}{x:Ev}(hi:xs[i]?=some x):w.cell? ⟨b,off+i*2+1,none⟩=some (S0 x.p):=by
 rw[Nat.add_assoc];exact h (i*2+1) _ (GZ xs i x hi 1 (by decide))
theorem H7{w:World}{o:Obj}{w1:World}(h:Below (w.alloc o).heap.size (w.alloc o) w1):B0 w w1:=
 ((Below.refl _ _).alloc (Nat.le_refl _) _).trans (h.mono (by simp))
theorem GK{w W V:World}(h:B0 w W)(h':B0 W V):B0 w V:=h.trans (h'.mono h.size)
theorem GI(w:World)(o:Obj):B0 w (w.alloc o):=(Below.refl _ _).alloc (Nat.le_refl _) _
theorem QE{w:World}{g j:Nat}(v:Value):w.grownBy (w.setCell ⟨g,j,none⟩ v) (some g):=⟨rfl,rfl,rfl,by simp[World.setCell],fun k _ hne=>Below.heap_setCell w ⟨g,j,none⟩ v k (fun e=>hne (by rw[e]))⟩
theorem IW{w w' w'':World}{g:Nat}(h:w.grownBy w' (some g))(h':w'.grownBy w'' (some g)):w.grownBy w'' (some g):=
 ⟨h'.os.trans h.os,h'.tape.trans h.tape,h'.output.trans h.output,Nat.le_trans h.size h'.size,fun k hk hne=>(h'.block k (Nat.lt_of_lt_of_le hk h.size) hne).trans (h.block k hk hne)⟩
theorem NM{g:Nat}{t:TypeId}{fz:Nat×Nat}:∀ (vs:List Value) (o:Nat) (w:World) (l:List Value),w.heap[g]?=some (.cells l.toArray t fz)->o+vs.length<=l.length->
  (w.setCells g o vs).heap[g]?=some (.cells (l.take o++vs++l.drop (o+vs.length)).toArray t fz)
 |[],o,w,l,h,_=>by simpa [World.setCells]using h
 |v::r,o,w,l,h,hl=>by
  have h1:(w.setCell ⟨g,o,none⟩ v).heap[g]?=some (.cells (l.set o v).toArray t fz):=by rw[GY v h];simp
  rw[World.setCells,NM r (o+1) _ _ h1 (by simp at hl⊢;omega)];have ho:o<l.length:=by simp at hl;omega
  have e1:(l.set o v).take (o+1)=l.take o++[v]:=by
   rw[List.take_set,List.take_succ_eq_append_getElem ho,List.set_append_right _ _ (by simp;omega)];simp[Nat.min_eq_left (Nat.le_of_lt ho)]
  have e2:(l.set o v).drop (o+1+r.length)=l.drop (o+(r.length+1)):=by
   rw[List.drop_set_of_lt (by omega)];congr 1;omega
  rw[e1,e2];simp
theorem IC{g:Nat}:∀ (vs:List Value) (o:Nat) (w:World),w.grownBy (w.setCells g o vs) (some g)
 |[],_,_=>⟨rfl,rfl,rfl,Nat.le_refl _,fun _ _ _=>rfl⟩
 |v::r,o,_=>IW (QE v) (IC r (o+1) _)
section
variable {α:Type} [Lay α]
theorem JD.splice{W:World}{g cap:Nat}{pre tl:List α}(h:JD W g cap (pre++tl))(new:List α)(hfit:pre.length+new.length<=cap):JD (W.setCells g (pre.length*Lay.k α) (GL new)) g cap (pre++new):=by
 obtain⟨rest,h1,h2,h4,h3⟩:=h;have hlen:(GL (pre++tl)++rest).length=cap*Lay.k α:=by rw[List.length_append,GX];exact h2
 have hf:pre.length*Lay.k α+new.length*Lay.k α<=cap*Lay.k α:=by rw[<-Nat.add_mul];exact Nat.mul_le_mul_right _ hfit
 refine⟨(GL (pre++tl)++rest).drop (pre.length*Lay.k α+(GL new).length),?_,?_,by simpa using hfit,h3⟩
 .rw[NM (GL new) (pre.length*Lay.k α) W _ h1 (by rw[hlen,GX];omega),I8 pre new]
  congr 3
  have e:GL (pre++tl)++rest=GL pre++(GL tl++rest):=by rw[I8,List.append_assoc]
  rw[e,<-GX pre,List.take_left]
 .rw[List.length_drop,hlen,GX,List.length_append,Nat.add_mul];omega
theorem JD.spare{W:World}{g cap:Nat}{fs:List α}(h:JD W g cap fs)(vs:List Value)(o:Nat)(ho:fs.length*Lay.k α<=o)(hfit:o+vs.length<=cap*Lay.k α):JD (W.setCells g o vs) g cap fs:=by
 obtain⟨rest,h1,h2,h4,h3⟩:=h;have hlen:(GL fs++rest).length=cap*Lay.k α:=by rw[List.length_append,GX];exact h2
 have hc:=GX fs;refine⟨rest.take (o-fs.length*Lay.k α)++vs++(GL fs++rest).drop (o+vs.length),?_,?_,h4,h3⟩
 .rw[NM vs o W _ h1 (by rw[hlen];omega)]
  congr 2
  rw[List.take_append,List.take_of_length_le (by omega),hc];simp only[List.append_assoc]
 .simp only[List.length_append,List.length_take,List.length_drop,hc];omega
theorem JD.vK{W:World}{g cap:Nat}{A B:List α}{y:α}(h:JD W g cap (A++y::B))(x:α):JD (W.setCells g (A.length*Lay.k α) (Lay.cs x)) g cap (A++x::B):=by
 obtain⟨rest,h1,h2,h4,h3⟩:=h;have hlen:(GL (A++y::B)++rest).length=cap*Lay.k α:=by rw[List.length_append,GX];exact h2
 refine⟨rest,?_,by simpa using h2,by simpa using h4,h3⟩;have hA:=GX A;have hx3:(Lay.cs x).length=Lay.k α:=Lay.len x;have hy3:(Lay.cs y).length=Lay.k α:=Lay.len y;rw[NM (Lay.cs x) (A.length*Lay.k α) W _ h1 (by rw[hlen,hx3];simp[Nat.add_mul]at h2;omega)];have e:GL (A++y::B)++rest=GL A++(Lay.cs y++(GL B++rest)):=by simp[I8,JW]
 have e':GL (A++x::B)++rest=GL A++(Lay.cs x++(GL B++rest)):=by simp[I8,JW]
 rw[e,e']
 congr 2
 rw[hx3,<-hA,List.take_left,show (GL A).length+Lay.k α=(GL A++Lay.cs y).length by rw[List.length_append,hy3],<-List.append_assoc (GL A) (Lay.cs y),List.drop_left,List.append_assoc]
theorem JD.some{W:World}{g cap:Nat}{fs:List α}(h:JD W g cap fs){j:Nat}(hj:j<cap*Lay.k α):(W.cell? ⟨g,j,none⟩).isSome=true:=by
 obtain⟨rest,h1,h2,_⟩:=h;have hl:j<(GL fs++rest).length:=by rw[List.length_append,GX,h2];exact hj
 rw[List.length_append]at hl;simp[World.cell?,h1,hl]
theorem JD.drew{W:World}{g cap:Nat}{fs:List α}(h:JD W g cap fs):JD W.drew g cap fs:=h
def JU(W:World)(b:Nat)(x:α):Prop:=W.heap[b]?=some (.cells (Lay.cs x).toArray (Lay.ty α) (0,0))
theorem JU.row{W:World}{b:Nat}{x:α}(h:JU W b x):∀j v,(Lay.cs x)[j]?=some v->W.cell? ⟨b,0+j,none⟩=some v:=by
 intro j v hj;unfold JU at h;simp[World.cell?,h,hj]
end
theorem J9(ss:List Int):(GL ss).length=ss.length:=(GX ss).trans (Nat.mul_one _)
structure Touch(F:Nat->Prop)(w w':World):Prop where
 os:w'.os=w.os
 tape:w'.tape=w.tape
 output:w'.output=w.output
 size:w.heap.size<=w'.heap.size
 block:∀k,k<w.heap.size->¬F k->w'.heap[k]?=w.heap[k]?
theorem Touch.refl(F:Nat->Prop)(w:World):Touch F w w:=⟨rfl,rfl,rfl,Nat.le_refl _,fun _ _ _=>rfl⟩
theorem Touch.trans{F:Nat->Prop}{a b c:World}(h:Touch F a b)(k:Touch F b c):Touch F a c:=
 ⟨k.os.trans h.os,k.tape.trans h.tape,k.output.trans h.output,Nat.le_trans h.size k.size,fun i hi hf=>(k.block i (Nat.lt_of_lt_of_le hi h.size) hf).trans (h.block i hi hf)⟩
theorem Touch.of_below{F:Nat->Prop}{w w':World}(h:B0 w w'):Touch F w w':=⟨h.os,h.tape,h.output,h.size,fun k hk _=>h.block k hk⟩
theorem Touch.VI{F:Nat->Prop}{w w':World}{r:Option Nat}(h:w.grownBy w' r)(hr:∀k,r=some k->F k):Touch F w w':=⟨h.os,h.tape,h.output,h.size,fun k hk hf=>h.block k hk (fun e=>hf (hr k e.symm))⟩
theorem Touch.set{F:Nat->Prop}{w:World}{a:Addr}(hf:F a.block)(v:Value):Touch F w (w.setCell a v):=⟨rfl,rfl,rfl,by simp[World.setCell],fun k _ hn=>Below.heap_setCell w a v k (fun e=>hn (by rw[e];exact hf))⟩
theorem Touch.drew{F:Nat->Prop}{w w':World}(h:Touch F w w'):Touch F w w'.drew:=⟨h.os,h.tape,h.output,h.size,h.block⟩
theorem Touch.mono{F G:Nat->Prop}{w w':World}(h:Touch F w w')(hg:∀k,k<w.heap.size->F k->G k):Touch G w w':=⟨h.os,h.tape,h.output,h.size,fun k hk hn=>h.block k hk (fun hf=>hn (hg k hk hf))⟩
theorem Touch.below{F:Nat->Prop}{w w':World}{B:Nat}(h:Touch F w w')(hB:B<=w.heap.size)(hF:∀k,F k->B<=k):Below B w w':=
 ⟨h.os,h.tape,h.output,h.size,fun k hk=>h.block k (Nat.lt_of_lt_of_le hk hB) (fun hf=>by have:=hF k hf;omega)⟩
theorem I5.low{α:Type}[Lay α]{W:World}{B:Nat}{v:Value}{xs:List α}(h:I5 W B v xs)(k:Nat)(hk:v.ownBlock=some k):k<W.heap.size:=by
 rcases h with⟨rfl,rfl⟩|⟨g,cap,rfl,_,h⟩
 .simp[Value.ownBlock]at hk
 .simp only[Value.ownBlock,Option.some.injEq]at hk;rw[<-hk];exact h.lt
theorem I5.grown{α:Type}[Lay α]{W V:World}{B:Nat}{v:Value}{xs:List α}(h:I5 W B v xs){r:Option Nat}(hg:W.grownBy V r)(hr:∀k,v.ownBlock=some k->some k≠r):I5 V B v xs:=by
 rcases h with h|⟨g,cap,rfl,hB,h⟩
 .exact .inl h
 .obtain⟨rest,h1,h2⟩:=h;have hlt:=(Array.getElem?_eq_some_iff.1 h1).1;exact .inr ⟨g,cap,rfl,hB,rest,(hg.block g hlt (hr g rfl)).trans h1,h2⟩
theorem IE{w:World}{a:Addr}{v:Value}(h:w.cell? a=some v):w.setCell a v=w:=by
 obtain⟨heap,tape,drawn,os,output⟩:=w;simp only[World.setCell,World.cell?]at*
 congr 1
 apply Array.ext_getElem?
 intro k;rw[Array.getElem?_modify];by_cases hk:a.block=k
 .subst hk;simp only[if_true]
  cases ho:heap[a.block]? with
  |none=>rfl
  |some o=>
   rw[ho]at h
   cases o with
   |cells c e fz=>
    simp only at h;by_cases hs:a.spot.isSome=true
    .simp[hs]at h
    .simp only[hs]at h;simp[hs];have hlt:a.off<c.size:=(Array.getElem?_eq_some_iff.1 (by simpa using h)).1;have hv:c[a.off]=v:=(Array.getElem?_eq_some_iff.1 (by simpa using h)).2;rw[<-hv];simp[Array.setIfInBounds,hlt]
   |_=>simp at h
 .simp[hk]
theorem IG{W V:World}(h:Below W.drew.heap.size W.drew V):B0 W V:=((Below.refl _ W).drew).trans h
theorem CH6:(Tryz.prog.info? 40).map (fun i=>(i.zero,i.size,i.bytes))=some (some (.agg #[I0 0,.string ⟨#[]⟩]),2,24):=by kernel_rfl
theorem CU1:∃i0,Tryz.prog.info? 40=some i0/\i0.zero=some (.agg #[I0 0,.string ⟨#[]⟩])/\i0.size=2/\i0.bytes=24:=by
 obtain⟨i0,h,e⟩:=Option.map_eq_some_iff.1 CH6;simp only[Prod.mk.injEq]at e;exact⟨i0,h,e⟩
theorem RZ{α:Type}[Lay α]{W:World}{g:Nat}{x:α}(h:JU W g x)(j:Nat)(u:Value)(hj:(Lay.cs x)[j]?=some u):W.cell? ((⟨g,0,none⟩:Addr).add j)=some u:=by
 rw[Addr.add_lit];exact h.row j u hj
theorem zY(w:World)(k:Int)(p:List UInt8):JU (w.alloc (.cells #[I0 k,S0 p] 40)) w.heap.size (⟨k,p⟩:Ev):=heap_alloc_new w _
def JC(t:GV):Value:=.agg #[I0 t.z,I0 t.o,I0 t.s,S0 t.p,S0 t.d,I0 t.v,I0 t.w]
def ND(t:GV):List Value:=[I0 t.z,I0 t.o,I0 t.s,S0 t.p,S0 t.d,I0 t.v,I0 t.w]
def KF:List GV->List Value
 |[]=>[]
 |t::r=>ND t++KF r
theorem aY:∀ts:List GV,(KF ts).length=ts.length*7
 |[]=>rfl
 |t::r=>by rw[KF,List.length_append,aY r];simp[ND];omega
theorem SA:∀a b:List GV,KF (a++b)=KF a++KF b
 |[],_=>rfl
 |t::r,b=>by rw[List.cons_append,KF,KF,SA r b,List.append_assoc]
theorem A00(a:List GV)(t:GV):KF (a++[t])=KF a++ND t:=by rw[SA,KF,KF,List.append_nil]
theorem P8:∀ (ts:List GV) (i:Nat) (t:GV),ts[i]?=some t->∀c,c<7->(KF ts)[i*7+c]?=(ND t)[c]?
 |[],i,t,h,_,_=>by simp at h
 |x::r,0,t,h,c,hc=>by
  simp at h;subst h;rw[KF,List.getElem?_append_left (by simp[ND];omega)];simp
 |x::r,i+1,t,h,c,hc=>by
  rw[KF,List.getElem?_append_right (by simp[ND];omega),<-P8 r i t (by simpa using h) c hc]
  congr 1
  simp[ND];omega
theorem nX(t:GV):∀u∈ND t,u.oneCell'=true:=by
 intro u hu;simp[ND]at hu;rcases hu with rfl|rfl|rfl|rfl|rfl|rfl|rfl<;>rfl
theorem II.z{w:World}{b off:Nat}{ts:List GV}(h:II w b off (KF ts)){i:Nat}{t:GV}(hi:ts[i]?=some t):w.cell? ⟨b,off+i*7,none⟩=some (I0 t.z):=
 h (i*7) _ (by have:=P8 ts i t hi 0 (by omega);simpa [ND]using this)
theorem II.o{w:World}{b off:Nat}{ts:List GV}(h:II w b off (KF ts)){i:Nat}{t:GV}(hi:ts[i]?=some t):w.cell? ⟨b,off+i*7+1,none⟩=some (I0 t.o):=by
 rw[Nat.add_assoc];exact h (i*7+1) _ (by have:=P8 ts i t hi 1 (by omega);simpa [ND]using this)
theorem II.s{w:World}{b off:Nat}{ts:List GV}(h:II w b off (KF ts)){i:Nat}{t:GV}(hi:ts[i]?=some t):w.cell? ⟨b,off+i*7+2,none⟩=some (I0 t.s):=by
 rw[Nat.add_assoc];exact h (i*7+2) _ (by have:=P8 ts i t hi 2 (by omega);simpa [ND]using this)
theorem II.p{w:World}{b off:Nat}{ts:List GV}(h:II w b off (KF ts)){i:Nat}{t:GV}(hi:ts[i]?=some t):w.cell? ⟨b,off+i*7+3,none⟩=some (S0 t.p):=by
 rw[Nat.add_assoc];exact h (i*7+3) _ (by have:=P8 ts i t hi 3 (by omega);simpa [ND]using this)
theorem II.d{w:World}{b off:Nat}{ts:List GV}(h:II w b off (KF ts)){i:Nat}{t:GV}(hi:ts[i]?=some t):w.cell? ⟨b,off+i*7+4,none⟩=some (S0 t.d):=by
 rw[Nat.add_assoc];exact h (i*7+4) _ (by have:=P8 ts i t hi 4 (by omega);simpa [ND]using this)
theorem II.v{w:World}{b off:Nat}{ts:List GV}(h:II w b off (KF ts)){i:Nat}{t:GV}(hi:ts[i]?=some t):w.cell? ⟨b,off+i*7+5,none⟩=some (I0 t.v):=by
 rw[Nat.add_assoc];exact h (i*7+5) _ (by have:=P8 ts i t hi 5 (by omega);simpa [ND]using this)
theorem II.w{w:World}{b off:Nat}{ts:List GV}(h:II w b off (KF ts)){i:Nat}{t:GV}(hi:ts[i]?=some t):w.cell? ⟨b,off+i*7+6,none⟩=some (I0 t.w):=by
 rw[Nat.add_assoc];exact h (i*7+6) _ (by have:=P8 ts i t hi 6 (by omega);simpa [ND]using this)
def NQ(w:World)(v:Value)(ts:List GV):Prop:=
 (∃a cap,v=.slice a 0 cap/\ts=[]/\cap<=maxLen)\/
 ∃b off cap,v=.slice (some ⟨b,off,none⟩) ts.length cap/\ts.length<=cap/\cap<=maxLen/\b<w.heap.size/\ts≠[]/\II w b off (KF ts)
theorem NQ.kept{w w':World}{B:Nat}{v:Value}{ts:List GV}(h:NQ w v ts)(hb:Below B w w')(hB:w.heap.size<=B):NQ w' v ts:=by
 rcases h with h|⟨b,off,cap,rfl,h1,h2,h3,h0,h4⟩
 .exact .inl h
 .exact .inr ⟨b,off,cap,rfl,h1,h2,Nat.lt_of_lt_of_le h3 hb.size,h0,h4.kept hb (Nat.lt_of_lt_of_le h3 hB)⟩
theorem NQ.next{w w':World}{v:Value}{ts:List GV}(h:NQ w v ts)(hb:B0 w w'):NQ w' v ts:=h.kept hb (Nat.le_refl _)
theorem NQ.drew{w:World}{v:Value}{ts:List GV}(h:NQ w v ts):NQ w.drew v ts:=h.next (Below.refl _ _).drew
theorem NQ.nil(w:World):NQ w (N0) []:=.inl ⟨none,0,rfl,rfl,by decide⟩
theorem MH{w:World}{v:Value}{ts:List GV}(hv:NQ w v ts):∃a c,v=.slice a ts.length c:=by
 rcases hv with⟨a,cap,rfl,rfl,_⟩|⟨b,off,cap,rfl,_⟩
 .exact⟨_,_,rfl⟩
 .exact⟨_,_,rfl⟩
theorem ZL{w:World}{v:Value}{ts:List GV}(hv:NQ w v ts){i:Nat}{t:GV}(hi:ts[i]?=some t):
  ∃b off cap,v=.slice (some ⟨b,off,none⟩) ts.length cap/\b<w.heap.size/\II w b off (KF ts)/\i<ts.length/\ts.length<=cap/\cap<=maxLen:=by
 have hlt:=(List.getElem?_eq_some_iff.1 hi).1;rcases hv with⟨a,cap,rfl,rfl,_⟩|⟨b,off,cap,rfl,h1,h2,hb,_,hr⟩
 .simp at hi
 .exact⟨b,off,cap,rfl,hb,hr,hlt,h1,h2⟩
def mO(W:World)(B:Nat)(v:Value)(ts:List GV):Prop:=W.ownsRow B 59 7 v ts.length (KF ts)
theorem mO.nil(W:World)(B:Nat):mO W B (N0) []:=⟨rfl,.inl ⟨rfl,rfl⟩⟩
theorem mO.log{W:World}{B:Nat}{v:Value}{ts:List GV}(h:mO W B v ts):NQ W v ts:=by
 obtain⟨hl,⟨rfl,h0⟩|⟨g,cap,cur,rfl,hB,hg,hn,hm,hs,ht⟩⟩:=h
 .rw[List.eq_nil_of_length_eq_zero h0];exact NQ.nil W
 .by_cases h0:ts=[]
  .subst h0;exact .inl ⟨_,cap,rfl,rfl,hm⟩
  .refine .inr ⟨g,0,cap,rfl,hn,hm,(Array.getElem?_eq_some_iff.1 hg).1,h0,fun j v hj=>?_⟩;have hlt:j<(KF ts).length:=(List.getElem?_eq_some_iff.1 hj).1;have:cur[j]?=some v:=by
    rw[<-ht,List.getElem?_take_of_lt (by rw[hl]at hlt;exact hlt)]at hj;simpa using hj
   simp[World.cell?,hg,this]
theorem mO.next{W V:World}{B:Nat}{v:Value}{ts:List GV}(h:mO W B v ts)(hb:B0 W V):mO V B v ts:=by
 obtain⟨hl,h|⟨g,cap,cur,e,hB,hg,hr⟩⟩:=h
 .exact⟨hl,.inl h⟩
 .exact⟨hl,.inr ⟨g,cap,cur,e,hB,(hb.block _ (Array.getElem?_eq_some_iff.1 hg).1).trans hg,hr⟩⟩
theorem AI9{W:World}{B:Nat}{v:Value}{ts:List GV}(h:mO W B v ts):∃a c,v=.slice a ts.length c:=MH h.log
theorem AJ0{W:World}{B:Nat}{v:Value}{ts:List GV}(h:mO W B v ts):∀k,v.ownBlock=some k->B<=k/\k<W.heap.size:=World.ownsRow.lt h
theorem mO.more{W:World}{B:Nat}{v:Value}{ts:List GV}{t:GV}(h:W.ownsRow B 59 7 v (ts.length+1) (KF ts++ND t)):mO W B v (ts++[t]):=by
 unfold mO;rw[A00,List.length_append];exact h
def TAt(W:World)(g:Nat)(t:GV):Prop:=W.heap[g]?=some (.cells #[I0 t.z,I0 t.o,I0 t.s,S0 t.p,S0 t.d,I0 t.v,I0 t.w] 59 (0,0))
theorem TAt.new(W:World)(t:GV):TAt (W.alloc (.cells #[I0 t.z,I0 t.o,I0 t.s,S0 t.p,S0 t.d,I0 t.v,I0 t.w] 59)) W.heap.size t:=heap_alloc_new W _
theorem TAt.next{W V:World}{g:Nat}{t:GV}(h:TAt W g t)(hb:B0 W V):TAt V g t:=(hb.block g (by unfold TAt at h;exact(Array.getElem?_eq_some_iff.1 h).1)).trans h
theorem TAt.lt{W:World}{g:Nat}{t:GV}(h:TAt W g t):g<W.heap.size:=by unfold TAt at h;exact(Array.getElem?_eq_some_iff.1 h).1
theorem TAt.c0{W:World}{g:Nat}{t:GV}(h:TAt W g t):W.cell? ⟨g,0,none⟩=some (I0 t.z):=by unfold TAt at h;simp[World.cell?,h]
theorem TAt.c1{W:World}{g:Nat}{t:GV}(h:TAt W g t):W.cell? ⟨g,1,none⟩=some (I0 t.o):=by unfold TAt at h;simp[World.cell?,h]
theorem TAt.c2{W:World}{g:Nat}{t:GV}(h:TAt W g t):W.cell? ⟨g,2,none⟩=some (I0 t.s):=by unfold TAt at h;simp[World.cell?,h]
theorem TAt.c3{W:World}{g:Nat}{t:GV}(h:TAt W g t):W.cell? ⟨g,3,none⟩=some (S0 t.p):=by unfold TAt at h;simp[World.cell?,h]
theorem TAt.c4{W:World}{g:Nat}{t:GV}(h:TAt W g t):W.cell? ⟨g,4,none⟩=some (S0 t.d):=by unfold TAt at h;simp[World.cell?,h]
theorem TAt.c5{W:World}{g:Nat}{t:GV}(h:TAt W g t):W.cell? ⟨g,5,none⟩=some (I0 t.v):=by unfold TAt at h;simp[World.cell?,h]
theorem TAt.c6{W:World}{g:Nat}{t:GV}(h:TAt W g t):W.cell? ⟨g,6,none⟩=some (I0 t.w):=by unfold TAt at h;simp[World.cell?,h]
theorem TAt.f{W:World}{g:Nat}{t:GV}(h:TAt W g t)(j:Nat):W.frozen? ⟨g,j,none⟩=false:=by unfold TAt at h;simp[World.frozen?,h]
theorem AY4:(Tryz.prog.info? 59).map (fun i=>(i.zero,i.size,i.bytes))=some (some (JC t0),7,72):=by kernel_rfl
theorem qQ:∃i0,Tryz.prog.info? 59=some i0/\i0.zero=some (JC t0)/\i0.size=7/\i0.bytes=72:=by
 obtain⟨i0,h,e⟩:=Option.map_eq_some_iff.1 AY4;simp only[Prod.mk.injEq]at e;exact⟨i0,h,e.1,e.2.1,e.2.2⟩
instance layX:Lay GV:=⟨7,ND,59,fun _=>rfl,fun x u hu=>nX x u hu⟩
theorem BI7(ts:List GV):GL ts=KF ts:=by
 induction ts with
 |nil=>rfl
 |cons f r ih=>rw[JW,ih];rfl
theorem MJ{w:World}{v:Value}{ts:List GV}:IV w v ts↔NQ w v ts:=by unfold IV NQ;rw[BI7]
end Go.Proofs.YtefephchbjfdfaaGreatDoor
