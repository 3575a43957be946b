/-
  Part.
-/
import Derived.Test.YtodnhndkghdinaaGreatDoorLOG
import Derived.Test.YtodnhndkghdinaaGreatDoorLOJ
import Derived.Test.YtodnhndkghdinaaGreatDoorLOT
set_option maxRecDepth 20000
set_option maxHeartbeats 8000000
namespace Go.Proofs.YtodnhndkghdinaaGreatDoor
open Go.RowKit Go.Proofs.Tryz
variable{a:Option Addr}{c k j:Nat}{W w:World}{B fs A:List DF}{ts:List AQ}{s:List UInt8}{v:Value}
theorem FB{a b c:World}(h:B0 a b)(k:B0 b c):B0 a c:=h.trans (k.mono h.size)
theorem NK(v:Value)(ts:List AQ)(w:World)(hv:J5 w v ts):
  Calls prog 81 #[v] w fun e w'=>e=.returned (I0 (DL ts))∧w'=w:=by
 by_cases h0:ts.length=0
 ·obtain⟨a,c,rfl⟩:=I9 hv;obtain rfl:=List.length_eq_zero_iff.1 h0;clear hv h0;rw[SE];go_enter func81,ntmps81;go_wp2_with fail;go_ret;exact⟨rfl,rfl⟩
 ·obtain⟨m,x,rfl⟩:=AJ4 h0;have hi:(m++[x])[m.length]?=some x:=by simp
  obtain⟨b,off,cap,rfl,hb,hr,hlt,hc,hm⟩:=VP hv hi;have e:=hr.z hi;have hl:(m++[x]).length=m.length+1:=by simp
  rw[PK,hl];simp only[maxLen]at hm;rw[hl]at hc;have hM:m.length<9223372036854775807:=by omega
  clear hv h0 hr hi hl hlt hc hm;generalize m.length=k at*;go_enter func81,ntmps81;go_wp2_with fail;go_ret;exact⟨rfl,rfl⟩
theorem dX(t:AQ)(v:Value)(ts:List AQ)(w:World)(hv:J5 w v ts):
  Calls prog 54 #[DX t,v] w (R0 w (.bool (bJ ts t))):=by
 have C:=fun W (h:B0 w W)=>NK v ts W (hv.next h);obtain⟨a,c,rfl⟩:=I9 hv;obtain⟨z,o,s,p,d,y,u⟩:=t;unfold DX;by_cases h0:ts.length=0
 ·have hf:bJ ts ⟨z,o,s,p,d,y,u⟩=true:=by simp[bJ,h0]
  rw[hf,h0];clear C hv hf;go_enter func54,ntmps54;go_wp2_with fail;go_region;go_wp2_with fail;go_ret;exact⟨rfl,((Below.refl _ _).alloc (Nat.le_refl _) _).drew⟩
 ·have hf:bJ ts ⟨z,o,s,p,d,y,u⟩=decide (DL ts<z):=by rw[iJ h0]
  rw[hf];generalize DL ts=L at*;have h0i:((ts.length:Int)==0)=false:=by simpa using h0
  clear hv hf;go_enter func54,ntmps54;go_wp2_with fail
  go_region_with (first|(go_at_call 81;refine(C _ ?_).mono ?_;exact(((Below.refl _ _).alloc (Nat.le_refl _) _).drew);rintro e w1 ⟨rfl,rfl⟩))
  all_goals go_wp2_with fail
  all_goals go_ret
  all_goals exact⟨rfl,((Below.refl _ _).alloc (Nat.le_refl _) _).drew⟩
theorem BU2{B:Nat}(h:gX W B (.slice a k c) ts)(hk:ts.length=k)(O:Obj)(V:World)(e:V=W.alloc O):V.ownsRow B 62 7 (.slice a k c) k (FD ts):=by
 subst e;have:=h.next ((Below.refl _ _).alloc (Nat.le_refl _) O);unfold gX at this;rwa[hk]at this
theorem BC3(W:World)(t:AQ)(j:Nat)(u:Value)(h:(IY t)[j]?=some u):(W.alloc (.cells #[I0 t.z,I0 t.o,I0 t.s,S0 t.p,S0 t.d,I0 t.v,I0 t.w] 62)).cell? ((⟨W.heap.size,0,none⟩:Addr).add j)=some u:=by
 rw[Addr.add_lit];show World.cell? _ ⟨W.heap.size,0+j,none⟩=_;rw[Nat.zero_add];have e:=heap_alloc_new W (.cells #[I0 t.z,I0 t.o,I0 t.s,S0 t.p,S0 t.d,I0 t.v,I0 t.w] 62);simp only[World.cell?,e];have:(#[I0 t.z,I0 t.o,I0 t.s,S0 t.p,S0 t.d,I0 t.v,I0 t.w]:Array Value)[j]?=(IY t)[j]? :=by simp[IY]
 rw[this,h];rfl
theorem BC4{w W V:World}{B k c:Nat}{a:Option Addr}{ts:List AQ}{t:AQ}{O:Obj}{v':Value}(hb:B0 w W)(h:gX W B (.slice a k c) ts)(hB:w.heap.size≤B)(hk:ts.length=k)
  (hown:V.ownsRow B 62 7 v' (k+1) (FD ts++IY t)) (hg:(W.alloc O).grownBy V (Value.slice a k c).ownBlock):
  ∃a' c',v'=.slice a' (k+1) c'∧gX V B (.slice a' (k+1) c') (ts++[t])∧B0 w V:=by
 subst hk;have ho:=gX.more hown;obtain⟨a',c',rfl⟩:=A93 ho;rw[List.length_append]at ho;refine⟨a',c',by rw[List.length_append];rfl,ho,?_⟩;have h1:B0 w (W.alloc O):=hb.alloc hb.size O;exact h1.grown hg h1.size fun q e=>Nat.le_trans hB (A94 h q e).1
def CI1:Prop:=∀ (s:List UInt8) (w:World),s.length≤140737488355328→
  Calls prog 53 #[S0 s] w (R0 w (.tuple #[DX (iI s),I0 (nU s),I0 (YF s)]))
theorem AT7{r:List UInt8}(S:Scan s ts r)(k:Nat):s.drop (BL (ts.take k)).length=BL (ts.drop k)++r∧(BL (ts.take k)).length≤s.length:=by
 have e:s=BL (ts.take k)++(BL (ts.drop k)++r):=by rw[←List.append_assoc,←FX,List.take_append_drop];exact S.eq
 generalize BL (ts.take k)=X at*;subst e;simp
theorem jK{t:AQ}(h:ts[k]?=some t):ts.drop k=t::ts.drop (k+1):=by
 obtain⟨hk,rfl⟩:=List.getElem?_eq_some_iff.1 h;exact List.drop_eq_getElem_cons hk
theorem BU3(L:Logs ts){t:AQ}(h:ts[k]?=some t):gdE t=0∧bJ (ts.take k) t=true:=by
 have e:ts=ts.take k++t::ts.drop (k+1):=by rw[←jK h,List.take_append_drop]
 rw[e]at L;exact L.at
theorem BM5{i:Nat}(h:i=j):Ending.returned (.tuple #[v,I0 i])=.returned (.tuple #[v,I0 j]):=by rw[h]
theorem BU4(CD:CI1)(s r:List UInt8)(ts:List AQ)(w:World)(S:Scan s ts r)(hs:s.length≤1048576):
  Calls prog 33 #[S0 s] w fun e w'=>∃v,e=.returned (.tuple #[v,I0 ((BL ts).length:Nat)])∧gX w' w.heap.size v ts∧B0 w w':=by
 obtain⟨i0,hi0,hz0,hz1,hz2⟩:=kZ;have hzs:(ByteArray.mk s.toArray).size=s.length:=Lib.size_eq ⟨s.toArray⟩;have hts:ts.length*31≤1048576:=by have:=kN ts;have:=S.len;omega
 have HS:=AA S;have HCD:=AA CD;clear S CD;go_enter func33,ntmps33;go_wp2_with fail
 go_loopg [4,5] ts.length (fun kx s4 s5 wr=>∃ (k N:Nat) (a:Option Addr) (c:Nat),s4=.slice a k c∧s5=I0 N∧k≤ts.length∧ts.length-k≤kx∧Hid ((BL (ts.take k)).length=N)∧Hid (gX wr w.heap.size (.slice a k c) (ts.take k)∧B0 w wr))
 case atStart=>exact⟨0,0,none,0,rfl,rfl,Nat.zero_le _,by omega,AA rfl,AA ⟨gX.nil _ _,Below.refl _ _⟩⟩
 case round=>
  obtain⟨k,N,a,c,rfl,rfl,hk,hkx,HN,hI⟩:=hrel;have h1:=AT7 (A8 HS) k;rw[A8 HN]at h1;obtain⟨hd,hNs⟩:=h1;have hx:(ByteArray.mk s.toArray).extract N s.length=⟨(s.drop N).toArray⟩:=AT5 s N;have hMl:(ts.take k).length=k:=by simp;omega
  by_cases hlt:k<ts.length
  ·obtain⟨t,ht⟩:∃t,ts[k]?=some t:=⟨_,List.getElem?_eq_getElem hlt⟩;have hgf:=BU3 (A8 HS).log ht;rw[jK ht,BL,List.append_assoc]at hd;have C:=fun W=>A8 HCD (s.drop N) W (by rw[List.length_drop];omega);have hdr:=BP1 hgf.1 (BL (ts.drop (k+1))++r);rw[←hd]at hdr;rw[hdr.1,hdr.2.1,hdr.2.2]at C;have hrl:=bM hgf.1;have hNN:=AT7 (A8 HS) (k+1);rw[LH ht,LG,List.length_append,A8 HN]at hNN;have hNL:=hNN.2;have CF:=fun v W (h:J5 W v (ts.take k))=>dX t v (ts.take k) W h;rw[hgf.2]at CF;have HT:=AA (LH ht);have HM:=AA hMl;clear hd hdr hgf hNN hMl ht;obtain⟨Y,hY⟩:∃Y,s.drop N=Y:=⟨_,rfl⟩;rw[hY]at hx C;obtain⟨L,hL⟩:∃L,(MP t).length=L:=⟨_,rfl⟩;rw[hL]at C hNL hrl;have HL:=AA hL;obtain⟨M,hM⟩:∃M,ts.take k=M:=⟨_,rfl⟩;rw[hM]at hI HT HM CF HN;have HCF:=AA CF;clear hY hL hM CF;obtain⟨z,o,s1,p,d,y,u⟩:=t;unfold DX at C HCF;go_wp2_with fail;refine(C _).mono ?_;rintro e w1 ⟨rfl,hb1⟩;have hal:=(Below.refl w1.heap.size w1).alloc (Nat.le_refl _) (.cells #[I0 z,I0 o,I0 s1,S0 p,S0 d,I0 y,I0 u] 62);have HB1:=AA (FB (FB (A8 hI).2 hb1) hal);have HO1:=AA (((A8 hI).1.next hb1).next hal);have T1:=AA (TAt.new w1 ⟨z,o,s1,p,d,y,u⟩);clear C hb1 hal hI;go_wp2_with fail;generalize w1.alloc (.cells #[I0 z,I0 o,I0 s1,S0 p,S0 d,I0 y,I0 u] 62)=W1 at*;refine(A8 HCF _ _ (A8 HO1).log).mono ?_;rintro e w3 ⟨rfl,hb3⟩;have HB3:=AA (FB (A8 HB1) hb3);have HO3:=AA ((A8 HO1).next hb3);have T3:=(A8 T1).next hb3;have c0:=T3.c0;have c1:=T3.c1;have c2:=T3.c2;have c3:=T3.c3;have c4:=T3.c4;have c5:=T3.c5;have c6:=T3.c6;clear hb3 HB1 HO1 T1 T3 HCF;have HRW:=AA (BU2 (A8 HO3) (A8 HM));have HC2:=AA (BC3 w3 ⟨z,o,s1,p,d,y,u⟩);have h4:Hid (k+1≤maxLen):=by unfold Hid;simp only[maxLen];omega
   have h5:Hid ((k+1)*72≤140737488355328):=by unfold Hid;omega
   have h6:Hid (∀O1,w.heap.size≤(w3.alloc O1).heap.size):=fun O1=>by have:=(A8 HB3).size;simp;omega
   go_wp2_with (at_builtin;refine wpList_append_own _ rfl _ _ 39 rfl w.heap.size 62 i0 _ 7 72 underlying39 hi0 hz0 hz1 hz2 rfl (by decide) _ k (FD M) rfl (A8 HRW _ _ rfl) ⟨w3.heap.size,0,none⟩ 1 1 (IY ⟨z,o,s1,p,d,y,u⟩) rfl rfl (A8 HC2) (iY _) (A8 h4) (A8 h5) (A8 h6 _) ?_);intro v' w5 hown hgrow _;obtain⟨a5,cc5,rfl,ho5,hb5⟩:=BC4 (A8 HB3) (A8 HO3) (Nat.le_refl _) (A8 HM) hown hgrow;have HZ:=AA (And.intro ho5 hb5);clear hown hgrow ho5 hb5 HRW HC2 h4 h5 h6 HB3 HO3 c0 c1 c2 c3 c4 c5 c6;go_wp2_with fail
   go_roundg (ts.length-(k+1))
   case measure=>omega
   case rel=>exact⟨k+1,N+L,a5,cc5,rfl,by simp,by omega,Nat.le_refl _,AA (by rw[A8 HT,LG,List.length_append,A8 HN,A8 HL]),AA (by rw[A8 HT];exact A8 HZ)⟩
  ·obtain rfl:k=ts.length:=by omega
   rw[List.drop_length,BL,List.nil_append]at hd;have C:=fun W=>A8 HCD (s.drop N) W (by rw[List.length_drop];omega);rw[hd]at C hx;have hst:=(A8 HS).stop;have HI:=AA (by have:=A8 hI;rw[List.take_length]at this;exact this:gX wr w.heap.size (.slice a ts.length c) ts∧B0 w wr);have HN2:=AA (by have:=A8 HN;rw[List.take_length]at this;exact this:(BL ts).length=N);clear hd hMl hlt hI;by_cases he:YF r=0
   ·have hf:bJ ts (iI r)=false:=by
     rcases hst with h|h
     ·exact absurd he h
     ·exact h
    have CF:=fun v W (h:J5 W v ts)=>dX (iI r) v ts W h;rw[hf]at CF;rw[he]at C;have HCF:=AA CF;clear hst hf CF;obtain⟨D,hD⟩:∃D,nU r=D:=⟨_,rfl⟩;rw[hD]at C;clear hD he;obtain⟨t,ht⟩:∃t,iI r=t:=⟨_,rfl⟩;rw[ht]at C HCF;clear ht;obtain⟨z,o,s1,p,d,y,u⟩:=t;unfold DX at C HCF;go_wp2_with fail;refine(C _).mono ?_;rintro e w1 ⟨rfl,hb1⟩;have hal:=(Below.refl w1.heap.size w1).alloc (Nat.le_refl _) (.cells #[I0 z,I0 o,I0 s1,S0 p,S0 d,I0 y,I0 u] 62);have HB1:=AA (FB (FB (A8 HI).2 hb1) hal);have HO1:=AA (((A8 HI).1.next hb1).next hal);clear C hb1 hal HI;go_wp2_with fail;generalize w1.alloc (.cells #[I0 z,I0 o,I0 s1,S0 p,S0 d,I0 y,I0 u] 62)=W1 at*;refine(A8 HCF _ _ (A8 HO1).log).mono ?_;rintro e w3 ⟨rfl,hb3⟩;have HB3:=AA (FB (A8 HB1) hb3);have HO3:=AA ((A8 HO1).next hb3);clear hb3 HB1 HO1 HCF;go_wp2_with fail
    go_ret2
    exact⟨.slice a ts.length c,BM5 (A8 HN2).symm,A8 HO3,A8 HB3⟩
   ·have hne:(YF r !=0)=true:=by simpa using he
    clear hst he;obtain⟨D,hD⟩:∃D,nU r=D:=⟨_,rfl⟩;rw[hD]at C;clear hD;obtain⟨E,hE⟩:∃E,YF r=E:=⟨_,rfl⟩;rw[hE]at C hne;clear hE;obtain⟨t,ht⟩:∃t,iI r=t:=⟨_,rfl⟩;rw[ht]at C;clear ht;obtain⟨z,o,s1,p,d,y,u⟩:=t;unfold DX at C;go_wp2_with fail;refine(C _).mono ?_;rintro e w1 ⟨rfl,hb1⟩;have hal:=(Below.refl w1.heap.size w1).alloc (Nat.le_refl _) (.cells #[I0 z,I0 o,I0 s1,S0 p,S0 d,I0 y,I0 u] 62);have HB1:=AA (FB (FB (A8 HI).2 hb1) hal);have HO1:=AA (((A8 HI).1.next hb1).next hal);clear C hb1 hal HI;go_wp2_with fail
    go_ret2
    exact⟨.slice a ts.length c,BM5 (A8 HN2).symm,A8 HO1,A8 HB1⟩
def JA:List UInt8:=[108,111,103]
theorem XO:EC JA=true:=by decide
def KL(ts:List AQ):DF:=⟨JA,BL ts,[]⟩
structure VE(fs:List DF)(ts:List AQ)(A B:List DF):Prop where
 good:G9 fs
 log:Logs ts
 old:(fs.length<16∧Gap fs A B JA∧ts=[])∨∃f r,There fs A f B JA∧Scan (f.s++f.t) ts r
theorem VE.short(h:VE fs ts A B):(BL ts).length≤1048576:=by
 rcases h.old with⟨_,_,rfl⟩|⟨f,r,T,S⟩
 ·simp[BL]
 ·have h1:=S.len;have h2:=JB (T.ok h.good);rw[List.length_append]at h1;omega
theorem VE.there(h:VE fs ts A B)(us:List AQ):There (A++KL us::B) A (KL us) B JA:=by
 rcases h.old with⟨_,G,_⟩|⟨f,r,T,_⟩
 ·exact G.ins rfl
 ·exact T.set rfl
theorem VE.after(h:VE fs ts A B){us:List AQ}(hu:(BL us).length≤1048576):G9 (A++KL us::B):=by
 have hl:(KL us).s.length+(KL us).t.length≤1048576:=by simp[KL];exact hu
 rcases h.old with⟨h16,G,_⟩|⟨f,r,T,_⟩
 ·exact lG h.good G XO h16 rfl hl
 ·have g:=h.good;rw[T.eq]at g;exact B78 g T.nm.symm hl
theorem lY(name:List UInt8):Gap [] [] [] name:=⟨rfl,by simp,by simp⟩
theorem TS:G9 []:=⟨by simp,by simp,List.Pairwise.nil⟩
theorem XP{t:List UInt8}(h:s.length+t.length≤1048576):G9 [⟨JA,s,t⟩]:=
 lG TS (lY JA) XO (by simp) (f':=⟨JA,s,t⟩) rfl h
def OO(z:Int)(ts:List AQ):List AQ:=ts.takeWhile fun t=>decide (t.z≤z)
theorem dZ(z:Int)(ts:List AQ):∃b,ts=OO z ts++b:=⟨ts.dropWhile fun t=>decide (t.z≤z),(List.takeWhile_append_dropWhile ..).symm⟩
theorem AD7(z:Int)(ts:List AQ):(BL ts).take (BL (OO z ts)).length=BL (OO z ts)∧(BL (OO z ts)).length≤(BL ts).length:=by
 obtain⟨b,e⟩:=dZ z ts;generalize OO z ts=a at*;subst e;rw[FX];simp
theorem LZ(h:C9 W v fs){n:Nat}(hb:FQ W k (.slice a n c))(u:Value):C9 (W.setCell ⟨k,0,none⟩ u) v fs:=by
 rcases h with h|⟨b,off,cap,rfl,h1,h2,h3,h0,h4⟩
 ·exact .inl h
 ·have hne:b≠k:=by
   rintro rfl;obtain⟨f,r,rfl⟩:∃f r,fs=f::r:=by
    cases fs with
    |nil=>exact absurd rfl h0
    |cons f r=>exact⟨f,r,rfl⟩
   have e:=h4.c0 (i:=0) (f:=f) rfl;unfold FQ at hb;simp only[World.cell?,hb]at e
   cases off with
   |zero=>simp at e
   |succ m=>simp at e
  refine .inr ⟨b,off,cap,rfl,h1,h2,by simpa [World.setCell]using h3,h0,fun j x hj=>?_⟩;rw[←h4 j x hj];exact World.cell?_of_block (Below.heap_setCell W ⟨k,0,none⟩ u b hne)
theorem BU8(h:J5 W v ts){n:Nat}(hb:FQ W k (.slice a n c))(u:Value):J5 (W.setCell ⟨k,0,none⟩ u) v ts:=by
 rcases h with h|⟨b,off,cap,rfl,h1,h2,h3,h0,h4⟩
 ·exact .inl h
 ·have hne:b≠k:=by
   rintro rfl;obtain⟨f,r,rfl⟩:∃f r,ts=f::r:=by
    cases ts with
    |nil=>exact absurd rfl h0
    |cons f r=>exact⟨f,r,rfl⟩
   have e:=h4.z (i:=0) (t:=f) rfl;unfold FQ at hb;simp only[World.cell?,hb]at e
   cases off with
   |zero=>simp at e
   |succ m=>simp at e
  refine .inr ⟨b,off,cap,rfl,h1,h2,by simpa [World.setCell]using h3,h0,fun j x hj=>?_⟩;rw[←h4 j x hj];exact World.cell?_of_block (Below.heap_setCell W ⟨k,0,none⟩ u b hne)
theorem FQ.other(h:FQ W k v)(hj:k≠j)(u:Value):FQ (W.setCell ⟨j,0,none⟩ u) k v:=(Below.heap_setCell W ⟨j,0,none⟩ u k hj).trans h
theorem FQ.lt(h:FQ W k v):k<W.heap.size:=by unfold FQ at h;exact(Array.getElem?_eq_some_iff.1 h).1
structure BU9(w W:World)(v:Value):Prop where
 below:Below w.heap.size w W
 d:FQ W w.heap.size v
 r:FQ W (w.heap.size+1+1) (.slice none 0 0)
theorem BU9.next{V:World}(h:BU9 w W v)(hb:Below W.heap.size W V):BU9 w V v:=⟨FB h.below hb,h.d.next hb,h.r.next hb⟩
theorem BU9.start(w:World)(v:Value)(o:Obj):BU9 w (((w.alloc (.cells #[v] 38)).alloc o).alloc (.cells #[.slice none 0 0] 38)) v:=by
 have b1:Below (w.alloc (.cells #[v] 38)).heap.size (w.alloc (.cells #[v] 38)) ((w.alloc (.cells #[v] 38)).alloc o):=(Below.refl _ _).alloc (Nat.le_refl _) _;have b2:Below ((w.alloc (.cells #[v] 38)).alloc o).heap.size ((w.alloc (.cells #[v] 38)).alloc o) (((w.alloc (.cells #[v] 38)).alloc o).alloc (.cells #[.slice none 0 0] 38)):=(Below.refl _ _).alloc (Nat.le_refl _) _;have b0:Below w.heap.size w (w.alloc (.cells #[v] 38)):=(Below.refl _ _).alloc (Nat.le_refl _) _;refine⟨FB (FB b0 b1) b2,((FQ.new w v).next b1).next b2,?_⟩;have h:=FQ.new ((w.alloc (.cells #[v] 38)).alloc o) (.slice none 0 0);have hz:((w.alloc (.cells #[v] 38)).alloc o).heap.size=w.heap.size+1+1:=by simp
 rw[hz]at h;exact h
structure wW(w W:World)(v:Value):Prop where
 below:Below w.heap.size w W
 d:FQ W w.heap.size v
 r:FQ W (w.heap.size+1) (.slice none 0 0)
theorem wW.next{V:World}(h:wW w W v)(hb:Below W.heap.size W V):wW w V v:=⟨FB h.below hb,h.d.next hb,h.r.next hb⟩
theorem wW.setd(h:wW w W v)(u:Value):wW w (W.setCell ⟨w.heap.size,0,none⟩ u) u:=⟨h.below.setCell (Nat.le_refl _) u,h.d.set u,h.r.other (by omega) u⟩
theorem wW.start(w:World)(v:Value):wW w ((w.alloc (.cells #[v] 38)).alloc (.cells #[.slice none 0 0] 38)) v:=by
 have b1:Below w.heap.size w (w.alloc (.cells #[v] 38)):=(Below.refl _ _).alloc (Nat.le_refl _) _;have b2:Below (w.alloc (.cells #[v] 38)).heap.size (w.alloc (.cells #[v] 38)) ((w.alloc (.cells #[v] 38)).alloc (.cells #[.slice none 0 0] 38)):=(Below.refl _ _).alloc (Nat.le_refl _) _;refine⟨FB b1 b2,(FQ.new w v).next b2,?_⟩;have h:=FQ.new (w.alloc (.cells #[v] 38)) (.slice none 0 0);have hz:(w.alloc (.cells #[v] 38)).heap.size=w.heap.size+1:=by simp
 rw[hz]at h;exact h
def eH(f:FuncId)(args:Value→Array Value)(fs:List DF)(ts:List AQ)(d:List DF)(E:Int):Prop:=∀v W,C9 W v fs→Calls prog f (args (.agg #[v])) W fun e w'=>∃a1 k1 c1 a n c,e=.returned (.tuple #[.slice a1 k1 c1,.agg #[.slice a n c],.int .i64 E])∧Hid (J5 w' (.slice a1 k1 c1) ts)∧Hid (C9 w' (.slice a n c) d)∧Below W.heap.size W w'
def BM6(f:FuncId)(fs:List DF)(s:List UInt8)(E:Int):Prop:=∀v W,C9 W v fs→Calls prog f #[.agg #[v],.string ⟨#[108,111,103]⟩] W fun e w'=>e=.returned (.tuple #[.string ⟨s.toArray⟩,.int .i64 E])∧Below W.heap.size W w'
def BM7(f:FuncId)(s:List UInt8)(ts:List AQ)(n:Nat):Prop:=∀W,Calls prog f #[.string ⟨s.toArray⟩] W fun e w'=>∃v,e=.returned (.tuple #[v,.int .i64 n])∧J5 w' v ts∧Below W.heap.size W w'
theorem ZK(fs d1:List DF)(E:Int)(CR:BM6 31 fs [] 7)(GW:J6 32 (fun x=>#[x,.string ⟨JA.toArray⟩,.string ⟨(([]:List UInt8)).toArray⟩]) fs d1 E):eH 10 (fun x=>#[x]) fs [] d1 E:=by
 intro v w hv;simp only[show JA.toArray=#[108,111,103]from rfl]at GW;have HV:=AA hv;obtain⟨a,n,c,rfl⟩:=DC hv;clear hv;go_enter func10,ntmps10;go_wp2_with fail;have X:=AA (wW.start w (.slice a n c));generalize (w.alloc (.cells #[.slice a n c] 38)).alloc (.cells #[.slice none 0 0] 38)=W0 at*;refine(CR _ _ ((A8 HV).next (A8 X).below)).mono ?_;rintro e w1 ⟨rfl,hb1⟩;have X1:=(A8 X).next hb1;have cd:=X1.d.c;have HX1:=AA X1;clear hb1 X X1 CR;go_wp2_with fail;refine(GW _ _ ((A8 HV).next (A8 HX1).below)).mono ?_;rintro e w2 ⟨a2,n2,c2,rfl,HD2,hb2⟩;have hal:=(Below.refl w2.heap.size w2).alloc (Nat.le_refl _) (.cells #[.slice a2 n2 c2] 38);have X2:=((A8 HX1).next hb2).next hal;have cr:=X2.r.c;have fr:=X2.r.f;have cy:=(FQ.new w2 (.slice a2 n2 c2)).c;have hz2:=((A8 HX1).next hb2).r.lt;have hnz:w.heap.size+1≠w2.heap.size:=by omega
 have HF:=AA (And.intro (X2.below.setCell (p:=⟨w.heap.size+1,0,none⟩) (by show w.heap.size≤w.heap.size+1;omega) (.slice a2 n2 c2)) (LZ ((A8 HD2).next hal) X2.r (.slice a2 n2 c2)));clear hb2 hal X2 HX1 HD2 GW cd HV;go_wp2_with fail;generalize w2.alloc (.cells #[.slice a2 n2 c2] 38)=W2 at*;go_region;go_wp2_with fail;exact bodyPost_ret (v:=.tuple #[.slice none 0 0,.agg #[.slice a2 n2 c2],.int .i64 E]) (by simp[results,results10,go_sem,cr]) rfl ⟨_,_,_,_,_,_,rfl,AA (J5.nil _),AA (A8 HF).2.drew,(A8 HF).1.drew⟩
theorem AD9(fs d1:List DF)(s:List UInt8)(ts:List AQ)(N:Nat)(CR:BM6 31 fs s 0)(CS:BM7 33 s ts N)(GC:J6 34 (fun x=>#[x,.string ⟨JA.toArray⟩,.int .i64 N]) fs d1 0):eH 10 (fun x=>#[x]) fs ts d1 0:=by
 intro v w hv;simp only[show JA.toArray=#[108,111,103]from rfl]at GC;have HV:=AA hv;obtain⟨a,n,c,rfl⟩:=DC hv;clear hv;go_enter func10,ntmps10;go_wp2_with fail;have X:=AA (wW.start w (.slice a n c));generalize (w.alloc (.cells #[.slice a n c] 38)).alloc (.cells #[.slice none 0 0] 38)=W0 at*;refine(CR _ _ ((A8 HV).next (A8 X).below)).mono ?_;rintro e w1 ⟨rfl,hb1⟩;have X1:=(A8 X).next hb1;have HX1:=AA X1;clear hb1 X X1 CR;go_wp2_with fail;refine(CS _).mono ?_;rintro e w2 ⟨v2,rfl,hl2,hb2⟩;have X2:=(A8 HX1).next hb2;have HL2:=AA hl2;obtain⟨al,cl,rfl⟩:=I9 hl2;have cd2:=X2.d.c;have HX2:=AA X2;clear hb2 hl2 X2 HX1 CS;go_wp2_with fail;refine(GC _ _ ((A8 HV).next (A8 HX2).below)).mono ?_;rintro e w3 ⟨a3,n3,c3,rfl,HD3,hb3⟩;have hal:=(Below.refl w3.heap.size w3).alloc (Nat.le_refl _) (.cells #[.slice a3 n3 c3] 38);have X3:=((A8 HX2).next hb3).next hal;have cr:=X3.r.c;have fr:=X3.r.f;have cy:=(FQ.new w3 (.slice a3 n3 c3)).c;have hz2:=((A8 HX2).next hb3).r.lt;have hnz:w.heap.size+1≠w3.heap.size:=by omega
 have HF:=AA (And.intro (X3.below.setCell (p:=⟨w.heap.size+1,0,none⟩) (by show w.heap.size≤w.heap.size+1;omega) (.slice a3 n3 c3)) (And.intro (LZ ((A8 HD3).next hal) X3.r (.slice a3 n3 c3)) (BU8 (((A8 HL2).next hb3).next hal) X3.r (.slice a3 n3 c3))));clear hb3 hal X3 HX2 HD3 HL2 GC cd2 HV;go_wp2_with fail;generalize w3.alloc (.cells #[.slice a3 n3 c3] 38)=W3 at*;go_region;go_wp2_with fail;exact bodyPost_ret (v:=.tuple #[.slice al ts.length cl,.agg #[.slice a3 n3 c3],.int .i64 0]) (by simp[results,results10,go_sem,cr]) rfl ⟨_,_,_,_,_,_,rfl,AA (A8 HF).2.2.drew,AA (A8 HF).2.1.drew,(A8 HF).1.drew⟩
theorem BD4{r:List UInt8}(S:Scan s ts r)(hs:s.length≤1048576):BM7 33 s ts (BL ts).length:=fun W=>
 (BU4 (fun s w h=>AE7 s w h) s r ts W S hs).mono fun _ _ ⟨v,he,ho,hb⟩=>⟨v,he,ho.log,hb⟩
theorem VY(h:VE fs ts A B):eH 10 (fun x=>#[x]) fs ts (A++KL ts::B) 0:=by
 have hs:=EN h.good;rcases h.old with⟨h16,G,rfl⟩|⟨f,r,T,S⟩
 ·exact ZK fs _ 0 (fun v W hv=>vH v fs JA 7 W hv hs (.inr ⟨h.good,⟨A,B,G⟩,rfl⟩))
   (IV fun v W hv=>XH v fs A B JA [] W hv hs h.good XO h16 G (by decide))
 ·have hf:=JB (T.ok h.good);have hl:=S.len;rw[List.length_append]at hl;refine AD9 fs _ (f.s++f.t) ts (BL ts).length (fun v W hv=>jC v fs A B f JA W hv hs h.good T) (BD4 S (by rw[List.length_append];omega)) (IV fun v W hv=>?_);have:=pR v fs A B f JA (BL ts).length W hv hs h.good T (by omega);rw[S.eq,List.take_left,T.nm]at this;exact this
theorem A29{z:Int}:∀ {ts:List AQ} {k:Nat} {t:AQ},ts[k]?=some t→(k<(OO z ts).length→t.z≤z)∧(k=(OO z ts).length→¬t.z≤z)
 |[],k,t,h=>by simp at h
 |x::l,0,t,h=>by
  simp at h;subst h;unfold OO;by_cases hx:x.z≤z
  ·rw[List.takeWhile_cons_of_pos (by simpa using hx)];simp[hx]
  ·rw[List.takeWhile_cons_of_neg (by simpa using hx)];simp;omega
 |x::l,k+1,t,h=>by
  have ih:=A29 (z:=z) (ts:=l) (k:=k) (t:=t) (by simpa using h);unfold OO at ih⊢;by_cases hx:x.z≤z
  ·rw[List.takeWhile_cons_of_pos (by simpa using hx)];simpa using ih
  ·rw[List.takeWhile_cons_of_neg (by simpa using hx)];simp
theorem A30(z:Int)(ts:List AQ):ts.take (OO z ts).length=OO z ts∧(OO z ts).length≤ts.length:=by
 obtain⟨b,e⟩:=dZ z ts;generalize OO z ts=a at*;subst e;simp
theorem rG(ts:List AQ)(k:Nat):(BL (ts.take k)).length≤(BL ts).length:=by
 have:BL ts=BL (ts.take k)++BL (ts.drop k):=by rw[←FX,List.take_append_drop]
 rw[this];simp
theorem C88{i:Nat}(h:i=j):Ending.returned (I0 (i:Int))=.returned (I0 (j:Int)):=by rw[h]
theorem BD5(v:Value)(ts:List AQ)(z:Int)(w:World)(hv:J5 w v ts)(hL:∀t∈ts,gdE t=0)(hs:(BL ts).length≤1048576):
  Calls prog 157 #[v,I0 z] w (R0 w (I0 ((BL (OO z ts)).length:Nat))):=by
 have hlen:=kN ts;have HV:=AA hv;have HG:=AA hL;have HK:=AA (A30 z ts);have HA:=AA (fun k t h=>A29 (z:=z) (ts:=ts) (k:=k) (t:=t) h);have hK:=(A30 z ts).2;generalize OO z ts=K at*;obtain⟨a,c,rfl⟩:=I9 hv;clear hv hL;go_enter func157,ntmps157;go_wp2_with fail
 go_loopg [5,12] ts.length (fun kx s5 s12 wr=>∃ (k N:Nat),s5=I0 N∧s12=I0 k∧k≤K.length∧ts.length-k≤kx∧Hid ((BL (ts.take k)).length=N)∧Hid (B0 w wr))
 case atStart=>exact⟨0,0,rfl,rfl,Nat.zero_le _,by omega,AA rfl,AA (Below.refl _ _)⟩
 case round=>
  obtain⟨k,N,rfl,rfl,hk,hkx,HN,HB⟩:=hrel;by_cases hlt:k<ts.length
  ·obtain⟨t,ht⟩:∃t,ts[k]?=some t:=⟨_,List.getElem?_eq_getElem hlt⟩;obtain⟨b,off,cap,he,hb,hr,_,_,_⟩:=VP ((A8 HV).next (A8 HB)) ht;simp only[Value.slice.injEq,true_and]at he;obtain⟨rfl,rfl⟩:=he;have e0:=hr.z ht;have e1:=hr.o ht;have e2:=hr.s ht;have e3:=hr.p ht;have e4:=hr.d ht;have e5:=hr.v ht;have e6:=hr.w ht;have BR5:(k:Int)<(ts.length:Int):=by omega
   have hg:=A8 HG t (List.mem_of_getElem? ht);have C:=fun W=>YT t W hg;have hat:=A8 HA k t ht;have HL:=AA (LH ht);have hN1:=rG ts (k+1);rw[LH ht,LG,List.length_append,A8 HN]at hN1;clear hr ht hb hg;obtain⟨R,hR⟩:∃R,MP t=R:=⟨_,rfl⟩;rw[hR]at C hN1;have HR:=AA hR;have hzR:(ByteArray.mk R.toArray).size=R.length:=Lib.size_eq ⟨R.toArray⟩;clear hR;have HB2:=fun o=>AA ((A8 HB).alloc (A8 HB).size o);obtain⟨z1,o1,s1,p1,d1,y1,u1⟩:=t;unfold DX at C;simp only at e0 e1 e2 e3 e4 e5 e6;by_cases hlK:k<K.length
   ·have hz':¬z<z1:=by have hz:z1≤z:=hat.1 hlK;omega
    clear hat;go_wp2_with fail;refine(C _).mono ?_;rintro e w1 ⟨rfl,hb1⟩;have HB3:=AA (FB (A8 (HB2 _)) hb1);clear C hb1 HB2 e0 e1 e2 e3 e4 e5 e6;go_wp2_with fail
    go_roundg (ts.length-(k+1))
    case measure=>omega
    case rel=>exact⟨k+1,N+R.length,by simp,by simp,by omega,Nat.le_refl _,AA (by rw[A8 HL,LG,List.length_append,A8 HN,A8 HR]),HB3⟩
   ·have hz':z<z1:=hat.2 (by omega);have hN2:(BL K).length=N:=by rw[←(A8 HK).1,show K.length=k from by omega];exact A8 HN
    have HN2:=AA hN2;clear hat hN2 C;go_wp2_with fail;go_ret;exact⟨C88 (A8 HN2).symm,A8 (HB2 _)⟩
  ·have hki:¬ ((k:Int)<(ts.length:Int)):=by omega
   have hN2:(BL K).length=N:=by rw[←(A8 HK).1,show K.length=k from by omega];exact A8 HN
   have HN2:=AA hN2;clear hN2;go_wp2_with fail;go_ret;exact⟨C88 (A8 HN2).symm,A8 HB⟩
theorem AV4(fs d1 d2:List DF)(ts:List AQ)(z:Int)(N:Nat)(GR:eH 10 (fun x=>#[x]) fs ts d1 0)(CU:∀v W,J5 W v ts→Calls prog 157 #[v,.int .i64 z] W fun e w'=>e=.returned (.int .i64 N)∧Below W.heap.size W w')
  (GC:J6 34 (fun x=>#[x,.string ⟨JA.toArray⟩,.int .i64 N]) d1 d2 0):J6 122 (fun x=>#[x,.int .i64 z]) fs d2 0:=by
 intro v w hv;simp only[show JA.toArray=#[108,111,103]from rfl]at GC;have HV:=AA hv;have HGC:=AA GC;have HCU:=AA CU;obtain⟨a,n,c,rfl⟩:=DC hv;clear hv GC CU;go_enter func122,ntmps122;go_wp2_with fail;have X:=AA (wW.start w (.slice a n c));generalize (w.alloc (.cells #[.slice a n c] 38)).alloc (.cells #[.slice none 0 0] 38)=W0 at*;refine(GR _ _ ((A8 HV).next (A8 X).below)).mono ?_;rintro e w1 ⟨a1,k1,c1,a2,n2,c2,rfl,HL1,HD1,hb1⟩;have X1:=(A8 X).next hb1;have hal:=(Below.refl w1.heap.size w1).alloc (Nat.le_refl _) (.cells #[.slice a2 n2 c2] 38);have HX2:=AA (X1.next hal);have HY2:=AA (FQ.new w1 (.slice a2 n2 c2));have HL2:=AA ((A8 HL1).next hal);have HD2:=AA ((A8 HD1).next hal);clear hb1 X X1 hal GR HV HL1 HD1;go_wp2_with fail;generalize w1.alloc (.cells #[.slice a2 n2 c2] 38)=W1 at*;have cy:=(A8 HY2).c
 go_region_with (first
  |(go_at_call 157;refine(A8 HCU _ _ (A8 HL2).drew).mono ?_;rintro e w2 ⟨rfl,hb⟩;have hb':=PZ hb;have HX3:=AA ((A8 HX2).next hb');have HD3:=AA ((A8 HD2).next hb');have cy3:=((A8 HY2).next hb').c;clear hb hb')
  |(go_at_call 34;refine(A8 HGC _ _ (A8 HD3)).mono ?_;rintro e w3 ⟨a3,n3,c3,rfl,HD4,hb⟩;have X4:=(A8 HX3).next hb;have cr4:=X4.r.c;have fr4:=X4.r.f;have HF:=AA (And.intro (X4.below.setCell (p:=⟨w.heap.size+1,0,none⟩) (by show w.heap.size≤w.heap.size+1;omega) (.slice a3 n3 c3)) (LZ (A8 HD4) X4.r (.slice a3 n3 c3)));clear hb X4 HX3 HD3 HD4))
 all_goals go_wp2_with fail
 all_goals exact bodyPost_ret (v:=.tuple #[.agg #[.slice a3 n3 c3],.int .i64 0]) (by simp[results,results122,go_sem,cr4]) rfl ⟨_,_,_,rfl,AA (A8 HF).2,(A8 HF).1⟩
theorem BD8(h:VE fs ts A B)(z:Int):J6 122 (fun x=>#[x,.int .i64 z]) fs (A++KL (OO z ts)::B) 0:=by
 refine AV4 fs _ _ ts z (BL (OO z ts)).length (VY h) (fun v W hv=>BD5 v ts z W hv h.log.good h.short) (IV fun v W hv=>?_);have g:=h.after h.short;have hk:=AD7 z ts;have:=pR v _ A B (KL ts) JA (BL (OO z ts)).length W hv (EN g) g (h.there ts) (by simp only[KL,List.length_nil,Nat.add_zero];exact hk.2);simp only[KL,List.append_nil,hk.1]at this⊢;exact this
end Go.Proofs.YtodnhndkghdinaaGreatDoor
