/-
  Part.
-/
import Derived.Test.YtenkgjfahcgppaaGreatDoorLOJ
import Derived.Test.YtenkgjfahcgppaaGreatDoorLOI
set_option maxRecDepth 20000
set_option maxHeartbeats 8000000
namespace Go.Proofs.YtenkgjfahcgppaaGreatDoor
open Go.RowKit Go.Proofs.Tryz
variable{a:Option Addr}{c k j:Nat}{W w:World}{B fs A:List DF}{ts:List AQ}{s:List UInt8}{v:Value}
theorem FC{a b c:World}(h:B0 a b)(k:B0 b c):B0 a c:=h.trans (k.mono h.size)
theorem OC(v:Value)(ts:List AQ)(w:World)(hv:J8 w v ts):
  Calls prog 119 #[v] w fun e w'=>e=.returned (I0 (DU ts))/\w'=w:=by
 by_cases h0:ts.length=0
 .obtain⟨a,c,rfl⟩:=IC hv;obtain rfl:=List.length_eq_zero_iff.1 h0;clear hv h0;rw[SX];go_enter func119,ntmps119;go_wp2_with fail;go_ret;exact⟨rfl,rfl⟩
 .obtain⟨m,x,rfl⟩:=AM0 h0;have hi:(m++[x])[m.length]?=some x:=by simp
  obtain⟨b,off,cap,rfl,hb,hr,hlt,hc,hm⟩:=RH hv hi;have e:=hr.z hi;have hl:(m++[x]).length=m.length+1:=by simp
  rw[PX,hl];simp only[maxLen]at hm;rw[hl]at hc;have hM:m.length<9223372036854775807:=by omega
  clear hv h0 hr hi hl hlt hc hm;generalize m.length=k at*;go_enter func119,ntmps119;go_wp2_with fail;go_ret;exact⟨rfl,rfl⟩
theorem fF(t:AQ)(v:Value)(ts:List AQ)(w:World)(hv:J8 w v ts):
  Calls prog 139 #[DW t,v] w (R0 w (.bool (dF ts t))):=by
 have C:=fun W (h:B0 w W)=>OC v ts W (hv.next h);obtain⟨a,c,rfl⟩:=IC hv;obtain⟨z,o,s,p,d,y,u⟩:=t;unfold DW;by_cases h0:ts.length=0
 .have hf:dF ts ⟨z,o,s,p,d,y,u⟩=true:=by simp[dF,h0]
  rw[hf,h0];clear C hv hf;go_enter func139,ntmps139;go_wp2_with fail;go_region;go_wp2_with fail;go_ret;exact⟨rfl,((Below.refl _ _).alloc (Nat.le_refl _) _).drew⟩
 .have hf:dF ts ⟨z,o,s,p,d,y,u⟩=decide (DU ts<z):=by rw[jB h0]
  rw[hf];generalize DU ts=L at*;have h0i:((ts.length:Int)==0)=false:=by simpa using h0
  clear hv hf;go_enter func139,ntmps139;go_wp2_with fail
  go_region_with (first|(go_at_call 119;refine(C _ ?_).mono ?_;exact(((Below.refl _ _).alloc (Nat.le_refl _) _).drew);rintro e w1 ⟨rfl,rfl⟩))
  all_goals go_wp2_with fail
  all_goals go_ret
  all_goals exact⟨rfl,((Below.refl _ _).alloc (Nat.le_refl _) _).drew⟩
theorem BY3{B:Nat}(h:iP W B (.slice a k c) ts)(hk:ts.length=k)(O:Obj)(V:World)(e:V=W.alloc O):V.ownsRow B 49 7 (.slice a k c) k (FH ts):=by
 subst e;have:=h.next ((Below.refl _ _).alloc (Nat.le_refl _) O);unfold iP at this;rwa[hk]at this
theorem BF8(W:World)(t:AQ)(j:Nat)(u:Value)(h:(J3 t)[j]?=some u):(W.alloc (.cells #[I0 t.z,I0 t.o,I0 t.s,S0 t.p,S0 t.d,I0 t.v,I0 t.w] 49)).cell? ((⟨W.heap.size,0,none⟩:Addr).add j)=some u:=by
 rw[Addr.add_lit];show World.cell? _ ⟨W.heap.size,0+j,none⟩=_;rw[Nat.zero_add];have e:=heap_alloc_new W (.cells #[I0 t.z,I0 t.o,I0 t.s,S0 t.p,S0 t.d,I0 t.v,I0 t.w] 49);simp only[World.cell?,e];have:(#[I0 t.z,I0 t.o,I0 t.s,S0 t.p,S0 t.d,I0 t.v,I0 t.w]:Array Value)[j]?=(J3 t)[j]? :=by simp[J3]
 rw[this,h];rfl
theorem BF9{w W V:World}{B k c:Nat}{a:Option Addr}{ts:List AQ}{t:AQ}{O:Obj}{v':Value}(hb:B0 w W)(h:iP W B (.slice a k c) ts)(hB:w.heap.size<=B)(hk:ts.length=k)
  (hown:V.ownsRow B 49 7 v' (k+1) (FH ts++J3 t)) (hg:(W.alloc O).grownBy V (Value.slice a k c).ownBlock):
  ∃a' c',v'=.slice a' (k+1) c'/\iP V B (.slice a' (k+1) c') (ts++[t])/\B0 w V:=by
 subst hk;have ho:=iP.more hown;obtain⟨a',c',rfl⟩:=AB6 ho;rw[List.length_append]at ho;refine⟨a',c',by rw[List.length_append];rfl,ho,?_⟩;have h1:B0 w (W.alloc O):=hb.alloc hb.size O;exact h1.grown hg h1.size fun q e=>Nat.le_trans hB (AB7 h q e).1
def CO6:Prop:=∀ (s:List UInt8) (w:World),s.length<=140737488355328->
  Calls prog 138 #[S0 s] w (R0 w (.tuple #[DW (jA s),I0 (oP s),I0 (YQ s)]))
theorem AW7{r:List UInt8}(S:Scan s ts r)(k:Nat):s.drop (BM (ts.take k)).length=BM (ts.drop k)++r/\(BM (ts.take k)).length<=s.length:=by
 have e:s=BM (ts.take k)++(BM (ts.drop k)++r):=by rw[<-List.append_assoc,<-GL,List.take_append_drop];exact S.eq
 generalize BM (ts.take k)=X at*;subst e;simp
theorem jZ{t:AQ}(h:ts[k]?=some t):ts.drop k=t::ts.drop (k+1):=by
 obtain⟨hk,rfl⟩:=List.getElem?_eq_some_iff.1 h;exact List.drop_eq_getElem_cons hk
theorem BY4(L:Logs ts){t:AQ}(h:ts[k]?=some t):gdE t=0/\dF (ts.take k) t=true:=by
 have e:ts=ts.take k++t::ts.drop (k+1):=by rw[<-jZ h,List.take_append_drop]
 rw[e]at L;exact L.at
theorem BQ4{i:Nat}(h:i=j):Ending.returned (.tuple #[v,I0 i])=.returned (.tuple #[v,I0 j]):=by rw[h]
theorem BY5(CD:CO6)(s r:List UInt8)(ts:List AQ)(w:World)(S:Scan s ts r)(hs:s.length<=1048576):
  Calls prog 100 #[S0 s] w fun e w'=>∃v,e=.returned (.tuple #[v,I0 ((BM ts).length:Nat)])/\iP w' w.heap.size v ts/\B0 w w':=by
 obtain⟨i0,hi0,hz0,hz1,hz2⟩:=lW;have hzs:(ByteArray.mk s.toArray).size=s.length:=Lib.size_eq ⟨s.toArray⟩;have hts:ts.length*31<=1048576:=by have:=lH ts;have:=S.len;omega
 have HS:=AA S;have HCD:=AA CD;clear S CD;go_enter func100,ntmps100;go_wp2_with fail
 go_loopg [4,5] ts.length (fun kx s4 s5 wr=>∃ (k N:Nat) (a:Option Addr) (c:Nat),s4=.slice a k c/\s5=I0 N/\k<=ts.length/\ts.length-k<=kx/\Hid ((BM (ts.take k)).length=N)/\Hid (iP wr w.heap.size (.slice a k c) (ts.take k)/\B0 w wr))
 case atStart=>exact⟨0,0,none,0,rfl,rfl,Nat.zero_le _,by omega,AA rfl,AA ⟨iP.nil _ _,Below.refl _ _⟩⟩
 case round=>
  obtain⟨k,N,a,c,rfl,rfl,hk,hkx,HN,hI⟩:=hrel;have h1:=AW7 (A8 HS) k;rw[A8 HN]at h1;obtain⟨hd,hNs⟩:=h1;have hx:(ByteArray.mk s.toArray).extract N s.length=⟨(s.drop N).toArray⟩:=AW5 s N;have hMl:(ts.take k).length=k:=by simp;omega
  by_cases hlt:k<ts.length
  .obtain⟨t,ht⟩:∃t,ts[k]?=some t:=⟨_,List.getElem?_eq_getElem hlt⟩;have hgf:=BY4 (A8 HS).log ht;rw[jZ ht,BM,List.append_assoc]at hd;have C:=fun W=>A8 HCD (s.drop N) W (by rw[List.length_drop];omega);have hdr:=BT2 hgf.1 (BM (ts.drop (k+1))++r);rw[<-hd]at hdr;rw[hdr.1,hdr.2.1,hdr.2.2]at C;have hrl:=dG hgf.1;have hNN:=AW7 (A8 HS) (k+1);rw[LV ht,LU,List.length_append,A8 HN]at hNN;have hNL:=hNN.2;have CF:=fun v W (h:J8 W v (ts.take k))=>fF t v (ts.take k) W h;rw[hgf.2]at CF;have HT:=AA (LV ht);have HM:=AA hMl;clear hd hdr hgf hNN hMl ht;obtain⟨Y,hY⟩:∃Y,s.drop N=Y:=⟨_,rfl⟩;rw[hY]at hx C;obtain⟨L,hL⟩:∃L,(NH t).length=L:=⟨_,rfl⟩;rw[hL]at C hNL hrl;have HL:=AA hL;obtain⟨M,hM⟩:∃M,ts.take k=M:=⟨_,rfl⟩;rw[hM]at hI HT HM CF HN;have HCF:=AA CF;clear hY hL hM CF;obtain⟨z,o,s1,p,d,y,u⟩:=t;unfold DW at C HCF;go_wp2_with fail;refine(C _).mono ?_;rintro e w1 ⟨rfl,hb1⟩;have hal:=(Below.refl w1.heap.size w1).alloc (Nat.le_refl _) (.cells #[I0 z,I0 o,I0 s1,S0 p,S0 d,I0 y,I0 u] 49);have HB1:=AA (FC (FC (A8 hI).2 hb1) hal);have HO1:=AA (((A8 hI).1.next hb1).next hal);have T1:=AA (TAt.new w1 ⟨z,o,s1,p,d,y,u⟩);clear C hb1 hal hI;go_wp2_with fail;generalize w1.alloc (.cells #[I0 z,I0 o,I0 s1,S0 p,S0 d,I0 y,I0 u] 49)=W1 at*;refine(A8 HCF _ _ (A8 HO1).log).mono ?_;rintro e w3 ⟨rfl,hb3⟩;have HB3:=AA (FC (A8 HB1) hb3);have HO3:=AA ((A8 HO1).next hb3);have T3:=(A8 T1).next hb3;have c0:=T3.c0;have c1:=T3.c1;have c2:=T3.c2;have c3:=T3.c3;have c4:=T3.c4;have c5:=T3.c5;have c6:=T3.c6;clear hb3 HB1 HO1 T1 T3 HCF;have HRW:=AA (BY3 (A8 HO3) (A8 HM));have HC2:=AA (BF8 w3 ⟨z,o,s1,p,d,y,u⟩);have h4:Hid (k+1<=maxLen):=by unfold Hid;simp only[maxLen];omega
   have h5:Hid ((k+1)*72<=140737488355328):=by unfold Hid;omega
   have h6:Hid (∀O1,w.heap.size<=(w3.alloc O1).heap.size):=fun O1=>by have:=(A8 HB3).size;simp;omega
   go_wp2_with (at_builtin;refine wpList_append_own _ rfl _ _ 27 rfl w.heap.size 49 i0 _ 7 72 underlying27 hi0 hz0 hz1 hz2 rfl (by decide) _ k (FH M) rfl (A8 HRW _ _ rfl) ⟨w3.heap.size,0,none⟩ 1 1 (J3 ⟨z,o,s1,p,d,y,u⟩) rfl rfl (A8 HC2) (jO _) (A8 h4) (A8 h5) (A8 h6 _) ?_);intro v' w5 hown hgrow _;obtain⟨a5,cc5,rfl,ho5,hb5⟩:=BF9 (A8 HB3) (A8 HO3) (Nat.le_refl _) (A8 HM) hown hgrow;have HZ:=AA (And.intro ho5 hb5);clear hown hgrow ho5 hb5 HRW HC2 h4 h5 h6 HB3 HO3 c0 c1 c2 c3 c4 c5 c6;go_wp2_with fail
   go_roundg (ts.length-(k+1))
   case measure=>omega
   case rel=>exact⟨k+1,N+L,a5,cc5,rfl,by simp,by omega,Nat.le_refl _,AA (by rw[A8 HT,LU,List.length_append,A8 HN,A8 HL]),AA (by rw[A8 HT];exact A8 HZ)⟩
  .obtain rfl:k=ts.length:=by omega
   rw[List.drop_length,BM,List.nil_append]at hd;have C:=fun W=>A8 HCD (s.drop N) W (by rw[List.length_drop];omega);rw[hd]at C hx;have hst:=(A8 HS).stop;have HI:=AA (by have:=A8 hI;rw[List.take_length]at this;exact this:iP wr w.heap.size (.slice a ts.length c) ts/\B0 w wr);have HN2:=AA (by have:=A8 HN;rw[List.take_length]at this;exact this:(BM ts).length=N);clear hd hMl hlt hI;by_cases he:YQ r=0
   .have hf:dF ts (jA r)=false:=by
     rcases hst with h|h
     .exact absurd he h
     .exact h
    have CF:=fun v W (h:J8 W v ts)=>fF (jA r) v ts W h;rw[hf]at CF;rw[he]at C;have HCF:=AA CF;clear hst hf CF;obtain⟨D,hD⟩:∃D,oP r=D:=⟨_,rfl⟩;rw[hD]at C;clear hD he;obtain⟨t,ht⟩:∃t,jA r=t:=⟨_,rfl⟩;rw[ht]at C HCF;clear ht;obtain⟨z,o,s1,p,d,y,u⟩:=t;unfold DW at C HCF;go_wp2_with fail;refine(C _).mono ?_;rintro e w1 ⟨rfl,hb1⟩;have hal:=(Below.refl w1.heap.size w1).alloc (Nat.le_refl _) (.cells #[I0 z,I0 o,I0 s1,S0 p,S0 d,I0 y,I0 u] 49);have HB1:=AA (FC (FC (A8 HI).2 hb1) hal);have HO1:=AA (((A8 HI).1.next hb1).next hal);clear C hb1 hal HI;go_wp2_with fail;generalize w1.alloc (.cells #[I0 z,I0 o,I0 s1,S0 p,S0 d,I0 y,I0 u] 49)=W1 at*;refine(A8 HCF _ _ (A8 HO1).log).mono ?_;rintro e w3 ⟨rfl,hb3⟩;have HB3:=AA (FC (A8 HB1) hb3);have HO3:=AA ((A8 HO1).next hb3);clear hb3 HB1 HO1 HCF;go_wp2_with fail
    go_ret2
    exact⟨.slice a ts.length c,BQ4 (A8 HN2).symm,A8 HO3,A8 HB3⟩
   .have hne:(YQ r !=0)=true:=by simpa using he
    clear hst he;obtain⟨D,hD⟩:∃D,oP r=D:=⟨_,rfl⟩;rw[hD]at C;clear hD;obtain⟨E,hE⟩:∃E,YQ r=E:=⟨_,rfl⟩;rw[hE]at C hne;clear hE;obtain⟨t,ht⟩:∃t,jA r=t:=⟨_,rfl⟩;rw[ht]at C;clear ht;obtain⟨z,o,s1,p,d,y,u⟩:=t;unfold DW at C;go_wp2_with fail;refine(C _).mono ?_;rintro e w1 ⟨rfl,hb1⟩;have hal:=(Below.refl w1.heap.size w1).alloc (Nat.le_refl _) (.cells #[I0 z,I0 o,I0 s1,S0 p,S0 d,I0 y,I0 u] 49);have HB1:=AA (FC (FC (A8 HI).2 hb1) hal);have HO1:=AA (((A8 HI).1.next hb1).next hal);clear C hb1 hal HI;go_wp2_with fail
    go_ret2
    exact⟨.slice a ts.length c,BQ4 (A8 HN2).symm,A8 HO1,A8 HB1⟩
def JI:List UInt8:=[108,111,103]
theorem Y6:EC JI=true:=by decide
def KU(ts:List AQ):DF:=⟨JI,BM ts,[]⟩
structure VO(fs:List DF)(ts:List AQ)(A B:List DF):Prop where
 good:H6 fs
 log:Logs ts
 old:(fs.length<16/\Gap fs A B JI/\ts=[])\/∃f r,There fs A f B JI/\Scan (f.s++f.t) ts r
theorem VO.short(h:VO fs ts A B):(BM ts).length<=1048576:=by
 rcases h.old with⟨_,_,rfl⟩|⟨f,r,T,S⟩
 .simp[BM]
 .have h1:=S.len;have h2:=JE (T.ok h.good);rw[List.length_append]at h1;omega
theorem VO.there(h:VO fs ts A B)(us:List AQ):There (A++KU us::B) A (KU us) B JI:=by
 rcases h.old with⟨_,G,_⟩|⟨f,r,T,_⟩
 .exact G.ins rfl
 .exact T.set rfl
theorem VO.after(h:VO fs ts A B){us:List AQ}(hu:(BM us).length<=1048576):H6 (A++KU us::B):=by
 have hl:(KU us).s.length+(KU us).t.length<=1048576:=by simp[KU];exact hu
 rcases h.old with⟨h16,G,_⟩|⟨f,r,T,_⟩
 .exact mD h.good G Y6 h16 rfl hl
 .have g:=h.good;rw[T.eq]at g;exact BB3 g T.nm.symm hl
theorem nG(name:List UInt8):Gap [] [] [] name:=⟨rfl,by simp,by simp⟩
theorem TY:H6 []:=⟨by simp,by simp,List.Pairwise.nil⟩
theorem Y7{t:List UInt8}(h:s.length+t.length<=1048576):H6 [⟨JI,s,t⟩]:=
 mD TY (nG JI) Y6 (by simp) (f':=⟨JI,s,t⟩) rfl h
def OY(z:Int)(ts:List AQ):List AQ:=ts.takeWhile fun t=>decide (t.z<=z)
theorem fH(z:Int)(ts:List AQ):∃b,ts=OY z ts++b:=⟨ts.dropWhile fun t=>decide (t.z<=z),(List.takeWhile_append_dropWhile ..).symm⟩
theorem AG1(z:Int)(ts:List AQ):(BM ts).take (BM (OY z ts)).length=BM (OY z ts)/\(BM (OY z ts)).length<=(BM ts).length:=by
 obtain⟨b,e⟩:=fH z ts;generalize OY z ts=a at*;subst e;rw[GL];simp
theorem MN(h:C9 W v fs){n:Nat}(hb:FT W k (.slice a n c))(u:Value):C9 (W.setCell ⟨k,0,none⟩ u) v fs:=by
 rcases h with h|⟨b,off,cap,rfl,h1,h2,h3,h0,h4⟩
 .exact .inl h
 .have hne:b≠k:=by
   rintro rfl;obtain⟨f,r,rfl⟩:∃f r,fs=f::r:=by
    cases fs with
    |nil=>exact absurd rfl h0
    |cons f r=>exact⟨f,r,rfl⟩
   have e:=h4.c0 (i:=0) (f:=f) rfl;unfold FT at hb;simp only[World.cell?,hb]at e
   cases off with
   |zero=>simp at e
   |succ m=>simp at e
  refine .inr ⟨b,off,cap,rfl,h1,h2,by simpa [World.setCell]using h3,h0,fun j x hj=>?_⟩;rw[<-h4 j x hj];exact World.cell?_of_block (Below.heap_setCell W ⟨k,0,none⟩ u b hne)
theorem BY9(h:J8 W v ts){n:Nat}(hb:FT W k (.slice a n c))(u:Value):J8 (W.setCell ⟨k,0,none⟩ u) v ts:=by
 rcases h with h|⟨b,off,cap,rfl,h1,h2,h3,h0,h4⟩
 .exact .inl h
 .have hne:b≠k:=by
   rintro rfl;obtain⟨f,r,rfl⟩:∃f r,ts=f::r:=by
    cases ts with
    |nil=>exact absurd rfl h0
    |cons f r=>exact⟨f,r,rfl⟩
   have e:=h4.z (i:=0) (t:=f) rfl;unfold FT at hb;simp only[World.cell?,hb]at e
   cases off with
   |zero=>simp at e
   |succ m=>simp at e
  refine .inr ⟨b,off,cap,rfl,h1,h2,by simpa [World.setCell]using h3,h0,fun j x hj=>?_⟩;rw[<-h4 j x hj];exact World.cell?_of_block (Below.heap_setCell W ⟨k,0,none⟩ u b hne)
theorem FT.other(h:FT W k v)(hj:k≠j)(u:Value):FT (W.setCell ⟨j,0,none⟩ u) k v:=(Below.heap_setCell W ⟨j,0,none⟩ u k hj).trans h
theorem FT.lt(h:FT W k v):k<W.heap.size:=by unfold FT at h;exact(Array.getElem?_eq_some_iff.1 h).1
structure BZ0(w W:World)(v:Value):Prop where
 below:Below w.heap.size w W
 d:FT W w.heap.size v
 r:FT W (w.heap.size+1+1) (.slice none 0 0)
theorem BZ0.next{V:World}(h:BZ0 w W v)(hb:Below W.heap.size W V):BZ0 w V v:=⟨FC h.below hb,h.d.next hb,h.r.next hb⟩
theorem BZ0.start(w:World)(v:Value)(o:Obj):BZ0 w (((w.alloc (.cells #[v] 34)).alloc o).alloc (.cells #[.slice none 0 0] 34)) v:=by
 have b1:Below (w.alloc (.cells #[v] 34)).heap.size (w.alloc (.cells #[v] 34)) ((w.alloc (.cells #[v] 34)).alloc o):=(Below.refl _ _).alloc (Nat.le_refl _) _;have b2:Below ((w.alloc (.cells #[v] 34)).alloc o).heap.size ((w.alloc (.cells #[v] 34)).alloc o) (((w.alloc (.cells #[v] 34)).alloc o).alloc (.cells #[.slice none 0 0] 34)):=(Below.refl _ _).alloc (Nat.le_refl _) _;have b0:Below w.heap.size w (w.alloc (.cells #[v] 34)):=(Below.refl _ _).alloc (Nat.le_refl _) _;refine⟨FC (FC b0 b1) b2,((FT.new w v).next b1).next b2,?_⟩;have h:=FT.new ((w.alloc (.cells #[v] 34)).alloc o) (.slice none 0 0);have hz:((w.alloc (.cells #[v] 34)).alloc o).heap.size=w.heap.size+1+1:=by simp
 rw[hz]at h;exact h
structure yC(w W:World)(v:Value):Prop where
 below:Below w.heap.size w W
 d:FT W w.heap.size v
 r:FT W (w.heap.size+1) (.slice none 0 0)
theorem yC.next{V:World}(h:yC w W v)(hb:Below W.heap.size W V):yC w V v:=⟨FC h.below hb,h.d.next hb,h.r.next hb⟩
theorem yC.setd(h:yC w W v)(u:Value):yC w (W.setCell ⟨w.heap.size,0,none⟩ u) u:=⟨h.below.setCell (Nat.le_refl _) u,h.d.set u,h.r.other (by omega) u⟩
theorem yC.start(w:World)(v:Value):yC w ((w.alloc (.cells #[v] 34)).alloc (.cells #[.slice none 0 0] 34)) v:=by
 have b1:Below w.heap.size w (w.alloc (.cells #[v] 34)):=(Below.refl _ _).alloc (Nat.le_refl _) _;have b2:Below (w.alloc (.cells #[v] 34)).heap.size (w.alloc (.cells #[v] 34)) ((w.alloc (.cells #[v] 34)).alloc (.cells #[.slice none 0 0] 34)):=(Below.refl _ _).alloc (Nat.le_refl _) _;refine⟨FC b1 b2,(FT.new w v).next b2,?_⟩;have h:=FT.new (w.alloc (.cells #[v] 34)) (.slice none 0 0);have hz:(w.alloc (.cells #[v] 34)).heap.size=w.heap.size+1:=by simp
 rw[hz]at h;exact h
def kC(f:FuncId)(args:Value->Array Value)(fs:List DF)(ts:List AQ)(d:List DF)(E:Int):Prop:=∀v W,C9 W v fs->Calls prog f (args (.agg #[v])) W fun e w'=>∃a1 k1 c1 a n c,e=.returned (.tuple #[.slice a1 k1 c1,.agg #[.slice a n c],.int .i64 E])/\Hid (J8 w' (.slice a1 k1 c1) ts)/\Hid (C9 w' (.slice a n c) d)/\Below W.heap.size W w'
def BQ5(f:FuncId)(fs:List DF)(s:List UInt8)(E:Int):Prop:=∀v W,C9 W v fs->Calls prog f #[.agg #[v],.string ⟨#[108,111,103]⟩] W fun e w'=>e=.returned (.tuple #[.string ⟨s.toArray⟩,.int .i64 E])/\Below W.heap.size W w'
def BQ6(f:FuncId)(s:List UInt8)(ts:List AQ)(n:Nat):Prop:=∀W,Calls prog f #[.string ⟨s.toArray⟩] W fun e w'=>∃v,e=.returned (.tuple #[v,.int .i64 n])/\J8 w' v ts/\Below W.heap.size W w'
theorem aC(fs d1:List DF)(E:Int)(CR:BQ5 98 fs [] 7)(GW:J9 99 (fun x=>#[x,.string ⟨JI.toArray⟩,.string ⟨(([]:List UInt8)).toArray⟩]) fs d1 E):kC 74 (fun x=>#[x]) fs [] d1 E:=by
 intro v w hv;simp only[show JI.toArray=#[108,111,103]from rfl]at GW;have HV:=AA hv;obtain⟨a,n,c,rfl⟩:=DK hv;clear hv;go_enter func74,ntmps74;go_wp2_with fail;have X:=AA (yC.start w (.slice a n c));generalize (w.alloc (.cells #[.slice a n c] 34)).alloc (.cells #[.slice none 0 0] 34)=W0 at*;refine(CR _ _ ((A8 HV).next (A8 X).below)).mono ?_;rintro e w1 ⟨rfl,hb1⟩;have X1:=(A8 X).next hb1;have cd:=X1.d.c;have HX1:=AA X1;clear hb1 X X1 CR;go_wp2_with fail;refine(GW _ _ ((A8 HV).next (A8 HX1).below)).mono ?_;rintro e w2 ⟨a2,n2,c2,rfl,HD2,hb2⟩;have hal:=(Below.refl w2.heap.size w2).alloc (Nat.le_refl _) (.cells #[.slice a2 n2 c2] 34);have X2:=((A8 HX1).next hb2).next hal;have cr:=X2.r.c;have fr:=X2.r.f;have cy:=(FT.new w2 (.slice a2 n2 c2)).c;have hz2:=((A8 HX1).next hb2).r.lt;have hnz:w.heap.size+1≠w2.heap.size:=by omega
 have HF:=AA (And.intro (X2.below.setCell (p:=⟨w.heap.size+1,0,none⟩) (by show w.heap.size<=w.heap.size+1;omega) (.slice a2 n2 c2)) (MN ((A8 HD2).next hal) X2.r (.slice a2 n2 c2)));clear hb2 hal X2 HX1 HD2 GW cd HV;go_wp2_with fail;generalize w2.alloc (.cells #[.slice a2 n2 c2] 34)=W2 at*;go_region;go_wp2_with fail;exact bodyPost_ret (v:=.tuple #[.slice none 0 0,.agg #[.slice a2 n2 c2],.int .i64 E]) (by simp[results,results74,go_sem,cr]) rfl ⟨_,_,_,_,_,_,rfl,AA (J8.nil _),AA (A8 HF).2.drew,(A8 HF).1.drew⟩
theorem AG3(fs d1:List DF)(s:List UInt8)(ts:List AQ)(N:Nat)(CR:BQ5 98 fs s 0)(CS:BQ6 100 s ts N)(GC:J9 101 (fun x=>#[x,.string ⟨JI.toArray⟩,.int .i64 N]) fs d1 0):kC 74 (fun x=>#[x]) fs ts d1 0:=by
 intro v w hv;simp only[show JI.toArray=#[108,111,103]from rfl]at GC;have HV:=AA hv;obtain⟨a,n,c,rfl⟩:=DK hv;clear hv;go_enter func74,ntmps74;go_wp2_with fail;have X:=AA (yC.start w (.slice a n c));generalize (w.alloc (.cells #[.slice a n c] 34)).alloc (.cells #[.slice none 0 0] 34)=W0 at*;refine(CR _ _ ((A8 HV).next (A8 X).below)).mono ?_;rintro e w1 ⟨rfl,hb1⟩;have X1:=(A8 X).next hb1;have HX1:=AA X1;clear hb1 X X1 CR;go_wp2_with fail;refine(CS _).mono ?_;rintro e w2 ⟨v2,rfl,hl2,hb2⟩;have X2:=(A8 HX1).next hb2;have HL2:=AA hl2;obtain⟨al,cl,rfl⟩:=IC hl2;have cd2:=X2.d.c;have HX2:=AA X2;clear hb2 hl2 X2 HX1 CS;go_wp2_with fail;refine(GC _ _ ((A8 HV).next (A8 HX2).below)).mono ?_;rintro e w3 ⟨a3,n3,c3,rfl,HD3,hb3⟩;have hal:=(Below.refl w3.heap.size w3).alloc (Nat.le_refl _) (.cells #[.slice a3 n3 c3] 34);have X3:=((A8 HX2).next hb3).next hal;have cr:=X3.r.c;have fr:=X3.r.f;have cy:=(FT.new w3 (.slice a3 n3 c3)).c;have hz2:=((A8 HX2).next hb3).r.lt;have hnz:w.heap.size+1≠w3.heap.size:=by omega
 have HF:=AA (And.intro (X3.below.setCell (p:=⟨w.heap.size+1,0,none⟩) (by show w.heap.size<=w.heap.size+1;omega) (.slice a3 n3 c3)) (And.intro (MN ((A8 HD3).next hal) X3.r (.slice a3 n3 c3)) (BY9 (((A8 HL2).next hb3).next hal) X3.r (.slice a3 n3 c3))));clear hb3 hal X3 HX2 HD3 HL2 GC cd2 HV;go_wp2_with fail;generalize w3.alloc (.cells #[.slice a3 n3 c3] 34)=W3 at*;go_region;go_wp2_with fail;exact bodyPost_ret (v:=.tuple #[.slice al ts.length cl,.agg #[.slice a3 n3 c3],.int .i64 0]) (by simp[results,results74,go_sem,cr]) rfl ⟨_,_,_,_,_,_,rfl,AA (A8 HF).2.2.drew,AA (A8 HF).2.1.drew,(A8 HF).1.drew⟩
theorem BG9{r:List UInt8}(S:Scan s ts r)(hs:s.length<=1048576):BQ6 100 s ts (BM ts).length:=fun W=>
 (BY5 (fun s w h=>AH0 s w h) s r ts W S hs).mono fun _ _ ⟨v,he,ho,hb⟩=>⟨v,he,ho.log,hb⟩
theorem fU(h:VO fs ts A B):kC 74 (fun x=>#[x]) fs ts (A++KU ts::B) 0:=by
 have hs:=F8 h.good;rcases h.old with⟨h16,G,rfl⟩|⟨f,r,T,S⟩
 .exact aC fs _ 0 (fun v W hv=>wM v fs JI 7 W hv hs (.inr ⟨h.good,⟨A,B,G⟩,rfl⟩))
   (IW fun v W hv=>XV v fs A B JI [] W hv hs h.good Y6 h16 G (by decide))
 .have hf:=JE (T.ok h.good);have hl:=S.len;rw[List.length_append]at hl;refine AG3 fs _ (f.s++f.t) ts (BM ts).length (fun v W hv=>jS v fs A B f JI W hv hs h.good T) (BG9 S (by rw[List.length_append];omega)) (IW fun v W hv=>?_);have:=qO v fs A B f JI (BM ts).length W hv hs h.good T (by omega);rw[S.eq,List.take_left,T.nm]at this;exact this
theorem A55{z:Int}:∀ {ts:List AQ} {k:Nat} {t:AQ},ts[k]?=some t->(k<(OY z ts).length->t.z<=z)/\(k=(OY z ts).length->¬t.z<=z)
 |[],k,t,h=>by simp at h
 |x::l,0,t,h=>by
  simp at h;subst h;unfold OY;by_cases hx:x.z<=z
  .rw[List.takeWhile_cons_of_pos (by simpa using hx)];simp[hx]
  .rw[List.takeWhile_cons_of_neg (by simpa using hx)];simp;omega
 |x::l,k+1,t,h=>by
  have ih:=A55 (z:=z) (ts:=l) (k:=k) (t:=t) (by simpa using h);unfold OY at ih⊢;by_cases hx:x.z<=z
  .rw[List.takeWhile_cons_of_pos (by simpa using hx)];simpa using ih
  .rw[List.takeWhile_cons_of_neg (by simpa using hx)];simp
theorem A56(z:Int)(ts:List AQ):ts.take (OY z ts).length=OY z ts/\(OY z ts).length<=ts.length:=by
 obtain⟨b,e⟩:=fH z ts;generalize OY z ts=a at*;subst e;simp
theorem sK(ts:List AQ)(k:Nat):(BM (ts.take k)).length<=(BM ts).length:=by
 have:BM ts=BM (ts.take k)++BM (ts.drop k):=by rw[<-GL,List.take_append_drop]
 rw[this];simp
theorem CE2{i:Nat}(h:i=j):Ending.returned (I0 (i:Int))=.returned (I0 (j:Int)):=by rw[h]
theorem BH0(v:Value)(ts:List AQ)(z:Int)(w:World)(hv:J8 w v ts)(hL:∀t∈ts,gdE t=0)(hs:(BM ts).length<=1048576):
  Calls prog 197 #[v,I0 z] w (R0 w (I0 ((BM (OY z ts)).length:Nat))):=by
 have hlen:=lH ts;have HV:=AA hv;have HG:=AA hL;have HK:=AA (A56 z ts);have HA:=AA (fun k t h=>A55 (z:=z) (ts:=ts) (k:=k) (t:=t) h);have hK:=(A56 z ts).2;generalize OY z ts=K at*;obtain⟨a,c,rfl⟩:=IC hv;clear hv hL;go_enter func197,ntmps197;go_wp2_with fail
 go_loopg [5,12] ts.length (fun kx s5 s12 wr=>∃ (k N:Nat),s5=I0 N/\s12=I0 k/\k<=K.length/\ts.length-k<=kx/\Hid ((BM (ts.take k)).length=N)/\Hid (B0 w wr))
 case atStart=>exact⟨0,0,rfl,rfl,Nat.zero_le _,by omega,AA rfl,AA (Below.refl _ _)⟩
 case round=>
  obtain⟨k,N,rfl,rfl,hk,hkx,HN,HB⟩:=hrel;by_cases hlt:k<ts.length
  .obtain⟨t,ht⟩:∃t,ts[k]?=some t:=⟨_,List.getElem?_eq_getElem hlt⟩;obtain⟨b,off,cap,he,hb,hr,_,_,_⟩:=RH ((A8 HV).next (A8 HB)) ht;simp only[Value.slice.injEq,true_and]at he;obtain⟨rfl,rfl⟩:=he;have e0:=hr.z ht;have e1:=hr.o ht;have e2:=hr.s ht;have e3:=hr.p ht;have e4:=hr.d ht;have e5:=hr.v ht;have e6:=hr.w ht;have BV6:(k:Int)<(ts.length:Int):=by omega
   have hg:=A8 HG t (List.mem_of_getElem? ht);have C:=fun W=>ZB t W hg;have hat:=A8 HA k t ht;have HL:=AA (LV ht);have hN1:=sK ts (k+1);rw[LV ht,LU,List.length_append,A8 HN]at hN1;clear hr ht hb hg;obtain⟨R,hR⟩:∃R,NH t=R:=⟨_,rfl⟩;rw[hR]at C hN1;have HR:=AA hR;have hzR:(ByteArray.mk R.toArray).size=R.length:=Lib.size_eq ⟨R.toArray⟩;clear hR;have HB2:=fun o=>AA ((A8 HB).alloc (A8 HB).size o);obtain⟨z1,o1,s1,p1,d1,y1,u1⟩:=t;unfold DW at C;simp only at e0 e1 e2 e3 e4 e5 e6;by_cases hlK:k<K.length
   .have hz':¬z<z1:=by have hz:z1<=z:=hat.1 hlK;omega
    clear hat;go_wp2_with fail;refine(C _).mono ?_;rintro e w1 ⟨rfl,hb1⟩;have HB3:=AA (FC (A8 (HB2 _)) hb1);clear C hb1 HB2 e0 e1 e2 e3 e4 e5 e6;go_wp2_with fail
    go_roundg (ts.length-(k+1))
    case measure=>omega
    case rel=>exact⟨k+1,N+R.length,by simp,by simp,by omega,Nat.le_refl _,AA (by rw[A8 HL,LU,List.length_append,A8 HN,A8 HR]),HB3⟩
   .have hz':z<z1:=hat.2 (by omega);have hN2:(BM K).length=N:=by rw[<-(A8 HK).1,show K.length=k from by omega];exact A8 HN
    have HN2:=AA hN2;clear hat hN2 C;go_wp2_with fail;go_ret;exact⟨CE2 (A8 HN2).symm,A8 (HB2 _)⟩
  .have hki:¬ ((k:Int)<(ts.length:Int)):=by omega
   have hN2:(BM K).length=N:=by rw[<-(A8 HK).1,show K.length=k from by omega];exact A8 HN
   have HN2:=AA hN2;clear hN2;go_wp2_with fail;go_ret;exact⟨CE2 (A8 HN2).symm,A8 HB⟩
theorem AY4(fs d1 d2:List DF)(ts:List AQ)(z:Int)(N:Nat)(GR:kC 74 (fun x=>#[x]) fs ts d1 0)(CU:∀v W,J8 W v ts->Calls prog 197 #[v,.int .i64 z] W fun e w'=>e=.returned (.int .i64 N)/\Below W.heap.size W w')
  (GC:J9 101 (fun x=>#[x,.string ⟨JI.toArray⟩,.int .i64 N]) d1 d2 0):J9 161 (fun x=>#[x,.int .i64 z]) fs d2 0:=by
 intro v w hv;simp only[show JI.toArray=#[108,111,103]from rfl]at GC;have HV:=AA hv;have HGC:=AA GC;have HCU:=AA CU;obtain⟨a,n,c,rfl⟩:=DK hv;clear hv GC CU;go_enter func161,ntmps161;go_wp2_with fail;have X:=AA (yC.start w (.slice a n c));generalize (w.alloc (.cells #[.slice a n c] 34)).alloc (.cells #[.slice none 0 0] 34)=W0 at*;refine(GR _ _ ((A8 HV).next (A8 X).below)).mono ?_;rintro e w1 ⟨a1,k1,c1,a2,n2,c2,rfl,HL1,HD1,hb1⟩;have X1:=(A8 X).next hb1;have hal:=(Below.refl w1.heap.size w1).alloc (Nat.le_refl _) (.cells #[.slice a2 n2 c2] 34);have HX2:=AA (X1.next hal);have HY2:=AA (FT.new w1 (.slice a2 n2 c2));have HL2:=AA ((A8 HL1).next hal);have HD2:=AA ((A8 HD1).next hal);clear hb1 X X1 hal GR HV HL1 HD1;go_wp2_with fail;generalize w1.alloc (.cells #[.slice a2 n2 c2] 34)=W1 at*;have cy:=(A8 HY2).c
 go_region_with (first
  |(go_at_call 197;refine(A8 HCU _ _ (A8 HL2).drew).mono ?_;rintro e w2 ⟨rfl,hb⟩;have hb':=QG hb;have HX3:=AA ((A8 HX2).next hb');have HD3:=AA ((A8 HD2).next hb');have cy3:=((A8 HY2).next hb').c;clear hb hb')
  |(go_at_call 101;refine(A8 HGC _ _ (A8 HD3)).mono ?_;rintro e w3 ⟨a3,n3,c3,rfl,HD4,hb⟩;have X4:=(A8 HX3).next hb;have cr4:=X4.r.c;have fr4:=X4.r.f;have HF:=AA (And.intro (X4.below.setCell (p:=⟨w.heap.size+1,0,none⟩) (by show w.heap.size<=w.heap.size+1;omega) (.slice a3 n3 c3)) (MN (A8 HD4) X4.r (.slice a3 n3 c3)));clear hb X4 HX3 HD3 HD4))
 all_goals go_wp2_with fail
 all_goals exact bodyPost_ret (v:=.tuple #[.agg #[.slice a3 n3 c3],.int .i64 0]) (by simp[results,results161,go_sem,cr4]) rfl ⟨_,_,_,rfl,AA (A8 HF).2,(A8 HF).1⟩
theorem BH3(h:VO fs ts A B)(z:Int):J9 161 (fun x=>#[x,.int .i64 z]) fs (A++KU (OY z ts)::B) 0:=by
 refine AY4 fs _ _ ts z (BM (OY z ts)).length (fU h) (fun v W hv=>BH0 v ts z W hv h.log.good h.short) (IW fun v W hv=>?_);have g:=h.after h.short;have hk:=AG1 z ts;have:=qO v _ A B (KU ts) JI (BM (OY z ts)).length W hv (F8 g) g (h.there ts) (by simp only[KU,List.length_nil,Nat.add_zero];exact hk.2);simp only[KU,List.append_nil,hk.1]at this⊢;exact this
