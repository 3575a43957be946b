/-
  Part.
-/
import Derived.Test.YtnlikdglijgjpaaGreatDoorLOI
import Derived.Test.YtnlikdglijgjpaaGreatDoorLOH
set_option maxRecDepth 20000
set_option maxHeartbeats 8000000
namespace Go.Proofs.YtnlikdglijgjpaaGreatDoor
open Go.RowKit Go.Proofs.Tryz
open _root_.Nat renaming le_refl->A8,zero_le->AY
open Go.RowKit.Below renaming refl->AA,heap_setCell->BF
open _root_.List renaming getElem?_eq_getElem->AL,length_append->AO,append_assoc->BR,take_append_drop->DU,take_length->DV
open Go.Value renaming slice->FT
open Go.Obj renaming cells->FU
open Go renaming World->FV,Value->FW,Calls->FX
open _root_.Option renaming none->FZ,some->G5
variable{a:Option Addr}{c k j:Nat}{W w:FV}{B fs A:List DF}{ts:List GK}{s:List UInt8}{v:FW}
theorem JV{a b c:FV}(h:B0 a b)(k:B0 b c):B0 a c:=h.trans (k.mono h.size)
theorem RP(v:FW)(ts:List GK)(w:FV)(hv:NT w v ts):
  FX prog 63 #[v] w fun e w'=>e=.returned (I0 (J3 ts))/\w'=w:=by
 by_cases h0:ts.length=0
 .obtain⟨a,c,rfl⟩:=MF hv;obtain rfl:=List.length_eq_zero_iff.1 h0;clear hv h0;rw[VU];go_enter func63,ntmps63;go_wp2_with fail;go_ret;exact⟨rfl,rfl⟩
 .obtain⟨m,x,rfl⟩:=AS7 h0;have hi:(m++[x])[m.length]?=G5 x:=by simp
  obtain⟨b,off,cap,rfl,hb,hr,hlt,hc,hm⟩:=YU hv hi;have e:=hr.z hi;have hl:(m++[x]).length=m.length+1:=by simp
  rw[TQ,hl];simp only[maxLen]at hm;rw[hl]at hc;have hM:m.length<9223372036854775807:=by omega
  clear hv h0 hr hi hl hlt hc hm;generalize m.length=k at*;go_enter func63,ntmps63;go_wp2_with fail;go_ret;exact⟨rfl,rfl⟩
theorem jT(t:GK)(v:FW)(ts:List GK)(w:FV)(hv:NT w v ts):
  FX prog 74 #[J7 t,v] w (R0 w (.bool (iM ts t))):=by
 have C:=fun W (h:B0 w W)=>RP v ts W (hv.next h);obtain⟨a,c,rfl⟩:=MF hv;obtain⟨z,o,s,p,d,y,u⟩:=t;unfold J7;by_cases h0:ts.length=0
 .have hf:iM ts ⟨z,o,s,p,d,y,u⟩=true:=by simp[iM,h0]
  rw[hf,h0];clear C hv hf;go_enter func74,ntmps74;go_wp2_with fail;go_region;go_wp2_with fail;go_ret;exact⟨rfl,((AA _ _).alloc (A8 _) _).drew⟩
 .have hf:iM ts ⟨z,o,s,p,d,y,u⟩=decide (J3 ts<z):=by rw[lY h0]
  rw[hf];generalize J3 ts=L at*;have h0i:((ts.length:Int)==0)=false:=by simpa using h0
  clear hv hf;go_enter func74,ntmps74;go_wp2_with fail
  go_region_with (first|(go_at_call 63;refine(C _ ?_).mono ?_;exact(((AA _ _).alloc (A8 _) _).drew);rintro e w1 ⟨rfl,rfl⟩))
  all_goals go_wp2_with fail
  all_goals go_ret
  all_goals exact⟨rfl,((AA _ _).alloc (A8 _) _).drew⟩
theorem C46{B:Nat}(h:lM W B (FT a k c) ts)(hk:ts.length=k)(O:Obj)(V:FV)(e:V=W.alloc O):V.ownsRow B 65 7 (FT a k c) k (KH ts):=by
 subst e;have:=h.next ((AA _ _).alloc (A8 _) O);unfold lM at this;rwa[hk]at this
theorem BM1(W:FV)(t:GK)(j:Nat)(u:FW)(h:(MW t)[j]?=G5 u):(W.alloc (FU #[I0 t.z,I0 t.o,I0 t.s,S0 t.p,S0 t.d,I0 t.v,I0 t.w] 65)).cell? ((⟨W.heap.size,0,FZ⟩:Addr).add j)=G5 u:=by
 rw[Addr.add_lit];show World.cell? _ ⟨W.heap.size,0+j,FZ⟩=_;rw[Nat.zero_add];have e:=heap_alloc_new W (FU #[I0 t.z,I0 t.o,I0 t.s,S0 t.p,S0 t.d,I0 t.v,I0 t.w] 65);simp only[World.cell?,e];have:(#[I0 t.z,I0 t.o,I0 t.s,S0 t.p,S0 t.d,I0 t.v,I0 t.w]:Array FW)[j]?=(MW t)[j]? :=by simp[MW]
 rw[this,h];rfl
theorem BM2{w W V:FV}{B k c:Nat}{a:Option Addr}{ts:List GK}{t:GK}{O:Obj}{v':FW}(hb:B0 w W)(h:lM W B (FT a k c) ts)(hB:w.heap.size<=B)(hk:ts.length=k)
  (hown:V.ownsRow B 65 7 v' (k+1) (KH ts++MW t)) (hg:(W.alloc O).grownBy V (Value.slice a k c).ownBlock):
  ∃a' c',v'=FT a' (k+1) c'/\lM V B (FT a' (k+1) c') (ts++[t])/\B0 w V:=by
 subst hk;have ho:=lM.more hown;obtain⟨a',c',rfl⟩:=AI1 ho;rw[AO]at ho;refine⟨a',c',by rw[AO];rfl,ho,?_⟩;have h1:B0 w (W.alloc O):=hb.alloc hb.size O;exact h1.grown hg h1.size fun q e=>Nat.le_trans hB (AI2 h q e).1
def CU1:Prop:=∀ (s:List UInt8) (w:FV),s.length<=140737488355328->
  FX prog 73 #[S0 s] w (R0 w (.tuple #[J7 (lX s),I0 (sD s),I0 (bQ s)]))
theorem B33{r:List UInt8}(S:Scan s ts r)(k:Nat):s.drop (IB (ts.take k)).length=IB (ts.drop k)++r/\(IB (ts.take k)).length<=s.length:=by
 have e:s=IB (ts.take k)++(IB (ts.drop k)++r):=by rw[<-BR,<-LH,DU];exact S.eq
 generalize IB (ts.take k)=X at*;subst e;simp
theorem nP{t:GK}(h:ts[k]?=G5 t):ts.drop k=t::ts.drop (k+1):=by
 obtain⟨hk,rfl⟩:=List.getElem?_eq_some_iff.1 h;exact List.drop_eq_getElem_cons hk
theorem C47(L:Logs ts){t:GK}(h:ts[k]?=G5 t):gdE t=0/\iM (ts.take k) t=true:=by
 have e:ts=ts.take k++t::ts.drop (k+1):=by rw[<-nP h,DU]
 rw[e]at L;exact L.at
theorem BW3{i:Nat}(h:i=j):Ending.returned (.tuple #[v,I0 i])=.returned (.tuple #[v,I0 j]):=by rw[h]
theorem C48(CD:CU1)(s r:List UInt8)(ts:List GK)(w:FV)(S:Scan s ts r)(hs:s.length<=1048576):
  FX prog 44 #[S0 s] w fun e w'=>∃v,e=.returned (.tuple #[v,I0 ((IB ts).length:Nat)])/\lM w' w.heap.size v ts/\B0 w w':=by
 obtain⟨i0,hi0,hz0,hz1,hz2⟩:=pV;have hzs:(ByteArray.mk s.toArray).size=s.length:=Lib.size_eq ⟨s.toArray⟩;have hts:ts.length*31<=1048576:=by have:=oV ts;have:=S.len;omega
 have HS:=G7 S;have HCD:=G7 CD;clear S CD;go_enter func44,ntmps44;go_wp2_with fail
 go_loopg [4,5] ts.length (fun kx s4 s5 wr=>∃ (k N:Nat) (a:Option Addr) (c:Nat),s4=FT a k c/\s5=I0 N/\k<=ts.length/\ts.length-k<=kx/\Hid ((IB (ts.take k)).length=N)/\Hid (lM wr w.heap.size (FT a k c) (ts.take k)/\B0 w wr))
 case atStart=>exact⟨0,0,FZ,0,rfl,rfl,AY _,by omega,G7 rfl,G7 ⟨lM.nil _ _,AA _ _⟩⟩
 case round=>
  obtain⟨k,N,a,c,rfl,rfl,hk,hkx,HN,hI⟩:=hrel;have h1:=B33 (G6 HS) k;rw[G6 HN]at h1;obtain⟨hd,hNs⟩:=h1;have hx:(ByteArray.mk s.toArray).extract N s.length=⟨(s.drop N).toArray⟩:=B31 s N;have hMl:(ts.take k).length=k:=by simp;omega
  by_cases hlt:k<ts.length
  .obtain⟨t,ht⟩:∃t,ts[k]?=G5 t:=⟨_,AL hlt⟩;have hgf:=C47 (G6 HS).log ht;rw[nP ht,IB,BR]at hd;have C:=fun W=>G6 HCD (s.drop N) W (by rw[List.length_drop];omega);have hdr:=BY9 hgf.1 (IB (ts.drop (k+1))++r);rw[<-hd]at hdr;rw[hdr.1,hdr.2.1,hdr.2.2]at C;have hrl:=iO hgf.1;have hNN:=B33 (G6 HS) (k+1);rw[PO ht,PL,AO,G6 HN]at hNN;have hNL:=hNN.2;have CF:=fun v W (h:NT W v (ts.take k))=>jT t v (ts.take k) W h;rw[hgf.2]at CF;have HT:=G7 (PO ht);have HM:=G7 hMl;clear hd hdr hgf hNN hMl ht;obtain⟨Y,hY⟩:∃Y,s.drop N=Y:=⟨_,rfl⟩;rw[hY]at hx C;obtain⟨L,hL⟩:∃L,(QO t).length=L:=⟨_,rfl⟩;rw[hL]at C hNL hrl;have HL:=G7 hL;obtain⟨M,hM⟩:∃M,ts.take k=M:=⟨_,rfl⟩;rw[hM]at hI HT HM CF HN;have HCF:=G7 CF;clear hY hL hM CF;obtain⟨z,o,s1,p,d,y,u⟩:=t;unfold J7 at C HCF;go_wp2_with fail;refine(C _).mono ?_;rintro e w1 ⟨rfl,hb1⟩;have hal:=(AA w1.heap.size w1).alloc (A8 _) (FU #[I0 z,I0 o,I0 s1,S0 p,S0 d,I0 y,I0 u] 65);have HB1:=G7 (JV (JV (G6 hI).2 hb1) hal);have HO1:=G7 (((G6 hI).1.next hb1).next hal);have T1:=G7 (TAt.new w1 ⟨z,o,s1,p,d,y,u⟩);clear C hb1 hal hI;go_wp2_with fail;generalize w1.alloc (FU #[I0 z,I0 o,I0 s1,S0 p,S0 d,I0 y,I0 u] 65)=W1 at*;refine(G6 HCF _ _ (G6 HO1).log).mono ?_;rintro e w3 ⟨rfl,hb3⟩;have HB3:=G7 (JV (G6 HB1) hb3);have HO3:=G7 ((G6 HO1).next hb3);have T3:=(G6 T1).next hb3;have c0:=T3.c0;have c1:=T3.c1;have c2:=T3.c2;have c3:=T3.c3;have c4:=T3.c4;have c5:=T3.c5;have c6:=T3.c6;clear hb3 HB1 HO1 T1 T3 HCF;have HRW:=G7 (C46 (G6 HO3) (G6 HM));have HC2:=G7 (BM1 w3 ⟨z,o,s1,p,d,y,u⟩);have h4:Hid (k+1<=maxLen):=by unfold Hid;simp only[maxLen];omega
   have h5:Hid ((k+1)*72<=140737488355328):=by unfold Hid;omega
   have h6:Hid (∀O1,w.heap.size<=(w3.alloc O1).heap.size):=fun O1=>by have:=(G6 HB3).size;simp;omega
   go_wp2_with (at_builtin;refine wpList_append_own _ rfl _ _ 52 rfl w.heap.size 65 i0 _ 7 72 underlying52 hi0 hz0 hz1 hz2 rfl (by decide) _ k (KH M) rfl (G6 HRW _ _ rfl) ⟨w3.heap.size,0,FZ⟩ 1 1 (MW ⟨z,o,s1,p,d,y,u⟩) rfl rfl (G6 HC2) (mX _) (G6 h4) (G6 h5) (G6 h6 _) ?_);intro v' w5 hown hgrow _;obtain⟨a5,cc5,rfl,ho5,hb5⟩:=BM2 (G6 HB3) (G6 HO3) (A8 _) (G6 HM) hown hgrow;have HZ:=G7 (And.intro ho5 hb5);clear hown hgrow ho5 hb5 HRW HC2 h4 h5 h6 HB3 HO3 c0 c1 c2 c3 c4 c5 c6;go_wp2_with fail
   go_roundg (ts.length-(k+1))
   case measure=>omega
   case rel=>exact⟨k+1,N+L,a5,cc5,rfl,by simp,by omega,A8 _,G7 (by rw[G6 HT,PL,AO,G6 HN,G6 HL]),G7 (by rw[G6 HT];exact G6 HZ)⟩
  .obtain rfl:k=ts.length:=by omega
   rw[List.drop_length,IB,List.nil_append]at hd;have C:=fun W=>G6 HCD (s.drop N) W (by rw[List.length_drop];omega);rw[hd]at C hx;have hst:=(G6 HS).stop;have HI:=G7 (by have:=G6 hI;rw[DV]at this;exact this:lM wr w.heap.size (FT a ts.length c) ts/\B0 w wr);have HN2:=G7 (by have:=G6 HN;rw[DV]at this;exact this:(IB ts).length=N);clear hd hMl hlt hI;by_cases he:bQ r=0
   .have hf:iM ts (lX r)=false:=by
     rcases hst with h|h
     .exact absurd he h
     .exact h
    have CF:=fun v W (h:NT W v ts)=>jT (lX r) v ts W h;rw[hf]at CF;rw[he]at C;have HCF:=G7 CF;clear hst hf CF;obtain⟨D,hD⟩:∃D,sD r=D:=⟨_,rfl⟩;rw[hD]at C;clear hD he;obtain⟨t,ht⟩:∃t,lX r=t:=⟨_,rfl⟩;rw[ht]at C HCF;clear ht;obtain⟨z,o,s1,p,d,y,u⟩:=t;unfold J7 at C HCF;go_wp2_with fail;refine(C _).mono ?_;rintro e w1 ⟨rfl,hb1⟩;have hal:=(AA w1.heap.size w1).alloc (A8 _) (FU #[I0 z,I0 o,I0 s1,S0 p,S0 d,I0 y,I0 u] 65);have HB1:=G7 (JV (JV (G6 HI).2 hb1) hal);have HO1:=G7 (((G6 HI).1.next hb1).next hal);clear C hb1 hal HI;go_wp2_with fail;generalize w1.alloc (FU #[I0 z,I0 o,I0 s1,S0 p,S0 d,I0 y,I0 u] 65)=W1 at*;refine(G6 HCF _ _ (G6 HO1).log).mono ?_;rintro e w3 ⟨rfl,hb3⟩;have HB3:=G7 (JV (G6 HB1) hb3);have HO3:=G7 ((G6 HO1).next hb3);clear hb3 HB1 HO1 HCF;go_wp2_with fail
    go_ret2
    exact⟨FT a ts.length c,BW3 (G6 HN2).symm,G6 HO3,G6 HB3⟩
   .have hne:(bQ r !=0)=true:=by simpa using he
    clear hst he;obtain⟨D,hD⟩:∃D,sD r=D:=⟨_,rfl⟩;rw[hD]at C;clear hD;obtain⟨E,hE⟩:∃E,bQ r=E:=⟨_,rfl⟩;rw[hE]at C hne;clear hE;obtain⟨t,ht⟩:∃t,lX r=t:=⟨_,rfl⟩;rw[ht]at C;clear ht;obtain⟨z,o,s1,p,d,y,u⟩:=t;unfold J7 at C;go_wp2_with fail;refine(C _).mono ?_;rintro e w1 ⟨rfl,hb1⟩;have hal:=(AA w1.heap.size w1).alloc (A8 _) (FU #[I0 z,I0 o,I0 s1,S0 p,S0 d,I0 y,I0 u] 65);have HB1:=G7 (JV (JV (G6 HI).2 hb1) hal);have HO1:=G7 (((G6 HI).1.next hb1).next hal);clear C hb1 hal HI;go_wp2_with fail
    go_ret2
    exact⟨FT a ts.length c,BW3 (G6 HN2).symm,G6 HO1,G6 HB1⟩
def NU:List UInt8:=[108,111,103]
theorem aQ:JA NU=true:=by decide
def OU(ts:List GK):DF:=⟨NU,IB ts,[]⟩
structure YI(fs:List DF)(ts:List GK)(A B:List DF):Prop where
 good:LP fs
 log:Logs ts
 old:(fs.length<16/\Gap fs A B NU/\ts=[])\/∃f r,There fs A f B NU/\Scan (f.s++f.t) ts r
theorem YI.short(h:YI fs ts A B):(IB ts).length<=1048576:=by
 rcases h.old with⟨_,_,rfl⟩|⟨f,r,T,S⟩
 .simp[IB]
 .have h1:=S.len;have h2:=NI (T.ok h.good);rw[AO]at h1;omega
theorem YI.there(h:YI fs ts A B)(us:List GK):There (A++OU us::B) A (OU us) B NU:=by
 rcases h.old with⟨_,G,_⟩|⟨f,r,T,_⟩
 .exact G.ins rfl
 .exact T.set rfl
theorem YI.after(h:YI fs ts A B){us:List GK}(hu:(IB us).length<=1048576):LP (A++OU us::B):=by
 have hl:(OU us).s.length+(OU us).t.length<=1048576:=by simp[OU];exact hu
 rcases h.old with⟨h16,G,_⟩|⟨f,r,T,_⟩
 .exact qA h.good G aQ h16 rfl hl
 .have g:=h.good;rw[T.eq]at g;exact BH6 g T.nm.symm hl
theorem qO(name:List UInt8):Gap [] [] [] name:=⟨rfl,by simp,by simp⟩
theorem WV:LP []:=⟨by simp,by simp,List.Pairwise.nil⟩
theorem aS{t:List UInt8}(h:s.length+t.length<=1048576):LP [⟨NU,s,t⟩]:=
 qA WV (qO NU) aQ (by simp) (f':=⟨NU,s,t⟩) rfl h
def SQ(z:Int)(ts:List GK):List GK:=ts.takeWhile fun t=>decide (t.z<=z)
theorem jV(z:Int)(ts:List GK):∃b,ts=SQ z ts++b:=⟨ts.dropWhile fun t=>decide (t.z<=z),(List.takeWhile_append_dropWhile ..).symm⟩
theorem AM6(z:Int)(ts:List GK):(IB ts).take (IB (SQ z ts)).length=IB (SQ z ts)/\(IB (SQ z ts)).length<=(IB ts).length:=by
 obtain⟨b,e⟩:=jV z ts;generalize SQ z ts=a at*;subst e;rw[LH];simp
theorem QD(h:IQ W v fs){n:Nat}(hb:KJ W k (FT a n c))(u:FW):IQ (W.setCell ⟨k,0,FZ⟩ u) v fs:=by
 rcases h with h|⟨b,off,cap,rfl,h1,h2,h3,h0,h4⟩
 .exact .inl h
 .have hne:b≠k:=by
   rintro rfl;obtain⟨f,r,rfl⟩:∃f r,fs=f::r:=by
    cases fs with
    |nil=>exact absurd rfl h0
    |cons f r=>exact⟨f,r,rfl⟩
   have e:=h4.c0 (i:=0) (f:=f) rfl;unfold KJ at hb;simp only[World.cell?,hb]at e
   cases off with
   |zero=>simp at e
   |succ m=>simp at e
  refine .inr ⟨b,off,cap,rfl,h1,h2,by simpa [World.setCell]using h3,h0,fun j x hj=>?_⟩;rw[<-h4 j x hj];exact World.cell?_of_block (BF W ⟨k,0,FZ⟩ u b hne)
theorem C52(h:NT W v ts){n:Nat}(hb:KJ W k (FT a n c))(u:FW):NT (W.setCell ⟨k,0,FZ⟩ u) v ts:=by
 rcases h with h|⟨b,off,cap,rfl,h1,h2,h3,h0,h4⟩
 .exact .inl h
 .have hne:b≠k:=by
   rintro rfl;obtain⟨f,r,rfl⟩:∃f r,ts=f::r:=by
    cases ts with
    |nil=>exact absurd rfl h0
    |cons f r=>exact⟨f,r,rfl⟩
   have e:=h4.z (i:=0) (t:=f) rfl;unfold KJ at hb;simp only[World.cell?,hb]at e
   cases off with
   |zero=>simp at e
   |succ m=>simp at e
  refine .inr ⟨b,off,cap,rfl,h1,h2,by simpa [World.setCell]using h3,h0,fun j x hj=>?_⟩;rw[<-h4 j x hj];exact World.cell?_of_block (BF W ⟨k,0,FZ⟩ u b hne)
theorem KJ.other(h:KJ W k v)(hj:k≠j)(u:FW):KJ (W.setCell ⟨j,0,FZ⟩ u) k v:=(BF W ⟨j,0,FZ⟩ u k hj).trans h
theorem KJ.lt(h:KJ W k v):k<W.heap.size:=by unfold KJ at h;exact(Array.getElem?_eq_some_iff.1 h).1
structure C53(w W:FV)(v:FW):Prop where
 below:Below w.heap.size w W
 d:KJ W w.heap.size v
 r:KJ W (w.heap.size+1+1) (FT FZ 0 0)
theorem C53.next{V:FV}(h:C53 w W v)(hb:Below W.heap.size W V):C53 w V v:=⟨JV h.below hb,h.d.next hb,h.r.next hb⟩
theorem C53.start(w:FV)(v:FW)(o:Obj):C53 w (((w.alloc (FU #[v] 51)).alloc o).alloc (FU #[FT FZ 0 0] 51)) v:=by
 have b1:Below (w.alloc (FU #[v] 51)).heap.size (w.alloc (FU #[v] 51)) ((w.alloc (FU #[v] 51)).alloc o):=(AA _ _).alloc (A8 _) _;have b2:Below ((w.alloc (FU #[v] 51)).alloc o).heap.size ((w.alloc (FU #[v] 51)).alloc o) (((w.alloc (FU #[v] 51)).alloc o).alloc (FU #[FT FZ 0 0] 51)):=(AA _ _).alloc (A8 _) _;have b0:Below w.heap.size w (w.alloc (FU #[v] 51)):=(AA _ _).alloc (A8 _) _;refine⟨JV (JV b0 b1) b2,((KJ.new w v).next b1).next b2,?_⟩;have h:=KJ.new ((w.alloc (FU #[v] 51)).alloc o) (FT FZ 0 0);have hz:((w.alloc (FU #[v] 51)).alloc o).heap.size=w.heap.size+1+1:=by simp
 rw[hz]at h;exact h
structure A15(w W:FV)(v:FW):Prop where
 below:Below w.heap.size w W
 d:KJ W w.heap.size v
 r:KJ W (w.heap.size+1) (FT FZ 0 0)
theorem A15.next{V:FV}(h:A15 w W v)(hb:Below W.heap.size W V):A15 w V v:=⟨JV h.below hb,h.d.next hb,h.r.next hb⟩
theorem A15.setd(h:A15 w W v)(u:FW):A15 w (W.setCell ⟨w.heap.size,0,FZ⟩ u) u:=⟨h.below.setCell (A8 _) u,h.d.set u,h.r.other (by omega) u⟩
theorem A15.start(w:FV)(v:FW):A15 w ((w.alloc (FU #[v] 51)).alloc (FU #[FT FZ 0 0] 51)) v:=by
 have b1:Below w.heap.size w (w.alloc (FU #[v] 51)):=(AA _ _).alloc (A8 _) _;have b2:Below (w.alloc (FU #[v] 51)).heap.size (w.alloc (FU #[v] 51)) ((w.alloc (FU #[v] 51)).alloc (FU #[FT FZ 0 0] 51)):=(AA _ _).alloc (A8 _) _;refine⟨JV b1 b2,(KJ.new w v).next b2,?_⟩;have h:=KJ.new (w.alloc (FU #[v] 51)) (FT FZ 0 0);have hz:(w.alloc (FU #[v] 51)).heap.size=w.heap.size+1:=by simp
 rw[hz]at h;exact h
def nR(f:FuncId)(args:FW->Array FW)(fs:List DF)(ts:List GK)(d:List DF)(E:Int):Prop:=∀v W,IQ W v fs->FX prog f (args (.agg #[v])) W fun e w'=>∃a1 k1 c1 a n c,e=.returned (.tuple #[FT a1 k1 c1,.agg #[FT a n c],.int .i64 E])/\Hid (NT w' (FT a1 k1 c1) ts)/\Hid (IQ w' (FT a n c) d)/\Below W.heap.size W w'
def BW4(f:FuncId)(fs:List DF)(s:List UInt8)(E:Int):Prop:=∀v W,IQ W v fs->FX prog f #[.agg #[v],.string ⟨#[108,111,103]⟩] W fun e w'=>e=.returned (.tuple #[.string ⟨s.toArray⟩,.int .i64 E])/\Below W.heap.size W w'
def BW5(f:FuncId)(s:List UInt8)(ts:List GK)(n:Nat):Prop:=∀W,FX prog f #[.string ⟨s.toArray⟩] W fun e w'=>∃v,e=.returned (.tuple #[v,.int .i64 n])/\NT w' v ts/\Below W.heap.size W w'
theorem eU(fs d1:List DF)(E:Int)(CR:BW4 42 fs [] 7)(GW:NC 43 (fun x=>#[x,.string ⟨NU.toArray⟩,.string ⟨(([]:List UInt8)).toArray⟩]) fs d1 E):nR 34 (fun x=>#[x]) fs [] d1 E:=by
 intro v w hv;simp only[show NU.toArray=#[108,111,103]from rfl]at GW;have HV:=G7 hv;obtain⟨a,n,c,rfl⟩:=IW hv;clear hv;go_enter func34,ntmps34;go_wp2_with fail;have X:=G7 (A15.start w (FT a n c));generalize (w.alloc (FU #[FT a n c] 51)).alloc (FU #[FT FZ 0 0] 51)=W0 at*;refine(CR _ _ ((G6 HV).next (G6 X).below)).mono ?_;rintro e w1 ⟨rfl,hb1⟩;have X1:=(G6 X).next hb1;have cd:=X1.d.c;have HX1:=G7 X1;clear hb1 X X1 CR;go_wp2_with fail;refine(GW _ _ ((G6 HV).next (G6 HX1).below)).mono ?_;rintro e w2 ⟨a2,n2,c2,rfl,HD2,hb2⟩;have hal:=(AA w2.heap.size w2).alloc (A8 _) (FU #[FT a2 n2 c2] 51);have X2:=((G6 HX1).next hb2).next hal;have cr:=X2.r.c;have fr:=X2.r.f;have cy:=(KJ.new w2 (FT a2 n2 c2)).c;have hz2:=((G6 HX1).next hb2).r.lt;have hnz:w.heap.size+1≠w2.heap.size:=by omega
 have HF:=G7 (And.intro (X2.below.setCell (p:=⟨w.heap.size+1,0,FZ⟩) (by show w.heap.size<=w.heap.size+1;omega) (FT a2 n2 c2)) (QD ((G6 HD2).next hal) X2.r (FT a2 n2 c2)));clear hb2 hal X2 HX1 HD2 GW cd HV;go_wp2_with fail;generalize w2.alloc (FU #[FT a2 n2 c2] 51)=W2 at*;go_region;go_wp2_with fail;exact bodyPost_ret (v:=.tuple #[FT FZ 0 0,.agg #[FT a2 n2 c2],.int .i64 E]) (by simp[results,results34,go_sem,cr]) rfl ⟨_,_,_,_,_,_,rfl,G7 (NT.nil _),G7 (G6 HF).2.drew,(G6 HF).1.drew⟩
theorem AM8(fs d1:List DF)(s:List UInt8)(ts:List GK)(N:Nat)(CR:BW4 42 fs s 0)(CS:BW5 44 s ts N)(GC:NC 45 (fun x=>#[x,.string ⟨NU.toArray⟩,.int .i64 N]) fs d1 0):nR 34 (fun x=>#[x]) fs ts d1 0:=by
 intro v w hv;simp only[show NU.toArray=#[108,111,103]from rfl]at GC;have HV:=G7 hv;obtain⟨a,n,c,rfl⟩:=IW hv;clear hv;go_enter func34,ntmps34;go_wp2_with fail;have X:=G7 (A15.start w (FT a n c));generalize (w.alloc (FU #[FT a n c] 51)).alloc (FU #[FT FZ 0 0] 51)=W0 at*;refine(CR _ _ ((G6 HV).next (G6 X).below)).mono ?_;rintro e w1 ⟨rfl,hb1⟩;have X1:=(G6 X).next hb1;have HX1:=G7 X1;clear hb1 X X1 CR;go_wp2_with fail;refine(CS _).mono ?_;rintro e w2 ⟨v2,rfl,hl2,hb2⟩;have X2:=(G6 HX1).next hb2;have HL2:=G7 hl2;obtain⟨al,cl,rfl⟩:=MF hl2;have cd2:=X2.d.c;have HX2:=G7 X2;clear hb2 hl2 X2 HX1 CS;go_wp2_with fail;refine(GC _ _ ((G6 HV).next (G6 HX2).below)).mono ?_;rintro e w3 ⟨a3,n3,c3,rfl,HD3,hb3⟩;have hal:=(AA w3.heap.size w3).alloc (A8 _) (FU #[FT a3 n3 c3] 51);have X3:=((G6 HX2).next hb3).next hal;have cr:=X3.r.c;have fr:=X3.r.f;have cy:=(KJ.new w3 (FT a3 n3 c3)).c;have hz2:=((G6 HX2).next hb3).r.lt;have hnz:w.heap.size+1≠w3.heap.size:=by omega
 have HF:=G7 (And.intro (X3.below.setCell (p:=⟨w.heap.size+1,0,FZ⟩) (by show w.heap.size<=w.heap.size+1;omega) (FT a3 n3 c3)) (And.intro (QD ((G6 HD3).next hal) X3.r (FT a3 n3 c3)) (C52 (((G6 HL2).next hb3).next hal) X3.r (FT a3 n3 c3))));clear hb3 hal X3 HX2 HD3 HL2 GC cd2 HV;go_wp2_with fail;generalize w3.alloc (FU #[FT a3 n3 c3] 51)=W3 at*;go_region;go_wp2_with fail;exact bodyPost_ret (v:=.tuple #[FT al ts.length cl,.agg #[FT a3 n3 c3],.int .i64 0]) (by simp[results,results34,go_sem,cr]) rfl ⟨_,_,_,_,_,_,rfl,G7 (G6 HF).2.2.drew,G7 (G6 HF).2.1.drew,(G6 HF).1.drew⟩
theorem BN2{r:List UInt8}(S:Scan s ts r)(hs:s.length<=1048576):BW5 44 s ts (IB ts).length:=fun W=>
 (C48 (fun s w h=>AN5 s w h) s r ts W S hs).mono fun _ _ ⟨v,he,ho,hb⟩=>⟨v,he,ho.log,hb⟩
theorem kE(h:YI fs ts A B):nR 34 (fun x=>#[x]) fs ts (A++OU ts::B) 0:=by
 have hs:=JQ h.good;rcases h.old with⟨h16,G,rfl⟩|⟨f,r,T,S⟩
 .exact eU fs _ 0 (fun v W hv=>zJ v fs NU 7 W hv hs (.inr ⟨h.good,⟨A,B,G⟩,rfl⟩))
   (MR fun v W hv=>aF v fs A B NU [] W hv hs h.good aQ h16 G (by decide))
 .have hf:=NI (T.ok h.good);have hl:=S.len;rw[AO]at hl;refine AM8 fs _ (f.s++f.t) ts (IB ts).length (fun v W hv=>nD v fs A B f NU W hv hs h.good T) (BN2 S (by rw[AO];omega)) (MR fun v W hv=>?_);have:=uO v fs A B f NU (IB ts).length W hv hs h.good T (by omega);rw[S.eq,List.take_left,T.nm]at this;exact this
theorem AB7{z:Int}:∀ {ts:List GK} {k:Nat} {t:GK},ts[k]?=G5 t->(k<(SQ z ts).length->t.z<=z)/\(k=(SQ z ts).length->¬t.z<=z)
 |[],k,t,h=>by simp at h
 |x::l,0,t,h=>by
  simp at h;subst h;unfold SQ;by_cases hx:x.z<=z
  .rw[List.takeWhile_cons_of_pos (by simpa using hx)];simp[hx]
  .rw[List.takeWhile_cons_of_neg (by simpa using hx)];simp;omega
 |x::l,k+1,t,h=>by
  have ih:=AB7 (z:=z) (ts:=l) (k:=k) (t:=t) (by simpa using h);unfold SQ at ih⊢;by_cases hx:x.z<=z
  .rw[List.takeWhile_cons_of_pos (by simpa using hx)];simpa using ih
  .rw[List.takeWhile_cons_of_neg (by simpa using hx)];simp
theorem AB8(z:Int)(ts:List GK):ts.take (SQ z ts).length=SQ z ts/\(SQ z ts).length<=ts.length:=by
 obtain⟨b,e⟩:=jV z ts;generalize SQ z ts=a at*;subst e;simp
theorem wI(ts:List GK)(k:Nat):(IB (ts.take k)).length<=(IB ts).length:=by
 have:IB ts=IB (ts.take k)++IB (ts.drop k):=by rw[<-LH,DU]
 rw[this];simp
theorem CK6{i:Nat}(h:i=j):Ending.returned (I0 (i:Int))=.returned (I0 (j:Int)):=by rw[h]
theorem BN3(v:FW)(ts:List GK)(z:Int)(w:FV)(hv:NT w v ts)(hL:∀t∈ts,gdE t=0)(hs:(IB ts).length<=1048576):
  FX prog 142 #[v,I0 z] w (R0 w (I0 ((IB (SQ z ts)).length:Nat))):=by
 have hlen:=oV ts;have HV:=G7 hv;have HG:=G7 hL;have HK:=G7 (AB8 z ts);have HA:=G7 (fun k t h=>AB7 (z:=z) (ts:=ts) (k:=k) (t:=t) h);have hK:=(AB8 z ts).2;generalize SQ z ts=K at*;obtain⟨a,c,rfl⟩:=MF hv;clear hv hL;go_enter func142,ntmps142;go_wp2_with fail
 go_loopg [5,12] ts.length (fun kx s5 s12 wr=>∃ (k N:Nat),s5=I0 N/\s12=I0 k/\k<=K.length/\ts.length-k<=kx/\Hid ((IB (ts.take k)).length=N)/\Hid (B0 w wr))
 case atStart=>exact⟨0,0,rfl,rfl,AY _,by omega,G7 rfl,G7 (AA _ _)⟩
 case round=>
  obtain⟨k,N,rfl,rfl,hk,hkx,HN,HB⟩:=hrel;by_cases hlt:k<ts.length
  .obtain⟨t,ht⟩:∃t,ts[k]?=G5 t:=⟨_,AL hlt⟩;obtain⟨b,off,cap,he,hb,hr,_,_,_⟩:=YU ((G6 HV).next (G6 HB)) ht;simp only[Value.slice.injEq,true_and]at he;obtain⟨rfl,rfl⟩:=he;have e0:=hr.z ht;have e1:=hr.o ht;have e2:=hr.s ht;have e3:=hr.p ht;have e4:=hr.d ht;have e5:=hr.v ht;have e6:=hr.w ht;have C16:(k:Int)<(ts.length:Int):=by omega
   have hg:=G6 HG t (List.mem_of_getElem? ht);have C:=fun W=>dI t W hg;have hat:=G6 HA k t ht;have HL:=G7 (PO ht);have hN1:=wI ts (k+1);rw[PO ht,PL,AO,G6 HN]at hN1;clear hr ht hb hg;obtain⟨R,hR⟩:∃R,QO t=R:=⟨_,rfl⟩;rw[hR]at C hN1;have HR:=G7 hR;have hzR:(ByteArray.mk R.toArray).size=R.length:=Lib.size_eq ⟨R.toArray⟩;clear hR;have HB2:=fun o=>G7 ((G6 HB).alloc (G6 HB).size o);obtain⟨z1,o1,s1,p1,d1,y1,u1⟩:=t;unfold J7 at C;simp only at e0 e1 e2 e3 e4 e5 e6;by_cases hlK:k<K.length
   .have hz':¬z<z1:=by have hz:z1<=z:=hat.1 hlK;omega
    clear hat;go_wp2_with fail;refine(C _).mono ?_;rintro e w1 ⟨rfl,hb1⟩;have HB3:=G7 (JV (G6 (HB2 _)) hb1);clear C hb1 HB2 e0 e1 e2 e3 e4 e5 e6;go_wp2_with fail
    go_roundg (ts.length-(k+1))
    case measure=>omega
    case rel=>exact⟨k+1,N+R.length,by simp,by simp,by omega,A8 _,G7 (by rw[G6 HL,PL,AO,G6 HN,G6 HR]),HB3⟩
   .have hz':z<z1:=hat.2 (by omega);have hN2:(IB K).length=N:=by rw[<-(G6 HK).1,show K.length=k from by omega];exact G6 HN
    have HN2:=G7 hN2;clear hat hN2 C;go_wp2_with fail;go_ret;exact⟨CK6 (G6 HN2).symm,G6 (HB2 _)⟩
  .have hki:¬ ((k:Int)<(ts.length:Int)):=by omega
   have hN2:(IB K).length=N:=by rw[<-(G6 HK).1,show K.length=k from by omega];exact G6 HN
   have HN2:=G7 hN2;clear hN2;go_wp2_with fail;go_ret;exact⟨CK6 (G6 HN2).symm,G6 HB⟩
theorem B50(fs d1 d2:List DF)(ts:List GK)(z:Int)(N:Nat)(GR:nR 34 (fun x=>#[x]) fs ts d1 0)(CU:∀v W,NT W v ts->FX prog 142 #[v,.int .i64 z] W fun e w'=>e=.returned (.int .i64 N)/\Below W.heap.size W w')
  (GC:NC 45 (fun x=>#[x,.string ⟨NU.toArray⟩,.int .i64 N]) d1 d2 0):NC 101 (fun x=>#[x,.int .i64 z]) fs d2 0:=by
 intro v w hv;simp only[show NU.toArray=#[108,111,103]from rfl]at GC;have HV:=G7 hv;have HGC:=G7 GC;have HCU:=G7 CU;obtain⟨a,n,c,rfl⟩:=IW hv;clear hv GC CU;go_enter func101,ntmps101;go_wp2_with fail;have X:=G7 (A15.start w (FT a n c));generalize (w.alloc (FU #[FT a n c] 51)).alloc (FU #[FT FZ 0 0] 51)=W0 at*;refine(GR _ _ ((G6 HV).next (G6 X).below)).mono ?_;rintro e w1 ⟨a1,k1,c1,a2,n2,c2,rfl,HL1,HD1,hb1⟩;have X1:=(G6 X).next hb1;have hal:=(AA w1.heap.size w1).alloc (A8 _) (FU #[FT a2 n2 c2] 51);have HX2:=G7 (X1.next hal);have HY2:=G7 (KJ.new w1 (FT a2 n2 c2));have HL2:=G7 ((G6 HL1).next hal);have HD2:=G7 ((G6 HD1).next hal);clear hb1 X X1 hal GR HV HL1 HD1;go_wp2_with fail;generalize w1.alloc (FU #[FT a2 n2 c2] 51)=W1 at*;have cy:=(G6 HY2).c
 go_region_with (first
  |(go_at_call 142;refine(G6 HCU _ _ (G6 HL2).drew).mono ?_;rintro e w2 ⟨rfl,hb⟩;have hb':=U4 hb;have HX3:=G7 ((G6 HX2).next hb');have HD3:=G7 ((G6 HD2).next hb');have cy3:=((G6 HY2).next hb').c;clear hb hb')
  |(go_at_call 45;refine(G6 HGC _ _ (G6 HD3)).mono ?_;rintro e w3 ⟨a3,n3,c3,rfl,HD4,hb⟩;have X4:=(G6 HX3).next hb;have cr4:=X4.r.c;have fr4:=X4.r.f;have HF:=G7 (And.intro (X4.below.setCell (p:=⟨w.heap.size+1,0,FZ⟩) (by show w.heap.size<=w.heap.size+1;omega) (FT a3 n3 c3)) (QD (G6 HD4) X4.r (FT a3 n3 c3)));clear hb X4 HX3 HD3 HD4))
 all_goals go_wp2_with fail
 all_goals exact bodyPost_ret (v:=.tuple #[.agg #[FT a3 n3 c3],.int .i64 0]) (by simp[results,results101,go_sem,cr4]) rfl ⟨_,_,_,rfl,G7 (G6 HF).2,(G6 HF).1⟩
theorem BN6(h:YI fs ts A B)(z:Int):NC 101 (fun x=>#[x,.int .i64 z]) fs (A++OU (SQ z ts)::B) 0:=by
 refine B50 fs _ _ ts z (IB (SQ z ts)).length (kE h) (fun v W hv=>BN3 v ts z W hv h.log.good h.short) (MR fun v W hv=>?_);have g:=h.after h.short;have hk:=AM6 z ts;have:=uO v _ A B (OU ts) NU (IB (SQ z ts)).length W hv (JQ g) g (h.there ts) (by simp only[OU,List.length_nil,Nat.add_zero];exact hk.2);simp only[OU,List.append_nil,hk.1]at this⊢;exact this
