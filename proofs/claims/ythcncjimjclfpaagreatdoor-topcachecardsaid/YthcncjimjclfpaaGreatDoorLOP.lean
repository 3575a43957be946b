/-
  Part.
-/
import Derived.Test.YthcncjimjclfpaaGreatDoorLOI
import Derived.Test.YthcncjimjclfpaaGreatDoorLOH
set_option maxRecDepth 20000
set_option maxHeartbeats 8000000
namespace Go.Proofs.YthcncjimjclfpaaGreatDoor
open Go.RowKit Go.Proofs.Tryz
open _root_.Nat renaming le_refl->A8,zero_le->AY
open Go.RowKit.Below renaming refl->AA,heap_setCell->BF
open _root_.List renaming getElem?_eq_getElem->AL,length_append->AO,append_assoc->BQ,take_append_drop->DN,take_length->DU
open Go.Value renaming slice->FQ
open Go.Obj renaming cells->FT
open Go renaming World->FU,Value->FV,Calls->FW
open _root_.Option renaming none->FX,some->FZ
variable{a:Option Addr}{c k j:Nat}{W w:FU}{B fs A:List DF}{ts:List GI}{s:List UInt8}{v:FV}
theorem JX{a b c:FU}(h:B0 a b)(k:B0 b c):B0 a c:=h.trans (k.mono h.size)
theorem RV(v:FV)(ts:List GI)(w:FU)(hv:NV w v ts):
  FW prog 74 #[v] w fun e w'=>e=.returned (I0 (J3 ts))/\w'=w:=by
 by_cases h0:ts.length=0
 .obtain⟨a,c,rfl⟩:=MF hv;obtain rfl:=List.length_eq_zero_iff.1 h0;clear hv h0;rw[WG];go_enter func74,ntmps74;go_wp2_with fail;go_ret;exact⟨rfl,rfl⟩
 .obtain⟨m,x,rfl⟩:=AU3 h0;have hi:(m++[x])[m.length]?=FZ x:=by simp
  obtain⟨b,off,cap,rfl,hb,hr,hlt,hc,hm⟩:=Z9 hv hi;have e:=hr.z hi;have hl:(m++[x]).length=m.length+1:=by simp
  rw[U4,hl];simp only[maxLen]at hm;rw[hl]at hc;have hM:m.length<9223372036854775807:=by omega
  clear hv h0 hr hi hl hlt hc hm;generalize m.length=k at*;go_enter func74,ntmps74;go_wp2_with fail;go_ret;exact⟨rfl,rfl⟩
theorem kM(t:GI)(v:FV)(ts:List GI)(w:FU)(hv:NV w v ts):
  FW prog 85 #[J7 t,v] w (R0 w (.bool (jA ts t))):=by
 have C:=fun W (h:B0 w W)=>RV v ts W (hv.next h);obtain⟨a,c,rfl⟩:=MF hv;obtain⟨z,o,s,p,d,y,u⟩:=t;unfold J7;by_cases h0:ts.length=0
 .have hf:jA ts ⟨z,o,s,p,d,y,u⟩=true:=by simp[jA,h0]
  rw[hf,h0];clear C hv hf;go_enter func85,ntmps85;go_wp2_with fail;go_region;go_wp2_with fail;go_ret;exact⟨rfl,((AA _ _).alloc (A8 _) _).drew⟩
 .have hf:jA ts ⟨z,o,s,p,d,y,u⟩=decide (J3 ts<z):=by rw[nJ h0]
  rw[hf];generalize J3 ts=L at*;have h0i:((ts.length:Int)==0)=false:=by simpa using h0
  clear hv hf;go_enter func85,ntmps85;go_wp2_with fail
  go_region_with (first|(go_at_call 74;refine(C _ ?_).mono ?_;exact(((AA _ _).alloc (A8 _) _).drew);rintro e w1 ⟨rfl,rfl⟩))
  all_goals go_wp2_with fail
  all_goals go_ret
  all_goals exact⟨rfl,((AA _ _).alloc (A8 _) _).drew⟩
theorem C64{B:Nat}(h:mV W B (FQ a k c) ts)(hk:ts.length=k)(O:Obj)(V:FU)(e:V=W.alloc O):V.ownsRow B 93 7 (FQ a k c) k (KG ts):=by
 subst e;have:=h.next ((AA _ _).alloc (A8 _) O);unfold mV at this;rwa[hk]at this
theorem BO1(W:FU)(t:GI)(j:Nat)(u:FV)(h:(MW t)[j]?=FZ u):(W.alloc (FT #[I0 t.z,I0 t.o,I0 t.s,S0 t.p,S0 t.d,I0 t.v,I0 t.w] 93)).cell? ((⟨W.heap.size,0,FX⟩:Addr).add j)=FZ u:=by
 rw[Addr.add_lit];show World.cell? _ ⟨W.heap.size,0+j,FX⟩=_;rw[Nat.zero_add];have e:=heap_alloc_new W (FT #[I0 t.z,I0 t.o,I0 t.s,S0 t.p,S0 t.d,I0 t.v,I0 t.w] 93);simp only[World.cell?,e];have:(#[I0 t.z,I0 t.o,I0 t.s,S0 t.p,S0 t.d,I0 t.v,I0 t.w]:Array FV)[j]?=(MW t)[j]? :=by simp[MW]
 rw[this,h];rfl
theorem BO2{w W V:FU}{B k c:Nat}{a:Option Addr}{ts:List GI}{t:GI}{O:Obj}{v':FV}(hb:B0 w W)(h:mV W B (FQ a k c) ts)(hB:w.heap.size<=B)(hk:ts.length=k)
  (hown:V.ownsRow B 93 7 v' (k+1) (KG ts++MW t)) (hg:(W.alloc O).grownBy V (Value.slice a k c).ownBlock):
  ∃a' c',v'=FQ a' (k+1) c'/\mV V B (FQ a' (k+1) c') (ts++[t])/\B0 w V:=by
 subst hk;have ho:=mV.more hown;obtain⟨a',c',rfl⟩:=AJ7 ho;rw[AO]at ho;refine⟨a',c',by rw[AO];rfl,ho,?_⟩;have h1:B0 w (W.alloc O):=hb.alloc hb.size O;exact h1.grown hg h1.size fun q e=>Nat.le_trans hB (AJ8 h q e).1
def CW6:Prop:=∀ (s:List UInt8) (w:FU),s.length<=140737488355328->
  FW prog 84 #[S0 s] w (R0 w (.tuple #[J7 (nI s),I0 (tX s),I0 (dK s)]))
theorem B50{r:List UInt8}(S:Scan s ts r)(k:Nat):s.drop (I9 (ts.take k)).length=I9 (ts.drop k)++r/\(I9 (ts.take k)).length<=s.length:=by
 have e:s=I9 (ts.take k)++(I9 (ts.drop k)++r):=by rw[<-BQ,<-LM,DN];exact S.eq
 generalize I9 (ts.take k)=X at*;subst e;simp
theorem oM{t:GI}(h:ts[k]?=FZ t):ts.drop k=t::ts.drop (k+1):=by
 obtain⟨hk,rfl⟩:=List.getElem?_eq_some_iff.1 h;exact List.drop_eq_getElem_cons hk
theorem C66(L:Logs ts){t:GI}(h:ts[k]?=FZ t):gdE t=0/\jA (ts.take k) t=true:=by
 have e:ts=ts.take k++t::ts.drop (k+1):=by rw[<-oM h,DN]
 rw[e]at L;exact L.at
theorem BY4{i:Nat}(h:i=j):Ending.returned (.tuple #[v,I0 i])=.returned (.tuple #[v,I0 j]):=by rw[h]
theorem C67(CD:CW6)(s r:List UInt8)(ts:List GI)(w:FU)(S:Scan s ts r)(hs:s.length<=1048576):
  FW prog 56 #[S0 s] w fun e w'=>∃v,e=.returned (.tuple #[v,I0 ((I9 ts).length:Nat)])/\mV w' w.heap.size v ts/\B0 w w':=by
 obtain⟨i0,hi0,hz0,hz1,hz2⟩:=qO;have hzs:(ByteArray.mk s.toArray).size=s.length:=Lib.size_eq ⟨s.toArray⟩;have hts:ts.length*31<=1048576:=by have:=qG ts;have:=S.len;omega
 have HS:=G6 S;have HCD:=G6 CD;clear S CD;go_enter func56,ntmps56;go_wp2_with fail
 go_loopg [4,5] ts.length (fun kx s4 s5 wr=>∃ (k N:Nat) (a:Option Addr) (c:Nat),s4=FQ a k c/\s5=I0 N/\k<=ts.length/\ts.length-k<=kx/\Hid ((I9 (ts.take k)).length=N)/\Hid (mV wr w.heap.size (FQ a k c) (ts.take k)/\B0 w wr))
 case atStart=>exact⟨0,0,FX,0,rfl,rfl,AY _,by omega,G6 rfl,G6 ⟨mV.nil _ _,AA _ _⟩⟩
 case round=>
  obtain⟨k,N,a,c,rfl,rfl,hk,hkx,HN,hI⟩:=hrel;have h1:=B50 (G5 HS) k;rw[G5 HN]at h1;obtain⟨hd,hNs⟩:=h1;have hx:(ByteArray.mk s.toArray).extract N s.length=⟨(s.drop N).toArray⟩:=B48 s N;have hMl:(ts.take k).length=k:=by simp;omega
  by_cases hlt:k<ts.length
  .obtain⟨t,ht⟩:∃t,ts[k]?=FZ t:=⟨_,AL hlt⟩;have hgf:=C66 (G5 HS).log ht;rw[oM ht,I9,BQ]at hd;have C:=fun W=>G5 HCD (s.drop N) W (by rw[List.length_drop];omega);have hdr:=C15 hgf.1 (I9 (ts.drop (k+1))++r);rw[<-hd]at hdr;rw[hdr.1,hdr.2.1,hdr.2.2]at C;have hrl:=jB hgf.1;have hNN:=B50 (G5 HS) (k+1);rw[PO ht,PL,AO,G5 HN]at hNN;have hNL:=hNN.2;have CF:=fun v W (h:NV W v (ts.take k))=>kM t v (ts.take k) W h;rw[hgf.2]at CF;have HT:=G6 (PO ht);have HM:=G6 hMl;clear hd hdr hgf hNN hMl ht;obtain⟨Y,hY⟩:∃Y,s.drop N=Y:=⟨_,rfl⟩;rw[hY]at hx C;obtain⟨L,hL⟩:∃L,(QV t).length=L:=⟨_,rfl⟩;rw[hL]at C hNL hrl;have HL:=G6 hL;obtain⟨M,hM⟩:∃M,ts.take k=M:=⟨_,rfl⟩;rw[hM]at hI HT HM CF HN;have HCF:=G6 CF;clear hY hL hM CF;obtain⟨z,o,s1,p,d,y,u⟩:=t;unfold J7 at C HCF;go_wp2_with fail;refine(C _).mono ?_;rintro e w1 ⟨rfl,hb1⟩;have hal:=(AA w1.heap.size w1).alloc (A8 _) (FT #[I0 z,I0 o,I0 s1,S0 p,S0 d,I0 y,I0 u] 93);have HB1:=G6 (JX (JX (G5 hI).2 hb1) hal);have HO1:=G6 (((G5 hI).1.next hb1).next hal);have T1:=G6 (TAt.new w1 ⟨z,o,s1,p,d,y,u⟩);clear C hb1 hal hI;go_wp2_with fail;generalize w1.alloc (FT #[I0 z,I0 o,I0 s1,S0 p,S0 d,I0 y,I0 u] 93)=W1 at*;refine(G5 HCF _ _ (G5 HO1).log).mono ?_;rintro e w3 ⟨rfl,hb3⟩;have HB3:=G6 (JX (G5 HB1) hb3);have HO3:=G6 ((G5 HO1).next hb3);have T3:=(G5 T1).next hb3;have c0:=T3.c0;have c1:=T3.c1;have c2:=T3.c2;have c3:=T3.c3;have c4:=T3.c4;have c5:=T3.c5;have c6:=T3.c6;clear hb3 HB1 HO1 T1 T3 HCF;have HRW:=G6 (C64 (G5 HO3) (G5 HM));have HC2:=G6 (BO1 w3 ⟨z,o,s1,p,d,y,u⟩);have h4:Hid (k+1<=maxLen):=by unfold Hid;simp only[maxLen];omega
   have h5:Hid ((k+1)*72<=140737488355328):=by unfold Hid;omega
   have h6:Hid (∀O1,w.heap.size<=(w3.alloc O1).heap.size):=fun O1=>by have:=(G5 HB3).size;simp;omega
   go_wp2_with (at_builtin;refine wpList_append_own _ rfl _ _ 55 rfl w.heap.size 93 i0 _ 7 72 underlying55 hi0 hz0 hz1 hz2 rfl (by decide) _ k (KG M) rfl (G5 HRW _ _ rfl) ⟨w3.heap.size,0,FX⟩ 1 1 (MW ⟨z,o,s1,p,d,y,u⟩) rfl rfl (G5 HC2) (o7 _) (G5 h4) (G5 h5) (G5 h6 _) ?_);intro v' w5 hown hgrow _;obtain⟨a5,cc5,rfl,ho5,hb5⟩:=BO2 (G5 HB3) (G5 HO3) (A8 _) (G5 HM) hown hgrow;have HZ:=G6 (And.intro ho5 hb5);clear hown hgrow ho5 hb5 HRW HC2 h4 h5 h6 HB3 HO3 c0 c1 c2 c3 c4 c5 c6;go_wp2_with fail
   go_roundg (ts.length-(k+1))
   case measure=>omega
   case rel=>exact⟨k+1,N+L,a5,cc5,rfl,by simp,by omega,A8 _,G6 (by rw[G5 HT,PL,AO,G5 HN,G5 HL]),G6 (by rw[G5 HT];exact G5 HZ)⟩
  .obtain rfl:k=ts.length:=by omega
   rw[List.drop_length,I9,List.nil_append]at hd;have C:=fun W=>G5 HCD (s.drop N) W (by rw[List.length_drop];omega);rw[hd]at C hx;have hst:=(G5 HS).stop;have HI:=G6 (by have:=G5 hI;rw[DU]at this;exact this:mV wr w.heap.size (FQ a ts.length c) ts/\B0 w wr);have HN2:=G6 (by have:=G5 HN;rw[DU]at this;exact this:(I9 ts).length=N);clear hd hMl hlt hI;by_cases he:dK r=0
   .have hf:jA ts (nI r)=false:=by
     rcases hst with h|h
     .exact absurd he h
     .exact h
    have CF:=fun v W (h:NV W v ts)=>kM (nI r) v ts W h;rw[hf]at CF;rw[he]at C;have HCF:=G6 CF;clear hst hf CF;obtain⟨D,hD⟩:∃D,tX r=D:=⟨_,rfl⟩;rw[hD]at C;clear hD he;obtain⟨t,ht⟩:∃t,nI r=t:=⟨_,rfl⟩;rw[ht]at C HCF;clear ht;obtain⟨z,o,s1,p,d,y,u⟩:=t;unfold J7 at C HCF;go_wp2_with fail;refine(C _).mono ?_;rintro e w1 ⟨rfl,hb1⟩;have hal:=(AA w1.heap.size w1).alloc (A8 _) (FT #[I0 z,I0 o,I0 s1,S0 p,S0 d,I0 y,I0 u] 93);have HB1:=G6 (JX (JX (G5 HI).2 hb1) hal);have HO1:=G6 (((G5 HI).1.next hb1).next hal);clear C hb1 hal HI;go_wp2_with fail;generalize w1.alloc (FT #[I0 z,I0 o,I0 s1,S0 p,S0 d,I0 y,I0 u] 93)=W1 at*;refine(G5 HCF _ _ (G5 HO1).log).mono ?_;rintro e w3 ⟨rfl,hb3⟩;have HB3:=G6 (JX (G5 HB1) hb3);have HO3:=G6 ((G5 HO1).next hb3);clear hb3 HB1 HO1 HCF;go_wp2_with fail
    go_ret2
    exact⟨FQ a ts.length c,BY4 (G5 HN2).symm,G5 HO3,G5 HB3⟩
   .have hne:(dK r !=0)=true:=by simpa using he
    clear hst he;obtain⟨D,hD⟩:∃D,tX r=D:=⟨_,rfl⟩;rw[hD]at C;clear hD;obtain⟨E,hE⟩:∃E,dK r=E:=⟨_,rfl⟩;rw[hE]at C hne;clear hE;obtain⟨t,ht⟩:∃t,nI r=t:=⟨_,rfl⟩;rw[ht]at C;clear ht;obtain⟨z,o,s1,p,d,y,u⟩:=t;unfold J7 at C;go_wp2_with fail;refine(C _).mono ?_;rintro e w1 ⟨rfl,hb1⟩;have hal:=(AA w1.heap.size w1).alloc (A8 _) (FT #[I0 z,I0 o,I0 s1,S0 p,S0 d,I0 y,I0 u] 93);have HB1:=G6 (JX (JX (G5 HI).2 hb1) hal);have HO1:=G6 (((G5 HI).1.next hb1).next hal);clear C hb1 hal HI;go_wp2_with fail
    go_ret2
    exact⟨FQ a ts.length c,BY4 (G5 HN2).symm,G5 HO1,G5 HB1⟩
def NW:List UInt8:=[108,111,103]
theorem bC:J9 NW=true:=by decide
def OW(ts:List GI):DF:=⟨NW,I9 ts,[]⟩
structure YT(fs:List DF)(ts:List GI)(A B:List DF):Prop where
 good:LV fs
 log:Logs ts
 old:(fs.length<16/\Gap fs A B NW/\ts=[])\/∃f r,There fs A f B NW/\Scan (f.s++f.t) ts r
theorem YT.short(h:YT fs ts A B):(I9 ts).length<=1048576:=by
 rcases h.old with⟨_,_,rfl⟩|⟨f,r,T,S⟩
 .simp[I9]
 .have h1:=S.len;have h2:=NM (T.ok h.good);rw[AO]at h1;omega
theorem YT.there(h:YT fs ts A B)(us:List GI):There (A++OW us::B) A (OW us) B NW:=by
 rcases h.old with⟨_,G,_⟩|⟨f,r,T,_⟩
 .exact G.ins rfl
 .exact T.set rfl
theorem YT.after(h:YT fs ts A B){us:List GI}(hu:(I9 us).length<=1048576):LV (A++OW us::B):=by
 have hl:(OW us).s.length+(OW us).t.length<=1048576:=by simp[OW];exact hu
 rcases h.old with⟨h16,G,_⟩|⟨f,r,T,_⟩
 .exact qU h.good G bC h16 rfl hl
 .have g:=h.good;rw[T.eq]at g;exact BJ6 g T.nm.symm hl
theorem rO(name:List UInt8):Gap [] [] [] name:=⟨rfl,by simp,by simp⟩
theorem XD:LV []:=⟨by simp,by simp,List.Pairwise.nil⟩
theorem bD{t:List UInt8}(h:s.length+t.length<=1048576):LV [⟨NW,s,t⟩]:=
 qU XD (rO NW) bC (by simp) (f':=⟨NW,s,t⟩) rfl h
def TB(z:Int)(ts:List GI):List GI:=ts.takeWhile fun t=>decide (t.z<=z)
theorem kP(z:Int)(ts:List GI):∃b,ts=TB z ts++b:=⟨ts.dropWhile fun t=>decide (t.z<=z),(List.takeWhile_append_dropWhile ..).symm⟩
theorem AO2(z:Int)(ts:List GI):(I9 ts).take (I9 (TB z ts)).length=I9 (TB z ts)/\(I9 (TB z ts)).length<=(I9 ts).length:=by
 obtain⟨b,e⟩:=kP z ts;generalize TB z ts=a at*;subst e;rw[LM];simp
theorem QC(h:IU W v fs){n:Nat}(hb:KH W k (FQ a n c))(u:FV):IU (W.setCell ⟨k,0,FX⟩ u) v fs:=by
 rcases h with h|⟨b,off,cap,rfl,h1,h2,h3,h0,h4⟩
 .exact .inl h
 .have hne:b≠k:=by
   rintro rfl;obtain⟨f,r,rfl⟩:∃f r,fs=f::r:=by
    cases fs with
    |nil=>exact absurd rfl h0
    |cons f r=>exact⟨f,r,rfl⟩
   have e:=h4.c0 (i:=0) (f:=f) rfl;unfold KH at hb;simp only[World.cell?,hb]at e
   cases off with
   |zero=>simp at e
   |succ m=>simp at e
  refine .inr ⟨b,off,cap,rfl,h1,h2,by simpa [World.setCell]using h3,h0,fun j x hj=>?_⟩;rw[<-h4 j x hj];exact World.cell?_of_block (BF W ⟨k,0,FX⟩ u b hne)
theorem C71(h:NV W v ts){n:Nat}(hb:KH W k (FQ a n c))(u:FV):NV (W.setCell ⟨k,0,FX⟩ u) v ts:=by
 rcases h with h|⟨b,off,cap,rfl,h1,h2,h3,h0,h4⟩
 .exact .inl h
 .have hne:b≠k:=by
   rintro rfl;obtain⟨f,r,rfl⟩:∃f r,ts=f::r:=by
    cases ts with
    |nil=>exact absurd rfl h0
    |cons f r=>exact⟨f,r,rfl⟩
   have e:=h4.z (i:=0) (t:=f) rfl;unfold KH at hb;simp only[World.cell?,hb]at e
   cases off with
   |zero=>simp at e
   |succ m=>simp at e
  refine .inr ⟨b,off,cap,rfl,h1,h2,by simpa [World.setCell]using h3,h0,fun j x hj=>?_⟩;rw[<-h4 j x hj];exact World.cell?_of_block (BF W ⟨k,0,FX⟩ u b hne)
theorem KH.other(h:KH W k v)(hj:k≠j)(u:FV):KH (W.setCell ⟨j,0,FX⟩ u) k v:=(BF W ⟨j,0,FX⟩ u k hj).trans h
theorem KH.lt(h:KH W k v):k<W.heap.size:=by unfold KH at h;exact(Array.getElem?_eq_some_iff.1 h).1
structure C72(w W:FU)(v:FV):Prop where
 below:Below w.heap.size w W
 d:KH W w.heap.size v
 r:KH W (w.heap.size+1+1) (FQ FX 0 0)
theorem C72.next{V:FU}(h:C72 w W v)(hb:Below W.heap.size W V):C72 w V v:=⟨JX h.below hb,h.d.next hb,h.r.next hb⟩
theorem C72.start(w:FU)(v:FV)(o:Obj):C72 w (((w.alloc (FT #[v] 54)).alloc o).alloc (FT #[FQ FX 0 0] 54)) v:=by
 have b1:Below (w.alloc (FT #[v] 54)).heap.size (w.alloc (FT #[v] 54)) ((w.alloc (FT #[v] 54)).alloc o):=(AA _ _).alloc (A8 _) _;have b2:Below ((w.alloc (FT #[v] 54)).alloc o).heap.size ((w.alloc (FT #[v] 54)).alloc o) (((w.alloc (FT #[v] 54)).alloc o).alloc (FT #[FQ FX 0 0] 54)):=(AA _ _).alloc (A8 _) _;have b0:Below w.heap.size w (w.alloc (FT #[v] 54)):=(AA _ _).alloc (A8 _) _;refine⟨JX (JX b0 b1) b2,((KH.new w v).next b1).next b2,?_⟩;have h:=KH.new ((w.alloc (FT #[v] 54)).alloc o) (FQ FX 0 0);have hz:((w.alloc (FT #[v] 54)).alloc o).heap.size=w.heap.size+1+1:=by simp
 rw[hz]at h;exact h
structure A30(w W:FU)(v:FV):Prop where
 below:Below w.heap.size w W
 d:KH W w.heap.size v
 r:KH W (w.heap.size+1) (FQ FX 0 0)
theorem A30.next{V:FU}(h:A30 w W v)(hb:Below W.heap.size W V):A30 w V v:=⟨JX h.below hb,h.d.next hb,h.r.next hb⟩
theorem A30.setd(h:A30 w W v)(u:FV):A30 w (W.setCell ⟨w.heap.size,0,FX⟩ u) u:=⟨h.below.setCell (A8 _) u,h.d.set u,h.r.other (by omega) u⟩
theorem A30.start(w:FU)(v:FV):A30 w ((w.alloc (FT #[v] 54)).alloc (FT #[FQ FX 0 0] 54)) v:=by
 have b1:Below w.heap.size w (w.alloc (FT #[v] 54)):=(AA _ _).alloc (A8 _) _;have b2:Below (w.alloc (FT #[v] 54)).heap.size (w.alloc (FT #[v] 54)) ((w.alloc (FT #[v] 54)).alloc (FT #[FQ FX 0 0] 54)):=(AA _ _).alloc (A8 _) _;refine⟨JX b1 b2,(KH.new w v).next b2,?_⟩;have h:=KH.new (w.alloc (FT #[v] 54)) (FQ FX 0 0);have hz:(w.alloc (FT #[v] 54)).heap.size=w.heap.size+1:=by simp
 rw[hz]at h;exact h
def oN(f:FuncId)(args:FV->Array FV)(fs:List DF)(ts:List GI)(d:List DF)(E:Int):Prop:=∀v W,IU W v fs->FW prog f (args (.agg #[v])) W fun e w'=>∃a1 k1 c1 a n c,e=.returned (.tuple #[FQ a1 k1 c1,.agg #[FQ a n c],.int .i64 E])/\Hid (NV w' (FQ a1 k1 c1) ts)/\Hid (IU w' (FQ a n c) d)/\Below W.heap.size W w'
def BY5(f:FuncId)(fs:List DF)(s:List UInt8)(E:Int):Prop:=∀v W,IU W v fs->FW prog f #[.agg #[v],.string ⟨#[108,111,103]⟩] W fun e w'=>e=.returned (.tuple #[.string ⟨s.toArray⟩,.int .i64 E])/\Below W.heap.size W w'
def BY6(f:FuncId)(s:List UInt8)(ts:List GI)(n:Nat):Prop:=∀W,FW prog f #[.string ⟨s.toArray⟩] W fun e w'=>∃v,e=.returned (.tuple #[v,.int .i64 n])/\NV w' v ts/\Below W.heap.size W w'
theorem fU(fs d1:List DF)(E:Int)(CR:BY5 54 fs [] 7)(GW:NC 55 (fun x=>#[x,.string ⟨NW.toArray⟩,.string ⟨(([]:List UInt8)).toArray⟩]) fs d1 E):oN 44 (fun x=>#[x]) fs [] d1 E:=by
 intro v w hv;simp only[show NW.toArray=#[108,111,103]from rfl]at GW;have HV:=G6 hv;obtain⟨a,n,c,rfl⟩:=IW hv;clear hv;go_enter func44,ntmps44;go_wp2_with fail;have X:=G6 (A30.start w (FQ a n c));generalize (w.alloc (FT #[FQ a n c] 54)).alloc (FT #[FQ FX 0 0] 54)=W0 at*;refine(CR _ _ ((G5 HV).next (G5 X).below)).mono ?_;rintro e w1 ⟨rfl,hb1⟩;have X1:=(G5 X).next hb1;have cd:=X1.d.c;have HX1:=G6 X1;clear hb1 X X1 CR;go_wp2_with fail;refine(GW _ _ ((G5 HV).next (G5 HX1).below)).mono ?_;rintro e w2 ⟨a2,n2,c2,rfl,HD2,hb2⟩;have hal:=(AA w2.heap.size w2).alloc (A8 _) (FT #[FQ a2 n2 c2] 54);have X2:=((G5 HX1).next hb2).next hal;have cr:=X2.r.c;have fr:=X2.r.f;have cy:=(KH.new w2 (FQ a2 n2 c2)).c;have hz2:=((G5 HX1).next hb2).r.lt;have hnz:w.heap.size+1≠w2.heap.size:=by omega
 have HF:=G6 (And.intro (X2.below.setCell (p:=⟨w.heap.size+1,0,FX⟩) (by show w.heap.size<=w.heap.size+1;omega) (FQ a2 n2 c2)) (QC ((G5 HD2).next hal) X2.r (FQ a2 n2 c2)));clear hb2 hal X2 HX1 HD2 GW cd HV;go_wp2_with fail;generalize w2.alloc (FT #[FQ a2 n2 c2] 54)=W2 at*;go_region;go_wp2_with fail;exact bodyPost_ret (v:=.tuple #[FQ FX 0 0,.agg #[FQ a2 n2 c2],.int .i64 E]) (by simp[results,results44,go_sem,cr]) rfl ⟨_,_,_,_,_,_,rfl,G6 (NV.nil _),G6 (G5 HF).2.drew,(G5 HF).1.drew⟩
theorem AO4(fs d1:List DF)(s:List UInt8)(ts:List GI)(N:Nat)(CR:BY5 54 fs s 0)(CS:BY6 56 s ts N)(GC:NC 57 (fun x=>#[x,.string ⟨NW.toArray⟩,.int .i64 N]) fs d1 0):oN 44 (fun x=>#[x]) fs ts d1 0:=by
 intro v w hv;simp only[show NW.toArray=#[108,111,103]from rfl]at GC;have HV:=G6 hv;obtain⟨a,n,c,rfl⟩:=IW hv;clear hv;go_enter func44,ntmps44;go_wp2_with fail;have X:=G6 (A30.start w (FQ a n c));generalize (w.alloc (FT #[FQ a n c] 54)).alloc (FT #[FQ FX 0 0] 54)=W0 at*;refine(CR _ _ ((G5 HV).next (G5 X).below)).mono ?_;rintro e w1 ⟨rfl,hb1⟩;have X1:=(G5 X).next hb1;have HX1:=G6 X1;clear hb1 X X1 CR;go_wp2_with fail;refine(CS _).mono ?_;rintro e w2 ⟨v2,rfl,hl2,hb2⟩;have X2:=(G5 HX1).next hb2;have HL2:=G6 hl2;obtain⟨al,cl,rfl⟩:=MF hl2;have cd2:=X2.d.c;have HX2:=G6 X2;clear hb2 hl2 X2 HX1 CS;go_wp2_with fail;refine(GC _ _ ((G5 HV).next (G5 HX2).below)).mono ?_;rintro e w3 ⟨a3,n3,c3,rfl,HD3,hb3⟩;have hal:=(AA w3.heap.size w3).alloc (A8 _) (FT #[FQ a3 n3 c3] 54);have X3:=((G5 HX2).next hb3).next hal;have cr:=X3.r.c;have fr:=X3.r.f;have cy:=(KH.new w3 (FQ a3 n3 c3)).c;have hz2:=((G5 HX2).next hb3).r.lt;have hnz:w.heap.size+1≠w3.heap.size:=by omega
 have HF:=G6 (And.intro (X3.below.setCell (p:=⟨w.heap.size+1,0,FX⟩) (by show w.heap.size<=w.heap.size+1;omega) (FQ a3 n3 c3)) (And.intro (QC ((G5 HD3).next hal) X3.r (FQ a3 n3 c3)) (C71 (((G5 HL2).next hb3).next hal) X3.r (FQ a3 n3 c3))));clear hb3 hal X3 HX2 HD3 HL2 GC cd2 HV;go_wp2_with fail;generalize w3.alloc (FT #[FQ a3 n3 c3] 54)=W3 at*;go_region;go_wp2_with fail;exact bodyPost_ret (v:=.tuple #[FQ al ts.length cl,.agg #[FQ a3 n3 c3],.int .i64 0]) (by simp[results,results44,go_sem,cr]) rfl ⟨_,_,_,_,_,_,rfl,G6 (G5 HF).2.2.drew,G6 (G5 HF).2.1.drew,(G5 HF).1.drew⟩
theorem BP2{r:List UInt8}(S:Scan s ts r)(hs:s.length<=1048576):BY6 56 s ts (I9 ts).length:=fun W=>
 (C67 (fun s w h=>AP1 s w h) s r ts W S hs).mono fun _ _ ⟨v,he,ho,hb⟩=>⟨v,he,ho.log,hb⟩
theorem kW(h:YT fs ts A B):oN 44 (fun x=>#[x]) fs ts (A++OW ts::B) 0:=by
 have hs:=JV h.good;rcases h.old with⟨h16,G,rfl⟩|⟨f,r,T,S⟩
 .exact fU fs _ 0 (fun v W hv=>A02 v fs NW 7 W hv hs (.inr ⟨h.good,⟨A,B,G⟩,rfl⟩))
   (MP fun v W hv=>aQ v fs A B NW [] W hv hs h.good bC h16 G (by decide))
 .have hf:=NM (T.ok h.good);have hl:=S.len;rw[AO]at hl;refine AO4 fs _ (f.s++f.t) ts (I9 ts).length (fun v W hv=>oD v fs A B f NW W hv hs h.good T) (BP2 S (by rw[AO];omega)) (MP fun v W hv=>?_);have:=vO v fs A B f NW (I9 ts).length W hv hs h.good T (by omega);rw[S.eq,List.take_left,T.nm]at this;exact this
theorem AD3{z:Int}:∀ {ts:List GI} {k:Nat} {t:GI},ts[k]?=FZ t->(k<(TB z ts).length->t.z<=z)/\(k=(TB z ts).length->¬t.z<=z)
 |[],k,t,h=>by simp at h
 |x::l,0,t,h=>by
  simp at h;subst h;unfold TB;by_cases hx:x.z<=z
  .rw[List.takeWhile_cons_of_pos (by simpa using hx)];simp[hx]
  .rw[List.takeWhile_cons_of_neg (by simpa using hx)];simp;omega
 |x::l,k+1,t,h=>by
  have ih:=AD3 (z:=z) (ts:=l) (k:=k) (t:=t) (by simpa using h);unfold TB at ih⊢;by_cases hx:x.z<=z
  .rw[List.takeWhile_cons_of_pos (by simpa using hx)];simpa using ih
  .rw[List.takeWhile_cons_of_neg (by simpa using hx)];simp
theorem AD4(z:Int)(ts:List GI):ts.take (TB z ts).length=TB z ts/\(TB z ts).length<=ts.length:=by
 obtain⟨b,e⟩:=kP z ts;generalize TB z ts=a at*;subst e;simp
theorem xK(ts:List GI)(k:Nat):(I9 (ts.take k)).length<=(I9 ts).length:=by
 have:I9 ts=I9 (ts.take k)++I9 (ts.drop k):=by rw[<-LM,DN]
 rw[this];simp
theorem CM7{i:Nat}(h:i=j):Ending.returned (I0 (i:Int))=.returned (I0 (j:Int)):=by rw[h]
theorem BP3(v:FV)(ts:List GI)(z:Int)(w:FU)(hv:NV w v ts)(hL:∀t∈ts,gdE t=0)(hs:(I9 ts).length<=1048576):
  FW prog 143 #[v,I0 z] w (R0 w (I0 ((I9 (TB z ts)).length:Nat))):=by
 have hlen:=qG ts;have HV:=G6 hv;have HG:=G6 hL;have HK:=G6 (AD4 z ts);have HA:=G6 (fun k t h=>AD3 (z:=z) (ts:=ts) (k:=k) (t:=t) h);have hK:=(AD4 z ts).2;generalize TB z ts=K at*;obtain⟨a,c,rfl⟩:=MF hv;clear hv hL;go_enter func143,ntmps143;go_wp2_with fail
 go_loopg [5,12] ts.length (fun kx s5 s12 wr=>∃ (k N:Nat),s5=I0 N/\s12=I0 k/\k<=K.length/\ts.length-k<=kx/\Hid ((I9 (ts.take k)).length=N)/\Hid (B0 w wr))
 case atStart=>exact⟨0,0,rfl,rfl,AY _,by omega,G6 rfl,G6 (AA _ _)⟩
 case round=>
  obtain⟨k,N,rfl,rfl,hk,hkx,HN,HB⟩:=hrel;by_cases hlt:k<ts.length
  .obtain⟨t,ht⟩:∃t,ts[k]?=FZ t:=⟨_,AL hlt⟩;obtain⟨b,off,cap,he,hb,hr,_,_,_⟩:=Z9 ((G5 HV).next (G5 HB)) ht;simp only[Value.slice.injEq,true_and]at he;obtain⟨rfl,rfl⟩:=he;have e0:=hr.z ht;have e1:=hr.o ht;have e2:=hr.s ht;have e3:=hr.p ht;have e4:=hr.d ht;have e5:=hr.v ht;have e6:=hr.w ht;have CF8:(k:Int)<(ts.length:Int):=by omega
   have hg:=G5 HG t (List.mem_of_getElem? ht);have C:=fun W=>eH t W hg;have hat:=G5 HA k t ht;have HL:=G6 (PO ht);have hN1:=xK ts (k+1);rw[PO ht,PL,AO,G5 HN]at hN1;clear hr ht hb hg;obtain⟨R,hR⟩:∃R,QV t=R:=⟨_,rfl⟩;rw[hR]at C hN1;have HR:=G6 hR;have hzR:(ByteArray.mk R.toArray).size=R.length:=Lib.size_eq ⟨R.toArray⟩;clear hR;have HB2:=fun o=>G6 ((G5 HB).alloc (G5 HB).size o);obtain⟨z1,o1,s1,p1,d1,y1,u1⟩:=t;unfold J7 at C;simp only at e0 e1 e2 e3 e4 e5 e6;by_cases hlK:k<K.length
   .have hz':¬z<z1:=by have hz:z1<=z:=hat.1 hlK;omega
    clear hat;go_wp2_with fail;refine(C _).mono ?_;rintro e w1 ⟨rfl,hb1⟩;have HB3:=G6 (JX (G5 (HB2 _)) hb1);clear C hb1 HB2 e0 e1 e2 e3 e4 e5 e6;go_wp2_with fail
    go_roundg (ts.length-(k+1))
    case measure=>omega
    case rel=>exact⟨k+1,N+R.length,by simp,by simp,by omega,A8 _,G6 (by rw[G5 HL,PL,AO,G5 HN,G5 HR]),HB3⟩
   .have hz':z<z1:=hat.2 (by omega);have hN2:(I9 K).length=N:=by rw[<-(G5 HK).1,show K.length=k from by omega];exact G5 HN
    have HN2:=G6 hN2;clear hat hN2 C;go_wp2_with fail;go_ret;exact⟨CM7 (G5 HN2).symm,G5 (HB2 _)⟩
  .have hki:¬ ((k:Int)<(ts.length:Int)):=by omega
   have hN2:(I9 K).length=N:=by rw[<-(G5 HK).1,show K.length=k from by omega];exact G5 HN
   have HN2:=G6 hN2;clear hN2;go_wp2_with fail;go_ret;exact⟨CM7 (G5 HN2).symm,G5 HB⟩
theorem B67(fs d1 d2:List DF)(ts:List GI)(z:Int)(N:Nat)(GR:oN 44 (fun x=>#[x]) fs ts d1 0)(CU:∀v W,NV W v ts->FW prog 143 #[v,.int .i64 z] W fun e w'=>e=.returned (.int .i64 N)/\Below W.heap.size W w')
  (GC:NC 57 (fun x=>#[x,.string ⟨NW.toArray⟩,.int .i64 N]) d1 d2 0):NC 108 (fun x=>#[x,.int .i64 z]) fs d2 0:=by
 intro v w hv;simp only[show NW.toArray=#[108,111,103]from rfl]at GC;have HV:=G6 hv;have HGC:=G6 GC;have HCU:=G6 CU;obtain⟨a,n,c,rfl⟩:=IW hv;clear hv GC CU;go_enter func108,ntmps108;go_wp2_with fail;have X:=G6 (A30.start w (FQ a n c));generalize (w.alloc (FT #[FQ a n c] 54)).alloc (FT #[FQ FX 0 0] 54)=W0 at*;refine(GR _ _ ((G5 HV).next (G5 X).below)).mono ?_;rintro e w1 ⟨a1,k1,c1,a2,n2,c2,rfl,HL1,HD1,hb1⟩;have X1:=(G5 X).next hb1;have hal:=(AA w1.heap.size w1).alloc (A8 _) (FT #[FQ a2 n2 c2] 54);have HX2:=G6 (X1.next hal);have HY2:=G6 (KH.new w1 (FQ a2 n2 c2));have HL2:=G6 ((G5 HL1).next hal);have HD2:=G6 ((G5 HD1).next hal);clear hb1 X X1 hal GR HV HL1 HD1;go_wp2_with fail;generalize w1.alloc (FT #[FQ a2 n2 c2] 54)=W1 at*;have cy:=(G5 HY2).c
 go_region_with (first
  |(go_at_call 143;refine(G5 HCU _ _ (G5 HL2).drew).mono ?_;rintro e w2 ⟨rfl,hb⟩;have hb':=UF hb;have HX3:=G6 ((G5 HX2).next hb');have HD3:=G6 ((G5 HD2).next hb');have cy3:=((G5 HY2).next hb').c;clear hb hb')
  |(go_at_call 57;refine(G5 HGC _ _ (G5 HD3)).mono ?_;rintro e w3 ⟨a3,n3,c3,rfl,HD4,hb⟩;have X4:=(G5 HX3).next hb;have cr4:=X4.r.c;have fr4:=X4.r.f;have HF:=G6 (And.intro (X4.below.setCell (p:=⟨w.heap.size+1,0,FX⟩) (by show w.heap.size<=w.heap.size+1;omega) (FQ a3 n3 c3)) (QC (G5 HD4) X4.r (FQ a3 n3 c3)));clear hb X4 HX3 HD3 HD4))
 all_goals go_wp2_with fail
 all_goals exact bodyPost_ret (v:=.tuple #[.agg #[FQ a3 n3 c3],.int .i64 0]) (by simp[results,results108,go_sem,cr4]) rfl ⟨_,_,_,rfl,G6 (G5 HF).2,(G5 HF).1⟩
theorem BP6(h:YT fs ts A B)(z:Int):NC 108 (fun x=>#[x,.int .i64 z]) fs (A++OW (TB z ts)::B) 0:=by
 refine B67 fs _ _ ts z (I9 (TB z ts)).length (kW h) (fun v W hv=>BP3 v ts z W hv h.log.good h.short) (MP fun v W hv=>?_);have g:=h.after h.short;have hk:=AO2 z ts;have:=vO v _ A B (OW ts) NW (I9 (TB z ts)).length W hv (JV g) g (h.there ts) (by simp only[OW,List.length_nil,Nat.add_zero];exact hk.2);simp only[OW,List.append_nil,hk.1]at this⊢;exact this
