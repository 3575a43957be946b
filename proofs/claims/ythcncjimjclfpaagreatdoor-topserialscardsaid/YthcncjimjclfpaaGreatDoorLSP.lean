/-
  Part.
-/
import Derived.Test.YthcncjimjclfpaaGreatDoorLSI
import Derived.Test.YthcncjimjclfpaaGreatDoorLSH
set_option maxRecDepth 20000
set_option maxHeartbeats 8000000
namespace Go.Proofs.YthcncjimjclfpaaGreatDoor
open Go.RowKit Go.Proofs.Tryz
open _root_.Nat renaming le_refl->A8,zero_le->AY
open Go.RowKit.Below renaming refl->AA,heap_setCell->BF
open _root_.List renaming getElem?_eq_getElem->AL,length_append->AO,append_assoc->BQ,take_append_drop->DN,take_length->DU
open Go.Value renaming slice->FQ
open Go.Obj renaming cells->FT
open Go renaming World->FU,Value->FV,Calls->FW
open _root_.Option renaming none->FX,some->FZ
variable{a:Option Addr}{c k j:Nat}{W w:FU}{B fs A:List DF}{ts:List GI}{s:List UInt8}{v:FV}
theorem JV{a b c:FU}(h:B0 a b)(k:B0 b c):B0 a c:=h.trans (k.mono h.size)
theorem RZ(v:FV)(ts:List GI)(w:FU)(hv:NV w v ts):
  FW prog 74 #[v] w fun e w'=>e=.returned (I0 (J4 ts))/\w'=w:=by
 by_cases h0:ts.length=0
 .obtain⟨a,c,rfl⟩:=MF hv;obtain rfl:=List.length_eq_zero_iff.1 h0;clear hv h0;rw[WR];go_enter func74,ntmps74;go_wp2_with fail;go_ret;exact⟨rfl,rfl⟩
 .obtain⟨m,x,rfl⟩:=AU3 h0;have hi:(m++[x])[m.length]?=FZ x:=by simp
  obtain⟨b,off,cap,rfl,hb,hr,hlt,hc,hm⟩:=ZO hv hi;have e:=hr.z hi;have hl:(m++[x]).length=m.length+1:=by simp
  rw[SA,hl];simp only[maxLen]at hm;rw[hl]at hc;have hM:m.length<9223372036854775807:=by omega
  clear hv h0 hr hi hl hlt hc hm;generalize m.length=k at*;go_enter func74,ntmps74;go_wp2_with fail;go_ret;exact⟨rfl,rfl⟩
theorem kV(t:GI)(v:FV)(ts:List GI)(w:FU)(hv:NV w v ts):
  FW prog 85 #[J8 t,v] w (R0 w (.bool (jF ts t))):=by
 have C:=fun W (h:B0 w W)=>RZ v ts W (hv.next h);obtain⟨a,c,rfl⟩:=MF hv;obtain⟨z,o,s,p,d,y,u⟩:=t;unfold J8;by_cases h0:ts.length=0
 .have hf:jF ts ⟨z,o,s,p,d,y,u⟩=true:=by simp[jF,h0]
  rw[hf,h0];clear C hv hf;go_enter func85,ntmps85;go_wp2_with fail;go_region;go_wp2_with fail;go_ret;exact⟨rfl,((AA _ _).alloc (A8 _) _).drew⟩
 .have hf:jF ts ⟨z,o,s,p,d,y,u⟩=decide (J4 ts<z):=by rw[nT h0]
  rw[hf];generalize J4 ts=L at*;have h0i:((ts.length:Int)==0)=false:=by simpa using h0
  clear hv hf;go_enter func85,ntmps85;go_wp2_with fail
  go_region_with (first|(go_at_call 74;refine(C _ ?_).mono ?_;exact(((AA _ _).alloc (A8 _) _).drew);rintro e w1 ⟨rfl,rfl⟩))
  all_goals go_wp2_with fail
  all_goals go_ret
  all_goals exact⟨rfl,((AA _ _).alloc (A8 _) _).drew⟩
theorem C66{B:Nat}(h:nH W B (FQ a k c) ts)(hk:ts.length=k)(O:Obj)(V:FU)(e:V=W.alloc O):V.ownsRow B 93 7 (FQ a k c) k (KG ts):=by
 subst e;have:=h.next ((AA _ _).alloc (A8 _) O);unfold nH at this;rwa[hk]at this
theorem BN8(W:FU)(t:GI)(j:Nat)(u:FV)(h:(N7 t)[j]?=FZ u):(W.alloc (FT #[I0 t.z,I0 t.o,I0 t.s,S0 t.p,S0 t.d,I0 t.v,I0 t.w] 93)).cell? ((⟨W.heap.size,0,FX⟩:Addr).add j)=FZ u:=by
 rw[Addr.add_lit];show World.cell? _ ⟨W.heap.size,0+j,FX⟩=_;rw[Nat.zero_add];have e:=heap_alloc_new W (FT #[I0 t.z,I0 t.o,I0 t.s,S0 t.p,S0 t.d,I0 t.v,I0 t.w] 93);simp only[World.cell?,e];have:(#[I0 t.z,I0 t.o,I0 t.s,S0 t.p,S0 t.d,I0 t.v,I0 t.w]:Array FV)[j]?=(N7 t)[j]? :=by simp[N7]
 rw[this,h];rfl
theorem BN9{w W V:FU}{B k c:Nat}{a:Option Addr}{ts:List GI}{t:GI}{O:Obj}{v':FV}(hb:B0 w W)(h:nH W B (FQ a k c) ts)(hB:w.heap.size<=B)(hk:ts.length=k)
  (hown:V.ownsRow B 93 7 v' (k+1) (KG ts++N7 t)) (hg:(W.alloc O).grownBy V (Value.slice a k c).ownBlock):
  ∃a' c',v'=FQ a' (k+1) c'/\nH V B (FQ a' (k+1) c') (ts++[t])/\B0 w V:=by
 subst hk;have ho:=nH.more hown;obtain⟨a',c',rfl⟩:=AK7 ho;rw[AO]at ho;refine⟨a',c',by rw[AO];rfl,ho,?_⟩;have h1:B0 w (W.alloc O):=hb.alloc hb.size O;exact h1.grown hg h1.size fun q e=>Nat.le_trans hB (AK8 h q e).1
def CV4:Prop:=∀ (s:List UInt8) (w:FU),s.length<=140737488355328->
  FW prog 84 #[S0 s] w (R0 w (.tuple #[J8 (nS s),I0 (uG s),I0 (dP s)]))
theorem B48{r:List UInt8}(S:Scan s ts r)(k:Nat):s.drop (IC (ts.take k)).length=IC (ts.drop k)++r/\(IC (ts.take k)).length<=s.length:=by
 have e:s=IC (ts.take k)++(IC (ts.drop k)++r):=by rw[<-BQ,<-LK,DN];exact S.eq
 generalize IC (ts.take k)=X at*;subst e;simp
theorem oW{t:GI}(h:ts[k]?=FZ t):ts.drop k=t::ts.drop (k+1):=by
 obtain⟨hk,rfl⟩:=List.getElem?_eq_some_iff.1 h;exact List.drop_eq_getElem_cons hk
theorem C67(L:Logs ts){t:GI}(h:ts[k]?=FZ t):gdE t=0/\jF (ts.take k) t=true:=by
 have e:ts=ts.take k++t::ts.drop (k+1):=by rw[<-oW h,DN]
 rw[e]at L;exact L.at
theorem BY6{i:Nat}(h:i=j):Ending.returned (.tuple #[v,I0 i])=.returned (.tuple #[v,I0 j]):=by rw[h]
theorem C68(CD:CV4)(s r:List UInt8)(ts:List GI)(w:FU)(S:Scan s ts r)(hs:s.length<=1048576):
  FW prog 56 #[S0 s] w fun e w'=>∃v,e=.returned (.tuple #[v,I0 ((IC ts).length:Nat)])/\nH w' w.heap.size v ts/\B0 w w':=by
 obtain⟨i0,hi0,hz0,hz1,hz2⟩:=rC;have hzs:(ByteArray.mk s.toArray).size=s.length:=Lib.size_eq ⟨s.toArray⟩;have hts:ts.length*31<=1048576:=by have:=qN ts;have:=S.len;omega
 have HS:=G6 S;have HCD:=G6 CD;clear S CD;go_enter func56,ntmps56;go_wp2_with fail
 go_loopg [4,5] ts.length (fun kx s4 s5 wr=>∃ (k N:Nat) (a:Option Addr) (c:Nat),s4=FQ a k c/\s5=I0 N/\k<=ts.length/\ts.length-k<=kx/\Hid ((IC (ts.take k)).length=N)/\Hid (nH wr w.heap.size (FQ a k c) (ts.take k)/\B0 w wr))
 case atStart=>exact⟨0,0,FX,0,rfl,rfl,AY _,by omega,G6 rfl,G6 ⟨nH.nil _ _,AA _ _⟩⟩
 case round=>
  obtain⟨k,N,a,c,rfl,rfl,hk,hkx,HN,hI⟩:=hrel;have h1:=B48 (G5 HS) k;rw[G5 HN]at h1;obtain⟨hd,hNs⟩:=h1;have hx:(ByteArray.mk s.toArray).extract N s.length=⟨(s.drop N).toArray⟩:=B46 s N;have hMl:(ts.take k).length=k:=by simp;omega
  by_cases hlt:k<ts.length
  .obtain⟨t,ht⟩:∃t,ts[k]?=FZ t:=⟨_,AL hlt⟩;have hgf:=C67 (G5 HS).log ht;rw[oW ht,IC,BQ]at hd;have C:=fun W=>G5 HCD (s.drop N) W (by rw[List.length_drop];omega);have hdr:=C17 hgf.1 (IC (ts.drop (k+1))++r);rw[<-hd]at hdr;rw[hdr.1,hdr.2.1,hdr.2.2]at C;have hrl:=jG hgf.1;have hNN:=B48 (G5 HS) (k+1);rw[Q8 ht,PZ,AO,G5 HN]at hNN;have hNL:=hNN.2;have CF:=fun v W (h:NV W v (ts.take k))=>kV t v (ts.take k) W h;rw[hgf.2]at CF;have HT:=G6 (Q8 ht);have HM:=G6 hMl;clear hd hdr hgf hNN hMl ht;obtain⟨Y,hY⟩:∃Y,s.drop N=Y:=⟨_,rfl⟩;rw[hY]at hx C;obtain⟨L,hL⟩:∃L,(QZ t).length=L:=⟨_,rfl⟩;rw[hL]at C hNL hrl;have HL:=G6 hL;obtain⟨M,hM⟩:∃M,ts.take k=M:=⟨_,rfl⟩;rw[hM]at hI HT HM CF HN;have HCF:=G6 CF;clear hY hL hM CF;obtain⟨z,o,s1,p,d,y,u⟩:=t;unfold J8 at C HCF;go_wp2_with fail;refine(C _).mono ?_;rintro e w1 ⟨rfl,hb1⟩;have hal:=(AA w1.heap.size w1).alloc (A8 _) (FT #[I0 z,I0 o,I0 s1,S0 p,S0 d,I0 y,I0 u] 93);have HB1:=G6 (JV (JV (G5 hI).2 hb1) hal);have HO1:=G6 (((G5 hI).1.next hb1).next hal);have T1:=G6 (TAt.new w1 ⟨z,o,s1,p,d,y,u⟩);clear C hb1 hal hI;go_wp2_with fail;generalize w1.alloc (FT #[I0 z,I0 o,I0 s1,S0 p,S0 d,I0 y,I0 u] 93)=W1 at*;refine(G5 HCF _ _ (G5 HO1).log).mono ?_;rintro e w3 ⟨rfl,hb3⟩;have HB3:=G6 (JV (G5 HB1) hb3);have HO3:=G6 ((G5 HO1).next hb3);have T3:=(G5 T1).next hb3;have c0:=T3.c0;have c1:=T3.c1;have c2:=T3.c2;have c3:=T3.c3;have c4:=T3.c4;have c5:=T3.c5;have c6:=T3.c6;clear hb3 HB1 HO1 T1 T3 HCF;have HRW:=G6 (C66 (G5 HO3) (G5 HM));have HC2:=G6 (BN8 w3 ⟨z,o,s1,p,d,y,u⟩);have h4:Hid (k+1<=maxLen):=by unfold Hid;simp only[maxLen];omega
   have h5:Hid ((k+1)*72<=140737488355328):=by unfold Hid;omega
   have h6:Hid (∀O1,w.heap.size<=(w3.alloc O1).heap.size):=fun O1=>by have:=(G5 HB3).size;simp;omega
   go_wp2_with (at_builtin;refine wpList_append_own _ rfl _ _ 55 rfl w.heap.size 93 i0 _ 7 72 underlying55 hi0 hz0 hz1 hz2 rfl (by decide) _ k (KG M) rfl (G5 HRW _ _ rfl) ⟨w3.heap.size,0,FX⟩ 1 1 (N7 ⟨z,o,s1,p,d,y,u⟩) rfl rfl (G5 HC2) (oG _) (G5 h4) (G5 h5) (G5 h6 _) ?_);intro v' w5 hown hgrow _;obtain⟨a5,cc5,rfl,ho5,hb5⟩:=BN9 (G5 HB3) (G5 HO3) (A8 _) (G5 HM) hown hgrow;have HZ:=G6 (And.intro ho5 hb5);clear hown hgrow ho5 hb5 HRW HC2 h4 h5 h6 HB3 HO3 c0 c1 c2 c3 c4 c5 c6;go_wp2_with fail
   go_roundg (ts.length-(k+1))
   case measure=>omega
   case rel=>exact⟨k+1,N+L,a5,cc5,rfl,by simp,by omega,A8 _,G6 (by rw[G5 HT,PZ,AO,G5 HN,G5 HL]),G6 (by rw[G5 HT];exact G5 HZ)⟩
  .obtain rfl:k=ts.length:=by omega
   rw[List.drop_length,IC,List.nil_append]at hd;have C:=fun W=>G5 HCD (s.drop N) W (by rw[List.length_drop];omega);rw[hd]at C hx;have hst:=(G5 HS).stop;have HI:=G6 (by have:=G5 hI;rw[DU]at this;exact this:nH wr w.heap.size (FQ a ts.length c) ts/\B0 w wr);have HN2:=G6 (by have:=G5 HN;rw[DU]at this;exact this:(IC ts).length=N);clear hd hMl hlt hI;by_cases he:dP r=0
   .have hf:jF ts (nS r)=false:=by
     rcases hst with h|h
     .exact absurd he h
     .exact h
    have CF:=fun v W (h:NV W v ts)=>kV (nS r) v ts W h;rw[hf]at CF;rw[he]at C;have HCF:=G6 CF;clear hst hf CF;obtain⟨D,hD⟩:∃D,uG r=D:=⟨_,rfl⟩;rw[hD]at C;clear hD he;obtain⟨t,ht⟩:∃t,nS r=t:=⟨_,rfl⟩;rw[ht]at C HCF;clear ht;obtain⟨z,o,s1,p,d,y,u⟩:=t;unfold J8 at C HCF;go_wp2_with fail;refine(C _).mono ?_;rintro e w1 ⟨rfl,hb1⟩;have hal:=(AA w1.heap.size w1).alloc (A8 _) (FT #[I0 z,I0 o,I0 s1,S0 p,S0 d,I0 y,I0 u] 93);have HB1:=G6 (JV (JV (G5 HI).2 hb1) hal);have HO1:=G6 (((G5 HI).1.next hb1).next hal);clear C hb1 hal HI;go_wp2_with fail;generalize w1.alloc (FT #[I0 z,I0 o,I0 s1,S0 p,S0 d,I0 y,I0 u] 93)=W1 at*;refine(G5 HCF _ _ (G5 HO1).log).mono ?_;rintro e w3 ⟨rfl,hb3⟩;have HB3:=G6 (JV (G5 HB1) hb3);have HO3:=G6 ((G5 HO1).next hb3);clear hb3 HB1 HO1 HCF;go_wp2_with fail
    go_ret2
    exact⟨FQ a ts.length c,BY6 (G5 HN2).symm,G5 HO3,G5 HB3⟩
   .have hne:(dP r !=0)=true:=by simpa using he
    clear hst he;obtain⟨D,hD⟩:∃D,uG r=D:=⟨_,rfl⟩;rw[hD]at C;clear hD;obtain⟨E,hE⟩:∃E,dP r=E:=⟨_,rfl⟩;rw[hE]at C hne;clear hE;obtain⟨t,ht⟩:∃t,nS r=t:=⟨_,rfl⟩;rw[ht]at C;clear ht;obtain⟨z,o,s1,p,d,y,u⟩:=t;unfold J8 at C;go_wp2_with fail;refine(C _).mono ?_;rintro e w1 ⟨rfl,hb1⟩;have hal:=(AA w1.heap.size w1).alloc (A8 _) (FT #[I0 z,I0 o,I0 s1,S0 p,S0 d,I0 y,I0 u] 93);have HB1:=G6 (JV (JV (G5 HI).2 hb1) hal);have HO1:=G6 (((G5 HI).1.next hb1).next hal);clear C hb1 hal HI;go_wp2_with fail
    go_ret2
    exact⟨FQ a ts.length c,BY6 (G5 HN2).symm,G5 HO1,G5 HB1⟩
def NW:List UInt8:=[108,111,103]
theorem bT:IZ NW=true:=by decide
def P6(ts:List GI):DF:=⟨NW,IC ts,[]⟩
structure ZC(fs:List DF)(ts:List GI)(A B:List DF):Prop where
 good:LW fs
 log:Logs ts
 old:(fs.length<16/\Gap fs A B NW/\ts=[])\/∃f r,There fs A f B NW/\Scan (f.s++f.t) ts r
theorem ZC.short(h:ZC fs ts A B):(IC ts).length<=1048576:=by
 rcases h.old with⟨_,_,rfl⟩|⟨f,r,T,S⟩
 .simp[IC]
 .have h1:=S.len;have h2:=NQ (T.ok h.good);rw[AO]at h1;omega
theorem ZC.there(h:ZC fs ts A B)(us:List GI):There (A++P6 us::B) A (P6 us) B NW:=by
 rcases h.old with⟨_,G,_⟩|⟨f,r,T,_⟩
 .exact G.ins rfl
 .exact T.set rfl
theorem ZC.after(h:ZC fs ts A B){us:List GI}(hu:(IC us).length<=1048576):LW (A++P6 us::B):=by
 have hl:(P6 us).s.length+(P6 us).t.length<=1048576:=by simp[P6];exact hu
 rcases h.old with⟨h16,G,_⟩|⟨f,r,T,_⟩
 .exact rG h.good G bT h16 rfl hl
 .have g:=h.good;rw[T.eq]at g;exact BJ3 g T.nm.symm hl
theorem sD(name:List UInt8):Gap [] [] [] name:=⟨rfl,by simp,by simp⟩
theorem XT:LW []:=⟨by simp,by simp,List.Pairwise.nil⟩
theorem bU{t:List UInt8}(h:s.length+t.length<=1048576):LW [⟨NW,s,t⟩]:=
 rG XT (sD NW) bT (by simp) (f':=⟨NW,s,t⟩) rfl h
def TJ(z:Int)(ts:List GI):List GI:=ts.takeWhile fun t=>decide (t.z<=z)
theorem kX(z:Int)(ts:List GI):∃b,ts=TJ z ts++b:=⟨ts.dropWhile fun t=>decide (t.z<=z),(List.takeWhile_append_dropWhile ..).symm⟩
theorem AP1(z:Int)(ts:List GI):(IC ts).take (IC (TJ z ts)).length=IC (TJ z ts)/\(IC (TJ z ts)).length<=(IC ts).length:=by
 obtain⟨b,e⟩:=kX z ts;generalize TJ z ts=a at*;subst e;rw[LK];simp
theorem QL(h:IQ W v fs){n:Nat}(hb:KH W k (FQ a n c))(u:FV):IQ (W.setCell ⟨k,0,FX⟩ u) v fs:=by
 rcases h with h|⟨b,off,cap,rfl,h1,h2,h3,h0,h4⟩
 .exact .inl h
 .have hne:b≠k:=by
   rintro rfl;obtain⟨f,r,rfl⟩:∃f r,fs=f::r:=by
    cases fs with
    |nil=>exact absurd rfl h0
    |cons f r=>exact⟨f,r,rfl⟩
   have e:=h4.c0 (i:=0) (f:=f) rfl;unfold KH at hb;simp only[World.cell?,hb]at e
   cases off with
   |zero=>simp at e
   |succ m=>simp at e
  refine .inr ⟨b,off,cap,rfl,h1,h2,by simpa [World.setCell]using h3,h0,fun j x hj=>?_⟩;rw[<-h4 j x hj];exact World.cell?_of_block (BF W ⟨k,0,FX⟩ u b hne)
theorem C72(h:NV W v ts){n:Nat}(hb:KH W k (FQ a n c))(u:FV):NV (W.setCell ⟨k,0,FX⟩ u) v ts:=by
 rcases h with h|⟨b,off,cap,rfl,h1,h2,h3,h0,h4⟩
 .exact .inl h
 .have hne:b≠k:=by
   rintro rfl;obtain⟨f,r,rfl⟩:∃f r,ts=f::r:=by
    cases ts with
    |nil=>exact absurd rfl h0
    |cons f r=>exact⟨f,r,rfl⟩
   have e:=h4.z (i:=0) (t:=f) rfl;unfold KH at hb;simp only[World.cell?,hb]at e
   cases off with
   |zero=>simp at e
   |succ m=>simp at e
  refine .inr ⟨b,off,cap,rfl,h1,h2,by simpa [World.setCell]using h3,h0,fun j x hj=>?_⟩;rw[<-h4 j x hj];exact World.cell?_of_block (BF W ⟨k,0,FX⟩ u b hne)
theorem KH.other(h:KH W k v)(hj:k≠j)(u:FV):KH (W.setCell ⟨j,0,FX⟩ u) k v:=(BF W ⟨j,0,FX⟩ u k hj).trans h
theorem KH.lt(h:KH W k v):k<W.heap.size:=by unfold KH at h;exact(Array.getElem?_eq_some_iff.1 h).1
structure C73(w W:FU)(v:FV):Prop where
 below:Below w.heap.size w W
 d:KH W w.heap.size v
 r:KH W (w.heap.size+1+1) (FQ FX 0 0)
theorem C73.next{V:FU}(h:C73 w W v)(hb:Below W.heap.size W V):C73 w V v:=⟨JV h.below hb,h.d.next hb,h.r.next hb⟩
theorem C73.start(w:FU)(v:FV)(o:Obj):C73 w (((w.alloc (FT #[v] 54)).alloc o).alloc (FT #[FQ FX 0 0] 54)) v:=by
 have b1:Below (w.alloc (FT #[v] 54)).heap.size (w.alloc (FT #[v] 54)) ((w.alloc (FT #[v] 54)).alloc o):=(AA _ _).alloc (A8 _) _;have b2:Below ((w.alloc (FT #[v] 54)).alloc o).heap.size ((w.alloc (FT #[v] 54)).alloc o) (((w.alloc (FT #[v] 54)).alloc o).alloc (FT #[FQ FX 0 0] 54)):=(AA _ _).alloc (A8 _) _;have b0:Below w.heap.size w (w.alloc (FT #[v] 54)):=(AA _ _).alloc (A8 _) _;refine⟨JV (JV b0 b1) b2,((KH.new w v).next b1).next b2,?_⟩;have h:=KH.new ((w.alloc (FT #[v] 54)).alloc o) (FQ FX 0 0);have hz:((w.alloc (FT #[v] 54)).alloc o).heap.size=w.heap.size+1+1:=by simp
 rw[hz]at h;exact h
structure A43(w W:FU)(v:FV):Prop where
 below:Below w.heap.size w W
 d:KH W w.heap.size v
 r:KH W (w.heap.size+1) (FQ FX 0 0)
theorem A43.next{V:FU}(h:A43 w W v)(hb:Below W.heap.size W V):A43 w V v:=⟨JV h.below hb,h.d.next hb,h.r.next hb⟩
theorem A43.setd(h:A43 w W v)(u:FV):A43 w (W.setCell ⟨w.heap.size,0,FX⟩ u) u:=⟨h.below.setCell (A8 _) u,h.d.set u,h.r.other (by omega) u⟩
theorem A43.start(w:FU)(v:FV):A43 w ((w.alloc (FT #[v] 54)).alloc (FT #[FQ FX 0 0] 54)) v:=by
 have b1:Below w.heap.size w (w.alloc (FT #[v] 54)):=(AA _ _).alloc (A8 _) _;have b2:Below (w.alloc (FT #[v] 54)).heap.size (w.alloc (FT #[v] 54)) ((w.alloc (FT #[v] 54)).alloc (FT #[FQ FX 0 0] 54)):=(AA _ _).alloc (A8 _) _;refine⟨JV b1 b2,(KH.new w v).next b2,?_⟩;have h:=KH.new (w.alloc (FT #[v] 54)) (FQ FX 0 0);have hz:(w.alloc (FT #[v] 54)).heap.size=w.heap.size+1:=by simp
 rw[hz]at h;exact h
def oZ(f:FuncId)(args:FV->Array FV)(fs:List DF)(ts:List GI)(d:List DF)(E:Int):Prop:=∀v W,IQ W v fs->FW prog f (args (.agg #[v])) W fun e w'=>∃a1 k1 c1 a n c,e=.returned (.tuple #[FQ a1 k1 c1,.agg #[FQ a n c],.int .i64 E])/\Hid (NV w' (FQ a1 k1 c1) ts)/\Hid (IQ w' (FQ a n c) d)/\Below W.heap.size W w'
def BY7(f:FuncId)(fs:List DF)(s:List UInt8)(E:Int):Prop:=∀v W,IQ W v fs->FW prog f #[.agg #[v],.string ⟨#[108,111,103]⟩] W fun e w'=>e=.returned (.tuple #[.string ⟨s.toArray⟩,.int .i64 E])/\Below W.heap.size W w'
def BY8(f:FuncId)(s:List UInt8)(ts:List GI)(n:Nat):Prop:=∀W,FW prog f #[.string ⟨s.toArray⟩] W fun e w'=>∃v,e=.returned (.tuple #[v,.int .i64 n])/\NV w' v ts/\Below W.heap.size W w'
theorem gB(fs d1:List DF)(E:Int)(CR:BY7 54 fs [] 7)(GW:NH 55 (fun x=>#[x,.string ⟨NW.toArray⟩,.string ⟨(([]:List UInt8)).toArray⟩]) fs d1 E):oZ 44 (fun x=>#[x]) fs [] d1 E:=by
 intro v w hv;simp only[show NW.toArray=#[108,111,103]from rfl]at GW;have HV:=G6 hv;obtain⟨a,n,c,rfl⟩:=IW hv;clear hv;go_enter func44,ntmps44;go_wp2_with fail;have X:=G6 (A43.start w (FQ a n c));generalize (w.alloc (FT #[FQ a n c] 54)).alloc (FT #[FQ FX 0 0] 54)=W0 at*;refine(CR _ _ ((G5 HV).next (G5 X).below)).mono ?_;rintro e w1 ⟨rfl,hb1⟩;have X1:=(G5 X).next hb1;have cd:=X1.d.c;have HX1:=G6 X1;clear hb1 X X1 CR;go_wp2_with fail;refine(GW _ _ ((G5 HV).next (G5 HX1).below)).mono ?_;rintro e w2 ⟨a2,n2,c2,rfl,HD2,hb2⟩;have hal:=(AA w2.heap.size w2).alloc (A8 _) (FT #[FQ a2 n2 c2] 54);have X2:=((G5 HX1).next hb2).next hal;have cr:=X2.r.c;have fr:=X2.r.f;have cy:=(KH.new w2 (FQ a2 n2 c2)).c;have hz2:=((G5 HX1).next hb2).r.lt;have hnz:w.heap.size+1≠w2.heap.size:=by omega
 have HF:=G6 (And.intro (X2.below.setCell (p:=⟨w.heap.size+1,0,FX⟩) (by show w.heap.size<=w.heap.size+1;omega) (FQ a2 n2 c2)) (QL ((G5 HD2).next hal) X2.r (FQ a2 n2 c2)));clear hb2 hal X2 HX1 HD2 GW cd HV;go_wp2_with fail;generalize w2.alloc (FT #[FQ a2 n2 c2] 54)=W2 at*;go_region;go_wp2_with fail;exact bodyPost_ret (v:=.tuple #[FQ FX 0 0,.agg #[FQ a2 n2 c2],.int .i64 E]) (by simp[results,results44,go_sem,cr]) rfl ⟨_,_,_,_,_,_,rfl,G6 (NV.nil _),G6 (G5 HF).2.drew,(G5 HF).1.drew⟩
theorem AP3(fs d1:List DF)(s:List UInt8)(ts:List GI)(N:Nat)(CR:BY7 54 fs s 0)(CS:BY8 56 s ts N)(GC:NH 57 (fun x=>#[x,.string ⟨NW.toArray⟩,.int .i64 N]) fs d1 0):oZ 44 (fun x=>#[x]) fs ts d1 0:=by
 intro v w hv;simp only[show NW.toArray=#[108,111,103]from rfl]at GC;have HV:=G6 hv;obtain⟨a,n,c,rfl⟩:=IW hv;clear hv;go_enter func44,ntmps44;go_wp2_with fail;have X:=G6 (A43.start w (FQ a n c));generalize (w.alloc (FT #[FQ a n c] 54)).alloc (FT #[FQ FX 0 0] 54)=W0 at*;refine(CR _ _ ((G5 HV).next (G5 X).below)).mono ?_;rintro e w1 ⟨rfl,hb1⟩;have X1:=(G5 X).next hb1;have HX1:=G6 X1;clear hb1 X X1 CR;go_wp2_with fail;refine(CS _).mono ?_;rintro e w2 ⟨v2,rfl,hl2,hb2⟩;have X2:=(G5 HX1).next hb2;have HL2:=G6 hl2;obtain⟨al,cl,rfl⟩:=MF hl2;have cd2:=X2.d.c;have HX2:=G6 X2;clear hb2 hl2 X2 HX1 CS;go_wp2_with fail;refine(GC _ _ ((G5 HV).next (G5 HX2).below)).mono ?_;rintro e w3 ⟨a3,n3,c3,rfl,HD3,hb3⟩;have hal:=(AA w3.heap.size w3).alloc (A8 _) (FT #[FQ a3 n3 c3] 54);have X3:=((G5 HX2).next hb3).next hal;have cr:=X3.r.c;have fr:=X3.r.f;have cy:=(KH.new w3 (FQ a3 n3 c3)).c;have hz2:=((G5 HX2).next hb3).r.lt;have hnz:w.heap.size+1≠w3.heap.size:=by omega
 have HF:=G6 (And.intro (X3.below.setCell (p:=⟨w.heap.size+1,0,FX⟩) (by show w.heap.size<=w.heap.size+1;omega) (FQ a3 n3 c3)) (And.intro (QL ((G5 HD3).next hal) X3.r (FQ a3 n3 c3)) (C72 (((G5 HL2).next hb3).next hal) X3.r (FQ a3 n3 c3))));clear hb3 hal X3 HX2 HD3 HL2 GC cd2 HV;go_wp2_with fail;generalize w3.alloc (FT #[FQ a3 n3 c3] 54)=W3 at*;go_region;go_wp2_with fail;exact bodyPost_ret (v:=.tuple #[FQ al ts.length cl,.agg #[FQ a3 n3 c3],.int .i64 0]) (by simp[results,results44,go_sem,cr]) rfl ⟨_,_,_,_,_,_,rfl,G6 (G5 HF).2.2.drew,G6 (G5 HF).2.1.drew,(G5 HF).1.drew⟩
theorem BO9{r:List UInt8}(S:Scan s ts r)(hs:s.length<=1048576):BY8 56 s ts (IC ts).length:=fun W=>
 (C68 (fun s w h=>AQ0 s w h) s r ts W S hs).mono fun _ _ ⟨v,he,ho,hb⟩=>⟨v,he,ho.log,hb⟩
theorem lH(h:ZC fs ts A B):oZ 44 (fun x=>#[x]) fs ts (A++P6 ts::B) 0:=by
 have hs:=JQ h.good;rcases h.old with⟨h16,G,rfl⟩|⟨f,r,T,S⟩
 .exact gB fs _ 0 (fun v W hv=>A14 v fs NW 7 W hv hs (.inr ⟨h.good,⟨A,B,G⟩,rfl⟩))
   (MV fun v W hv=>bG v fs A B NW [] W hv hs h.good bT h16 G (by decide))
 .have hf:=NQ (T.ok h.good);have hl:=S.len;rw[AO]at hl;refine AP3 fs _ (f.s++f.t) ts (IC ts).length (fun v W hv=>oK v fs A B f NW W hv hs h.good T) (BO9 S (by rw[AO];omega)) (MV fun v W hv=>?_);have:=wF v fs A B f NW (IC ts).length W hv hs h.good T (by omega);rw[S.eq,List.take_left,T.nm]at this;exact this
theorem AE7{z:Int}:∀ {ts:List GI} {k:Nat} {t:GI},ts[k]?=FZ t->(k<(TJ z ts).length->t.z<=z)/\(k=(TJ z ts).length->¬t.z<=z)
 |[],k,t,h=>by simp at h
 |x::l,0,t,h=>by
  simp at h;subst h;unfold TJ;by_cases hx:x.z<=z
  .rw[List.takeWhile_cons_of_pos (by simpa using hx)];simp[hx]
  .rw[List.takeWhile_cons_of_neg (by simpa using hx)];simp;omega
 |x::l,k+1,t,h=>by
  have ih:=AE7 (z:=z) (ts:=l) (k:=k) (t:=t) (by simpa using h);unfold TJ at ih⊢;by_cases hx:x.z<=z
  .rw[List.takeWhile_cons_of_pos (by simpa using hx)];simpa using ih
  .rw[List.takeWhile_cons_of_neg (by simpa using hx)];simp
theorem AE8(z:Int)(ts:List GI):ts.take (TJ z ts).length=TJ z ts/\(TJ z ts).length<=ts.length:=by
 obtain⟨b,e⟩:=kX z ts;generalize TJ z ts=a at*;subst e;simp
theorem yB(ts:List GI)(k:Nat):(IC (ts.take k)).length<=(IC ts).length:=by
 have:IC ts=IC (ts.take k)++IC (ts.drop k):=by rw[<-LK,DN]
 rw[this];simp
theorem CM1{i:Nat}(h:i=j):Ending.returned (I0 (i:Int))=.returned (I0 (j:Int)):=by rw[h]
theorem BP0(v:FV)(ts:List GI)(z:Int)(w:FU)(hv:NV w v ts)(hL:∀t∈ts,gdE t=0)(hs:(IC ts).length<=1048576):
  FW prog 143 #[v,I0 z] w (R0 w (I0 ((IC (TJ z ts)).length:Nat))):=by
 have hlen:=qN ts;have HV:=G6 hv;have HG:=G6 hL;have HK:=G6 (AE8 z ts);have HA:=G6 (fun k t h=>AE7 (z:=z) (ts:=ts) (k:=k) (t:=t) h);have hK:=(AE8 z ts).2;generalize TJ z ts=K at*;obtain⟨a,c,rfl⟩:=MF hv;clear hv hL;go_enter func143,ntmps143;go_wp2_with fail
 go_loopg [5,12] ts.length (fun kx s5 s12 wr=>∃ (k N:Nat),s5=I0 N/\s12=I0 k/\k<=K.length/\ts.length-k<=kx/\Hid ((IC (ts.take k)).length=N)/\Hid (B0 w wr))
 case atStart=>exact⟨0,0,rfl,rfl,AY _,by omega,G6 rfl,G6 (AA _ _)⟩
 case round=>
  obtain⟨k,N,rfl,rfl,hk,hkx,HN,HB⟩:=hrel;by_cases hlt:k<ts.length
  .obtain⟨t,ht⟩:∃t,ts[k]?=FZ t:=⟨_,AL hlt⟩;obtain⟨b,off,cap,he,hb,hr,_,_,_⟩:=ZO ((G5 HV).next (G5 HB)) ht;simp only[Value.slice.injEq,true_and]at he;obtain⟨rfl,rfl⟩:=he;have e0:=hr.z ht;have e1:=hr.o ht;have e2:=hr.s ht;have e3:=hr.p ht;have e4:=hr.d ht;have e5:=hr.v ht;have e6:=hr.w ht;have CF8:(k:Int)<(ts.length:Int):=by omega
   have hg:=G5 HG t (List.mem_of_getElem? ht);have C:=fun W=>eX t W hg;have hat:=G5 HA k t ht;have HL:=G6 (Q8 ht);have hN1:=yB ts (k+1);rw[Q8 ht,PZ,AO,G5 HN]at hN1;clear hr ht hb hg;obtain⟨R,hR⟩:∃R,QZ t=R:=⟨_,rfl⟩;rw[hR]at C hN1;have HR:=G6 hR;have hzR:(ByteArray.mk R.toArray).size=R.length:=Lib.size_eq ⟨R.toArray⟩;clear hR;have HB2:=fun o=>G6 ((G5 HB).alloc (G5 HB).size o);obtain⟨z1,o1,s1,p1,d1,y1,u1⟩:=t;unfold J8 at C;simp only at e0 e1 e2 e3 e4 e5 e6;by_cases hlK:k<K.length
   .have hz':¬z<z1:=by have hz:z1<=z:=hat.1 hlK;omega
    clear hat;go_wp2_with fail;refine(C _).mono ?_;rintro e w1 ⟨rfl,hb1⟩;have HB3:=G6 (JV (G5 (HB2 _)) hb1);clear C hb1 HB2 e0 e1 e2 e3 e4 e5 e6;go_wp2_with fail
    go_roundg (ts.length-(k+1))
    case measure=>omega
    case rel=>exact⟨k+1,N+R.length,by simp,by simp,by omega,A8 _,G6 (by rw[G5 HL,PZ,AO,G5 HN,G5 HR]),HB3⟩
   .have hz':z<z1:=hat.2 (by omega);have hN2:(IC K).length=N:=by rw[<-(G5 HK).1,show K.length=k from by omega];exact G5 HN
    have HN2:=G6 hN2;clear hat hN2 C;go_wp2_with fail;go_ret;exact⟨CM1 (G5 HN2).symm,G5 (HB2 _)⟩
  .have hki:¬ ((k:Int)<(ts.length:Int)):=by omega
   have hN2:(IC K).length=N:=by rw[<-(G5 HK).1,show K.length=k from by omega];exact G5 HN
   have HN2:=G6 hN2;clear hN2;go_wp2_with fail;go_ret;exact⟨CM1 (G5 HN2).symm,G5 HB⟩
theorem B65(fs d1 d2:List DF)(ts:List GI)(z:Int)(N:Nat)(GR:oZ 44 (fun x=>#[x]) fs ts d1 0)(CU:∀v W,NV W v ts->FW prog 143 #[v,.int .i64 z] W fun e w'=>e=.returned (.int .i64 N)/\Below W.heap.size W w')
  (GC:NH 57 (fun x=>#[x,.string ⟨NW.toArray⟩,.int .i64 N]) d1 d2 0):NH 108 (fun x=>#[x,.int .i64 z]) fs d2 0:=by
 intro v w hv;simp only[show NW.toArray=#[108,111,103]from rfl]at GC;have HV:=G6 hv;have HGC:=G6 GC;have HCU:=G6 CU;obtain⟨a,n,c,rfl⟩:=IW hv;clear hv GC CU;go_enter func108,ntmps108;go_wp2_with fail;have X:=G6 (A43.start w (FQ a n c));generalize (w.alloc (FT #[FQ a n c] 54)).alloc (FT #[FQ FX 0 0] 54)=W0 at*;refine(GR _ _ ((G5 HV).next (G5 X).below)).mono ?_;rintro e w1 ⟨a1,k1,c1,a2,n2,c2,rfl,HL1,HD1,hb1⟩;have X1:=(G5 X).next hb1;have hal:=(AA w1.heap.size w1).alloc (A8 _) (FT #[FQ a2 n2 c2] 54);have HX2:=G6 (X1.next hal);have HY2:=G6 (KH.new w1 (FQ a2 n2 c2));have HL2:=G6 ((G5 HL1).next hal);have HD2:=G6 ((G5 HD1).next hal);clear hb1 X X1 hal GR HV HL1 HD1;go_wp2_with fail;generalize w1.alloc (FT #[FQ a2 n2 c2] 54)=W1 at*;have cy:=(G5 HY2).c
 go_region_with (first
  |(go_at_call 143;refine(G5 HCU _ _ (G5 HL2).drew).mono ?_;rintro e w2 ⟨rfl,hb⟩;have hb':=UH hb;have HX3:=G6 ((G5 HX2).next hb');have HD3:=G6 ((G5 HD2).next hb');have cy3:=((G5 HY2).next hb').c;clear hb hb')
  |(go_at_call 57;refine(G5 HGC _ _ (G5 HD3)).mono ?_;rintro e w3 ⟨a3,n3,c3,rfl,HD4,hb⟩;have X4:=(G5 HX3).next hb;have cr4:=X4.r.c;have fr4:=X4.r.f;have HF:=G6 (And.intro (X4.below.setCell (p:=⟨w.heap.size+1,0,FX⟩) (by show w.heap.size<=w.heap.size+1;omega) (FQ a3 n3 c3)) (QL (G5 HD4) X4.r (FQ a3 n3 c3)));clear hb X4 HX3 HD3 HD4))
 all_goals go_wp2_with fail
 all_goals exact bodyPost_ret (v:=.tuple #[.agg #[FQ a3 n3 c3],.int .i64 0]) (by simp[results,results108,go_sem,cr4]) rfl ⟨_,_,_,rfl,G6 (G5 HF).2,(G5 HF).1⟩
theorem BP3(h:ZC fs ts A B)(z:Int):NH 108 (fun x=>#[x,.int .i64 z]) fs (A++P6 (TJ z ts)::B) 0:=by
 refine B65 fs _ _ ts z (IC (TJ z ts)).length (lH h) (fun v W hv=>BP0 v ts z W hv h.log.good h.short) (MV fun v W hv=>?_);have g:=h.after h.short;have hk:=AP1 z ts;have:=wF v _ A B (P6 ts) NW (IC (TJ z ts)).length W hv (JQ g) g (h.there ts) (by simp only[P6,List.length_nil,Nat.add_zero];exact hk.2);simp only[P6,List.append_nil,hk.1]at this⊢;exact this
