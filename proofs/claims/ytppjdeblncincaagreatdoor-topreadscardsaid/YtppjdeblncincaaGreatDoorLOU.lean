/-
  Part.
-/
import Derived.Test.YtppjdeblncincaaGreatDoorLOF
import Derived.Test.YtppjdeblncincaaGreatDoorLOI
import Derived.Test.YtppjdeblncincaaGreatDoorLOT
set_option maxRecDepth 20000
set_option maxHeartbeats 8000000
namespace Go.Proofs.YtppjdeblncincaaGreatDoor
open Go.RowKit Go.Proofs.Tryz
open _root_.Nat renaming le_refl->A8,zero_le->AZ
open Go.RowKit.Below renaming refl->AA,heap_setCell->BG
open _root_.List renaming getElem?_eq_getElem->AO,length_append->AP,append_assoc->BU,take_append_drop->DV,take_length->DW
open Go.Value renaming slice->FU
open Go.Obj renaming cells->FV
open Go renaming World->FW,Value->FX,Calls->FZ
open _root_.Option renaming none->G5,some->G6
variable{a:Option Addr}{c k j:Nat}{W w:FW}{B fs A:List DF}{ts:List GN}{s:List UInt8}{v:FX}
theorem JX{a b c:FW}(h:B0 a b)(k:B0 b c):B0 a c:=h.trans (k.mono h.size)
theorem RX(v:FX)(ts:List GN)(w:FW)(hv:NC w v ts):
  FZ prog 67 #[v] w fun e w'=>e=.returned (I0 (J5 ts))/\w'=w:=by
 by_cases h0:ts.length=0
 .obtain⟨a,c,rfl⟩:=MC hv;obtain rfl:=List.length_eq_zero_iff.1 h0;clear hv h0;rw[WR];go_enter func67,ntmps67;go_wp2_with fail;go_ret;exact⟨rfl,rfl⟩
 .obtain⟨m,x,rfl⟩:=AT3 h0;have hi:(m++[x])[m.length]?=G6 x:=by simp
  obtain⟨b,off,cap,rfl,hb,hr,hlt,hc,hm⟩:=ZK hv hi;have e:=hr.z hi;have hl:(m++[x]).length=m.length+1:=by simp
  rw[UA,hl];simp only[maxLen]at hm;rw[hl]at hc;have hM:m.length<9223372036854775807:=by omega
  clear hv h0 hr hi hl hlt hc hm;generalize m.length=k at*;go_enter func67,ntmps67;go_wp2_with fail;go_ret;exact⟨rfl,rfl⟩
theorem kL(t:GN)(v:FX)(ts:List GN)(w:FW)(hv:NC w v ts):
  FZ prog 109 #[J9 t,v] w (R0 w (.bool (jD ts t))):=by
 have C:=fun W (h:B0 w W)=>RX v ts W (hv.next h);obtain⟨a,c,rfl⟩:=MC hv;obtain⟨z,o,s,p,d,y,u⟩:=t;unfold J9;by_cases h0:ts.length=0
 .have hf:jD ts ⟨z,o,s,p,d,y,u⟩=true:=by simp[jD,h0]
  rw[hf,h0];clear C hv hf;go_enter func109,ntmps109;go_wp2_with fail;go_region;go_wp2_with fail;go_ret;exact⟨rfl,((AA _ _).alloc (A8 _) _).drew⟩
 .have hf:jD ts ⟨z,o,s,p,d,y,u⟩=decide (J5 ts<z):=by rw[nI h0]
  rw[hf];generalize J5 ts=L at*;have h0i:((ts.length:Int)==0)=false:=by simpa using h0
  clear hv hf;go_enter func109,ntmps109;go_wp2_with fail
  go_region_with (first|(go_at_call 67;refine(C _ ?_).mono ?_;exact(((AA _ _).alloc (A8 _) _).drew);rintro e w1 ⟨rfl,rfl⟩))
  all_goals go_wp2_with fail
  all_goals go_ret
  all_goals exact⟨rfl,((AA _ _).alloc (A8 _) _).drew⟩
theorem C58{B:Nat}(h:mQ W B (FU a k c) ts)(hk:ts.length=k)(O:Obj)(V:FW)(e:V=W.alloc O):V.ownsRow B 79 7 (FU a k c) k (JZ ts):=by
 subst e;have:=h.next ((AA _ _).alloc (A8 _) O);unfold mQ at this;rwa[hk]at this
theorem BN5(W:FW)(t:GN)(j:Nat)(u:FX)(h:(MW t)[j]?=G6 u):(W.alloc (FV #[I0 t.z,I0 t.o,I0 t.s,S0 t.p,S0 t.d,I0 t.v,I0 t.w] 79)).cell? ((⟨W.heap.size,0,G5⟩:Addr).add j)=G6 u:=by
 rw[Addr.add_lit];show World.cell? _ ⟨W.heap.size,0+j,G5⟩=_;rw[Nat.zero_add];have e:=heap_alloc_new W (FV #[I0 t.z,I0 t.o,I0 t.s,S0 t.p,S0 t.d,I0 t.v,I0 t.w] 79);simp only[World.cell?,e];have:(#[I0 t.z,I0 t.o,I0 t.s,S0 t.p,S0 t.d,I0 t.v,I0 t.w]:Array FX)[j]?=(MW t)[j]? :=by simp[MW]
 rw[this,h];rfl
theorem BN6{w W V:FW}{B k c:Nat}{a:Option Addr}{ts:List GN}{t:GN}{O:Obj}{v':FX}(hb:B0 w W)(h:mQ W B (FU a k c) ts)(hB:w.heap.size<=B)(hk:ts.length=k)
  (hown:V.ownsRow B 79 7 v' (k+1) (JZ ts++MW t)) (hg:(W.alloc O).grownBy V (Value.slice a k c).ownBlock):
  ∃a' c',v'=FU a' (k+1) c'/\mQ V B (FU a' (k+1) c') (ts++[t])/\B0 w V:=by
 subst hk;have ho:=mQ.more hown;obtain⟨a',c',rfl⟩:=AI8 ho;rw[AP]at ho;refine⟨a',c',by rw[AP];rfl,ho,?_⟩;have h1:B0 w (W.alloc O):=hb.alloc hb.size O;exact h1.grown hg h1.size fun q e=>Nat.le_trans hB (AI9 h q e).1
def CV5:Prop:=∀ (s:List UInt8) (w:FW),s.length<=140737488355328->
  FZ prog 108 #[S0 s] w (R0 w (.tuple #[J9 (nH s),I0 (tJ s),I0 (dK s)]))
theorem B43{r:List UInt8}(S:Scan s ts r)(k:Nat):s.drop (IE (ts.take k)).length=IE (ts.drop k)++r/\(IE (ts.take k)).length<=s.length:=by
 have e:s=IE (ts.take k)++(IE (ts.drop k)++r):=by rw[<-BU,<-LH,DV];exact S.eq
 generalize IE (ts.take k)=X at*;subst e;simp
theorem oL{t:GN}(h:ts[k]?=G6 t):ts.drop k=t::ts.drop (k+1):=by
 obtain⟨hk,rfl⟩:=List.getElem?_eq_some_iff.1 h;exact List.drop_eq_getElem_cons hk
theorem C59(L:Logs ts){t:GN}(h:ts[k]?=G6 t):gdE t=0/\jD (ts.take k) t=true:=by
 have e:ts=ts.take k++t::ts.drop (k+1):=by rw[<-oL h,DV]
 rw[e]at L;exact L.at
theorem BX9{i:Nat}(h:i=j):Ending.returned (.tuple #[v,I0 i])=.returned (.tuple #[v,I0 j]):=by rw[h]
theorem C60(CD:CV5)(s r:List UInt8)(ts:List GN)(w:FW)(S:Scan s ts r)(hs:s.length<=1048576):
  FZ prog 72 #[S0 s] w fun e w'=>∃v,e=.returned (.tuple #[v,I0 ((IE ts).length:Nat)])/\mQ w' w.heap.size v ts/\B0 w w':=by
 obtain⟨i0,hi0,hz0,hz1,hz2⟩:=qO;have hzs:(ByteArray.mk s.toArray).size=s.length:=Lib.size_eq ⟨s.toArray⟩;have hts:ts.length*31<=1048576:=by have:=qC ts;have:=S.len;omega
 have HS:=G8 S;have HCD:=G8 CD;clear S CD;go_enter func72,ntmps72;go_wp2_with fail
 go_loopg [4,5] ts.length (fun kx s4 s5 wr=>∃ (k N:Nat) (a:Option Addr) (c:Nat),s4=FU a k c/\s5=I0 N/\k<=ts.length/\ts.length-k<=kx/\Hid ((IE (ts.take k)).length=N)/\Hid (mQ wr w.heap.size (FU a k c) (ts.take k)/\B0 w wr))
 case atStart=>exact⟨0,0,G5,0,rfl,rfl,AZ _,by omega,G8 rfl,G8 ⟨mQ.nil _ _,AA _ _⟩⟩
 case round=>
  obtain⟨k,N,a,c,rfl,rfl,hk,hkx,HN,hI⟩:=hrel;have h1:=B43 (G7 HS) k;rw[G7 HN]at h1;obtain⟨hd,hNs⟩:=h1;have hx:(ByteArray.mk s.toArray).extract N s.length=⟨(s.drop N).toArray⟩:=B41 s N;have hMl:(ts.take k).length=k:=by simp;omega
  by_cases hlt:k<ts.length
  .obtain⟨t,ht⟩:∃t,ts[k]?=G6 t:=⟨_,AO hlt⟩;have hgf:=C59 (G7 HS).log ht;rw[oL ht,IE,BU]at hd;have C:=fun W=>G7 HCD (s.drop N) W (by rw[List.length_drop];omega);have hdr:=C05 hgf.1 (IE (ts.drop (k+1))++r);rw[<-hd]at hdr;rw[hdr.1,hdr.2.1,hdr.2.2]at C;have hrl:=jE hgf.1;have hNN:=B43 (G7 HS) (k+1);rw[PV ht,PU,AP,G7 HN]at hNN;have hNL:=hNN.2;have CF:=fun v W (h:NC W v (ts.take k))=>kL t v (ts.take k) W h;rw[hgf.2]at CF;have HT:=G8 (PV ht);have HM:=G8 hMl;clear hd hdr hgf hNN hMl ht;obtain⟨Y,hY⟩:∃Y,s.drop N=Y:=⟨_,rfl⟩;rw[hY]at hx C;obtain⟨L,hL⟩:∃L,(QV t).length=L:=⟨_,rfl⟩;rw[hL]at C hNL hrl;have HL:=G8 hL;obtain⟨M,hM⟩:∃M,ts.take k=M:=⟨_,rfl⟩;rw[hM]at hI HT HM CF HN;have HCF:=G8 CF;clear hY hL hM CF;obtain⟨z,o,s1,p,d,y,u⟩:=t;unfold J9 at C HCF;go_wp2_with fail;refine(C _).mono ?_;rintro e w1 ⟨rfl,hb1⟩;have hal:=(AA w1.heap.size w1).alloc (A8 _) (FV #[I0 z,I0 o,I0 s1,S0 p,S0 d,I0 y,I0 u] 79);have HB1:=G8 (JX (JX (G7 hI).2 hb1) hal);have HO1:=G8 (((G7 hI).1.next hb1).next hal);have T1:=G8 (TAt.new w1 ⟨z,o,s1,p,d,y,u⟩);clear C hb1 hal hI;go_wp2_with fail;generalize w1.alloc (FV #[I0 z,I0 o,I0 s1,S0 p,S0 d,I0 y,I0 u] 79)=W1 at*;refine(G7 HCF _ _ (G7 HO1).log).mono ?_;rintro e w3 ⟨rfl,hb3⟩;have HB3:=G8 (JX (G7 HB1) hb3);have HO3:=G8 ((G7 HO1).next hb3);have T3:=(G7 T1).next hb3;have c0:=T3.c0;have c1:=T3.c1;have c2:=T3.c2;have c3:=T3.c3;have c4:=T3.c4;have c5:=T3.c5;have c6:=T3.c6;clear hb3 HB1 HO1 T1 T3 HCF;have HRW:=G8 (C58 (G7 HO3) (G7 HM));have HC2:=G8 (BN5 w3 ⟨z,o,s1,p,d,y,u⟩);have h4:Hid (k+1<=maxLen):=by unfold Hid;simp only[maxLen];omega
   have h5:Hid ((k+1)*72<=140737488355328):=by unfold Hid;omega
   have h6:Hid (∀O1,w.heap.size<=(w3.alloc O1).heap.size):=fun O1=>by have:=(G7 HB3).size;simp;omega
   go_wp2_with (at_builtin;refine wpList_append_own _ rfl _ _ 31 rfl w.heap.size 79 i0 _ 7 72 underlying31 hi0 hz0 hz1 hz2 rfl (by decide) _ k (JZ M) rfl (G7 HRW _ _ rfl) ⟨w3.heap.size,0,G5⟩ 1 1 (MW ⟨z,o,s1,p,d,y,u⟩) rfl rfl (G7 HC2) (nZ _) (G7 h4) (G7 h5) (G7 h6 _) ?_);intro v' w5 hown hgrow _;obtain⟨a5,cc5,rfl,ho5,hb5⟩:=BN6 (G7 HB3) (G7 HO3) (A8 _) (G7 HM) hown hgrow;have HZ:=G8 (And.intro ho5 hb5);clear hown hgrow ho5 hb5 HRW HC2 h4 h5 h6 HB3 HO3 c0 c1 c2 c3 c4 c5 c6;go_wp2_with fail
   go_roundg (ts.length-(k+1))
   case measure=>omega
   case rel=>exact⟨k+1,N+L,a5,cc5,rfl,by simp,by omega,A8 _,G8 (by rw[G7 HT,PU,AP,G7 HN,G7 HL]),G8 (by rw[G7 HT];exact G7 HZ)⟩
  .obtain rfl:k=ts.length:=by omega
   rw[List.drop_length,IE,List.nil_append]at hd;have C:=fun W=>G7 HCD (s.drop N) W (by rw[List.length_drop];omega);rw[hd]at C hx;have hst:=(G7 HS).stop;have HI:=G8 (by have:=G7 hI;rw[DW]at this;exact this:mQ wr w.heap.size (FU a ts.length c) ts/\B0 w wr);have HN2:=G8 (by have:=G7 HN;rw[DW]at this;exact this:(IE ts).length=N);clear hd hMl hlt hI;by_cases he:dK r=0
   .have hf:jD ts (nH r)=false:=by
     rcases hst with h|h
     .exact absurd he h
     .exact h
    have CF:=fun v W (h:NC W v ts)=>kL (nH r) v ts W h;rw[hf]at CF;rw[he]at C;have HCF:=G8 CF;clear hst hf CF;obtain⟨D,hD⟩:∃D,tJ r=D:=⟨_,rfl⟩;rw[hD]at C;clear hD he;obtain⟨t,ht⟩:∃t,nH r=t:=⟨_,rfl⟩;rw[ht]at C HCF;clear ht;obtain⟨z,o,s1,p,d,y,u⟩:=t;unfold J9 at C HCF;go_wp2_with fail;refine(C _).mono ?_;rintro e w1 ⟨rfl,hb1⟩;have hal:=(AA w1.heap.size w1).alloc (A8 _) (FV #[I0 z,I0 o,I0 s1,S0 p,S0 d,I0 y,I0 u] 79);have HB1:=G8 (JX (JX (G7 HI).2 hb1) hal);have HO1:=G8 (((G7 HI).1.next hb1).next hal);clear C hb1 hal HI;go_wp2_with fail;generalize w1.alloc (FV #[I0 z,I0 o,I0 s1,S0 p,S0 d,I0 y,I0 u] 79)=W1 at*;refine(G7 HCF _ _ (G7 HO1).log).mono ?_;rintro e w3 ⟨rfl,hb3⟩;have HB3:=G8 (JX (G7 HB1) hb3);have HO3:=G8 ((G7 HO1).next hb3);clear hb3 HB1 HO1 HCF;go_wp2_with fail
    go_ret2
    exact⟨FU a ts.length c,BX9 (G7 HN2).symm,G7 HO3,G7 HB3⟩
   .have hne:(dK r !=0)=true:=by simpa using he
    clear hst he;obtain⟨D,hD⟩:∃D,tJ r=D:=⟨_,rfl⟩;rw[hD]at C;clear hD;obtain⟨E,hE⟩:∃E,dK r=E:=⟨_,rfl⟩;rw[hE]at C hne;clear hE;obtain⟨t,ht⟩:∃t,nH r=t:=⟨_,rfl⟩;rw[ht]at C;clear ht;obtain⟨z,o,s1,p,d,y,u⟩:=t;unfold J9 at C;go_wp2_with fail;refine(C _).mono ?_;rintro e w1 ⟨rfl,hb1⟩;have hal:=(AA w1.heap.size w1).alloc (A8 _) (FV #[I0 z,I0 o,I0 s1,S0 p,S0 d,I0 y,I0 u] 79);have HB1:=G8 (JX (JX (G7 HI).2 hb1) hal);have HO1:=G8 (((G7 HI).1.next hb1).next hal);clear C hb1 hal HI;go_wp2_with fail
    go_ret2
    exact⟨FU a ts.length c,BX9 (G7 HN2).symm,G7 HO1,G7 HB1⟩
def NV:List UInt8:=[108,111,103]
theorem bP:JB NV=true:=by decide
def OX(ts:List GN):DF:=⟨NV,IE ts,[]⟩
structure Z9(fs:List DF)(ts:List GN)(A B:List DF):Prop where
 good:LQ fs
 log:Logs ts
 old:(fs.length<16/\Gap fs A B NV/\ts=[])\/∃f r,There fs A f B NV/\Scan (f.s++f.t) ts r
theorem Z9.short(h:Z9 fs ts A B):(IE ts).length<=1048576:=by
 rcases h.old with⟨_,_,rfl⟩|⟨f,r,T,S⟩
 .simp[IE]
 .have h1:=S.len;have h2:=NM (T.ok h.good);rw[AP]at h1;omega
theorem Z9.there(h:Z9 fs ts A B)(us:List GN):There (A++OX us::B) A (OX us) B NV:=by
 rcases h.old with⟨_,G,_⟩|⟨f,r,T,_⟩
 .exact G.ins rfl
 .exact T.set rfl
theorem Z9.after(h:Z9 fs ts A B){us:List GN}(hu:(IE us).length<=1048576):LQ (A++OX us::B):=by
 have hl:(OX us).s.length+(OX us).t.length<=1048576:=by simp[OX];exact hu
 rcases h.old with⟨h16,G,_⟩|⟨f,r,T,_⟩
 .exact qU h.good G bP h16 rfl hl
 .have g:=h.good;rw[T.eq]at g;exact BJ1 g T.nm.symm hl
theorem rM(name:List UInt8):Gap [] [] [] name:=⟨rfl,by simp,by simp⟩
theorem XM:LQ []:=⟨by simp,by simp,List.Pairwise.nil⟩
theorem bQ{t:List UInt8}(h:s.length+t.length<=1048576):LQ [⟨NV,s,t⟩]:=
 qU XM (rM NV) bP (by simp) (f':=⟨NV,s,t⟩) rfl h
def TJ(z:Int)(ts:List GN):List GN:=ts.takeWhile fun t=>decide (t.z<=z)
theorem kN(z:Int)(ts:List GN):∃b,ts=TJ z ts++b:=⟨ts.dropWhile fun t=>decide (t.z<=z),(List.takeWhile_append_dropWhile ..).symm⟩
theorem AN3(z:Int)(ts:List GN):(IE ts).take (IE (TJ z ts)).length=IE (TJ z ts)/\(IE (TJ z ts)).length<=(IE ts).length:=by
 obtain⟨b,e⟩:=kN z ts;generalize TJ z ts=a at*;subst e;rw[LH];simp
theorem QG(h:IV W v fs){n:Nat}(hb:KL W k (FU a n c))(u:FX):IV (W.setCell ⟨k,0,G5⟩ u) v fs:=by
 rcases h with h|⟨b,off,cap,rfl,h1,h2,h3,h0,h4⟩
 .exact .inl h
 .have hne:b≠k:=by
   rintro rfl;obtain⟨f,r,rfl⟩:∃f r,fs=f::r:=by
    cases fs with
    |nil=>exact absurd rfl h0
    |cons f r=>exact⟨f,r,rfl⟩
   have e:=h4.c0 (i:=0) (f:=f) rfl;unfold KL at hb;simp only[World.cell?,hb]at e
   cases off with
   |zero=>simp at e
   |succ m=>simp at e
  refine .inr ⟨b,off,cap,rfl,h1,h2,by simpa [World.setCell]using h3,h0,fun j x hj=>?_⟩;rw[<-h4 j x hj];exact World.cell?_of_block (BG W ⟨k,0,G5⟩ u b hne)
theorem C64(h:NC W v ts){n:Nat}(hb:KL W k (FU a n c))(u:FX):NC (W.setCell ⟨k,0,G5⟩ u) v ts:=by
 rcases h with h|⟨b,off,cap,rfl,h1,h2,h3,h0,h4⟩
 .exact .inl h
 .have hne:b≠k:=by
   rintro rfl;obtain⟨f,r,rfl⟩:∃f r,ts=f::r:=by
    cases ts with
    |nil=>exact absurd rfl h0
    |cons f r=>exact⟨f,r,rfl⟩
   have e:=h4.z (i:=0) (t:=f) rfl;unfold KL at hb;simp only[World.cell?,hb]at e
   cases off with
   |zero=>simp at e
   |succ m=>simp at e
  refine .inr ⟨b,off,cap,rfl,h1,h2,by simpa [World.setCell]using h3,h0,fun j x hj=>?_⟩;rw[<-h4 j x hj];exact World.cell?_of_block (BG W ⟨k,0,G5⟩ u b hne)
theorem KL.other(h:KL W k v)(hj:k≠j)(u:FX):KL (W.setCell ⟨j,0,G5⟩ u) k v:=(BG W ⟨j,0,G5⟩ u k hj).trans h
theorem KL.lt(h:KL W k v):k<W.heap.size:=by unfold KL at h;exact(Array.getElem?_eq_some_iff.1 h).1
structure C66(w W:FW)(v:FX):Prop where
 below:Below w.heap.size w W
 d:KL W w.heap.size v
 r:KL W (w.heap.size+1+1) (FU G5 0 0)
theorem C66.next{V:FW}(h:C66 w W v)(hb:Below W.heap.size W V):C66 w V v:=⟨JX h.below hb,h.d.next hb,h.r.next hb⟩
theorem C66.start(w:FW)(v:FX)(o:Obj):C66 w (((w.alloc (FV #[v] 30)).alloc o).alloc (FV #[FU G5 0 0] 30)) v:=by
 have b1:Below (w.alloc (FV #[v] 30)).heap.size (w.alloc (FV #[v] 30)) ((w.alloc (FV #[v] 30)).alloc o):=(AA _ _).alloc (A8 _) _;have b2:Below ((w.alloc (FV #[v] 30)).alloc o).heap.size ((w.alloc (FV #[v] 30)).alloc o) (((w.alloc (FV #[v] 30)).alloc o).alloc (FV #[FU G5 0 0] 30)):=(AA _ _).alloc (A8 _) _;have b0:Below w.heap.size w (w.alloc (FV #[v] 30)):=(AA _ _).alloc (A8 _) _;refine⟨JX (JX b0 b1) b2,((KL.new w v).next b1).next b2,?_⟩;have h:=KL.new ((w.alloc (FV #[v] 30)).alloc o) (FU G5 0 0);have hz:((w.alloc (FV #[v] 30)).alloc o).heap.size=w.heap.size+1+1:=by simp
 rw[hz]at h;exact h
structure A28(w W:FW)(v:FX):Prop where
 below:Below w.heap.size w W
 d:KL W w.heap.size v
 r:KL W (w.heap.size+1) (FU G5 0 0)
theorem A28.next{V:FW}(h:A28 w W v)(hb:Below W.heap.size W V):A28 w V v:=⟨JX h.below hb,h.d.next hb,h.r.next hb⟩
theorem A28.setd(h:A28 w W v)(u:FX):A28 w (W.setCell ⟨w.heap.size,0,G5⟩ u) u:=⟨h.below.setCell (A8 _) u,h.d.set u,h.r.other (by omega) u⟩
theorem A28.start(w:FW)(v:FX):A28 w ((w.alloc (FV #[v] 30)).alloc (FV #[FU G5 0 0] 30)) v:=by
 have b1:Below w.heap.size w (w.alloc (FV #[v] 30)):=(AA _ _).alloc (A8 _) _;have b2:Below (w.alloc (FV #[v] 30)).heap.size (w.alloc (FV #[v] 30)) ((w.alloc (FV #[v] 30)).alloc (FV #[FU G5 0 0] 30)):=(AA _ _).alloc (A8 _) _;refine⟨JX b1 b2,(KL.new w v).next b2,?_⟩;have h:=KL.new (w.alloc (FV #[v] 30)) (FU G5 0 0);have hz:(w.alloc (FV #[v] 30)).heap.size=w.heap.size+1:=by simp
 rw[hz]at h;exact h
def oM(f:FuncId)(args:FX->Array FX)(fs:List DF)(ts:List GN)(d:List DF)(E:Int):Prop:=∀v W,IV W v fs->FZ prog f (args (.agg #[v])) W fun e w'=>∃a1 k1 c1 a n c,e=.returned (.tuple #[FU a1 k1 c1,.agg #[FU a n c],.int .i64 E])/\Hid (NC w' (FU a1 k1 c1) ts)/\Hid (IV w' (FU a n c) d)/\Below W.heap.size W w'
def BY0(f:FuncId)(fs:List DF)(s:List UInt8)(E:Int):Prop:=∀v W,IV W v fs->FZ prog f #[.agg #[v],.string ⟨#[108,111,103]⟩] W fun e w'=>e=.returned (.tuple #[.string ⟨s.toArray⟩,.int .i64 E])/\Below W.heap.size W w'
def BY1(f:FuncId)(s:List UInt8)(ts:List GN)(n:Nat):Prop:=∀W,FZ prog f #[.string ⟨s.toArray⟩] W fun e w'=>∃v,e=.returned (.tuple #[v,.int .i64 n])/\NC w' v ts/\Below W.heap.size W w'
theorem fQ(fs d1:List DF)(E:Int)(CR:BY0 70 fs [] 7)(GW:NG 71 (fun x=>#[x,.string ⟨NV.toArray⟩,.string ⟨(([]:List UInt8)).toArray⟩]) fs d1 E):oM 50 (fun x=>#[x]) fs [] d1 E:=by
 intro v w hv;simp only[show NV.toArray=#[108,111,103]from rfl]at GW;have HV:=G8 hv;obtain⟨a,n,c,rfl⟩:=IZ hv;clear hv;go_enter func50,ntmps50;go_wp2_with fail;have X:=G8 (A28.start w (FU a n c));generalize (w.alloc (FV #[FU a n c] 30)).alloc (FV #[FU G5 0 0] 30)=W0 at*;refine(CR _ _ ((G7 HV).next (G7 X).below)).mono ?_;rintro e w1 ⟨rfl,hb1⟩;have X1:=(G7 X).next hb1;have cd:=X1.d.c;have HX1:=G8 X1;clear hb1 X X1 CR;go_wp2_with fail;refine(GW _ _ ((G7 HV).next (G7 HX1).below)).mono ?_;rintro e w2 ⟨a2,n2,c2,rfl,HD2,hb2⟩;have hal:=(AA w2.heap.size w2).alloc (A8 _) (FV #[FU a2 n2 c2] 30);have X2:=((G7 HX1).next hb2).next hal;have cr:=X2.r.c;have fr:=X2.r.f;have cy:=(KL.new w2 (FU a2 n2 c2)).c;have hz2:=((G7 HX1).next hb2).r.lt;have hnz:w.heap.size+1≠w2.heap.size:=by omega
 have HF:=G8 (And.intro (X2.below.setCell (p:=⟨w.heap.size+1,0,G5⟩) (by show w.heap.size<=w.heap.size+1;omega) (FU a2 n2 c2)) (QG ((G7 HD2).next hal) X2.r (FU a2 n2 c2)));clear hb2 hal X2 HX1 HD2 GW cd HV;go_wp2_with fail;generalize w2.alloc (FV #[FU a2 n2 c2] 30)=W2 at*;go_region;go_wp2_with fail;exact bodyPost_ret (v:=.tuple #[FU G5 0 0,.agg #[FU a2 n2 c2],.int .i64 E]) (by simp[results,results50,go_sem,cr]) rfl ⟨_,_,_,_,_,_,rfl,G8 (NC.nil _),G8 (G7 HF).2.drew,(G7 HF).1.drew⟩
theorem AN5(fs d1:List DF)(s:List UInt8)(ts:List GN)(N:Nat)(CR:BY0 70 fs s 0)(CS:BY1 72 s ts N)(GC:NG 73 (fun x=>#[x,.string ⟨NV.toArray⟩,.int .i64 N]) fs d1 0):oM 50 (fun x=>#[x]) fs ts d1 0:=by
 intro v w hv;simp only[show NV.toArray=#[108,111,103]from rfl]at GC;have HV:=G8 hv;obtain⟨a,n,c,rfl⟩:=IZ hv;clear hv;go_enter func50,ntmps50;go_wp2_with fail;have X:=G8 (A28.start w (FU a n c));generalize (w.alloc (FV #[FU a n c] 30)).alloc (FV #[FU G5 0 0] 30)=W0 at*;refine(CR _ _ ((G7 HV).next (G7 X).below)).mono ?_;rintro e w1 ⟨rfl,hb1⟩;have X1:=(G7 X).next hb1;have HX1:=G8 X1;clear hb1 X X1 CR;go_wp2_with fail;refine(CS _).mono ?_;rintro e w2 ⟨v2,rfl,hl2,hb2⟩;have X2:=(G7 HX1).next hb2;have HL2:=G8 hl2;obtain⟨al,cl,rfl⟩:=MC hl2;have cd2:=X2.d.c;have HX2:=G8 X2;clear hb2 hl2 X2 HX1 CS;go_wp2_with fail;refine(GC _ _ ((G7 HV).next (G7 HX2).below)).mono ?_;rintro e w3 ⟨a3,n3,c3,rfl,HD3,hb3⟩;have hal:=(AA w3.heap.size w3).alloc (A8 _) (FV #[FU a3 n3 c3] 30);have X3:=((G7 HX2).next hb3).next hal;have cr:=X3.r.c;have fr:=X3.r.f;have cy:=(KL.new w3 (FU a3 n3 c3)).c;have hz2:=((G7 HX2).next hb3).r.lt;have hnz:w.heap.size+1≠w3.heap.size:=by omega
 have HF:=G8 (And.intro (X3.below.setCell (p:=⟨w.heap.size+1,0,G5⟩) (by show w.heap.size<=w.heap.size+1;omega) (FU a3 n3 c3)) (And.intro (QG ((G7 HD3).next hal) X3.r (FU a3 n3 c3)) (C64 (((G7 HL2).next hb3).next hal) X3.r (FU a3 n3 c3))));clear hb3 hal X3 HX2 HD3 HL2 GC cd2 HV;go_wp2_with fail;generalize w3.alloc (FV #[FU a3 n3 c3] 30)=W3 at*;go_region;go_wp2_with fail;exact bodyPost_ret (v:=.tuple #[FU al ts.length cl,.agg #[FU a3 n3 c3],.int .i64 0]) (by simp[results,results50,go_sem,cr]) rfl ⟨_,_,_,_,_,_,rfl,G8 (G7 HF).2.2.drew,G8 (G7 HF).2.1.drew,(G7 HF).1.drew⟩
theorem BO6{r:List UInt8}(S:Scan s ts r)(hs:s.length<=1048576):BY1 72 s ts (IE ts).length:=fun W=>
 (C60 (fun s w h=>AO2 s w h) s r ts W S hs).mono fun _ _ ⟨v,he,ho,hb⟩=>⟨v,he,ho.log,hb⟩
theorem kV(h:Z9 fs ts A B):oM 50 (fun x=>#[x]) fs ts (A++OX ts::B) 0:=by
 have hs:=JV h.good;rcases h.old with⟨h16,G,rfl⟩|⟨f,r,T,S⟩
 .exact fQ fs _ 0 (fun v W hv=>A00 v fs NV 7 W hv hs (.inr ⟨h.good,⟨A,B,G⟩,rfl⟩))
   (MQ fun v W hv=>bF v fs A B NV [] W hv hs h.good bP h16 G (by decide))
 .have hf:=NM (T.ok h.good);have hl:=S.len;rw[AP]at hl;refine AN5 fs _ (f.s++f.t) ts (IE ts).length (fun v W hv=>oC v fs A B f NV W hv hs h.good T) (BO6 S (by rw[AP];omega)) (MQ fun v W hv=>?_);have:=vJ v fs A B f NV (IE ts).length W hv hs h.good T (by omega);rw[S.eq,List.take_left,T.nm]at this;exact this
theorem AC4{z:Int}:∀ {ts:List GN} {k:Nat} {t:GN},ts[k]?=G6 t->(k<(TJ z ts).length->t.z<=z)/\(k=(TJ z ts).length->¬t.z<=z)
 |[],k,t,h=>by simp at h
 |x::l,0,t,h=>by
  simp at h;subst h;unfold TJ;by_cases hx:x.z<=z
  .rw[List.takeWhile_cons_of_pos (by simpa using hx)];simp[hx]
  .rw[List.takeWhile_cons_of_neg (by simpa using hx)];simp;omega
 |x::l,k+1,t,h=>by
  have ih:=AC4 (z:=z) (ts:=l) (k:=k) (t:=t) (by simpa using h);unfold TJ at ih⊢;by_cases hx:x.z<=z
  .rw[List.takeWhile_cons_of_pos (by simpa using hx)];simpa using ih
  .rw[List.takeWhile_cons_of_neg (by simpa using hx)];simp
theorem AC5(z:Int)(ts:List GN):ts.take (TJ z ts).length=TJ z ts/\(TJ z ts).length<=ts.length:=by
 obtain⟨b,e⟩:=kN z ts;generalize TJ z ts=a at*;subst e;simp
theorem xH(ts:List GN)(k:Nat):(IE (ts.take k)).length<=(IE ts).length:=by
 have:IE ts=IE (ts.take k)++IE (ts.drop k):=by rw[<-LH,DV]
 rw[this];simp
theorem CL6{i:Nat}(h:i=j):Ending.returned (I0 (i:Int))=.returned (I0 (j:Int)):=by rw[h]
theorem BO7(v:FX)(ts:List GN)(z:Int)(w:FW)(hv:NC w v ts)(hL:∀t∈ts,gdE t=0)(hs:(IE ts).length<=1048576):
  FZ prog 135 #[v,I0 z] w (R0 w (I0 ((IE (TJ z ts)).length:Nat))):=by
 have hlen:=qC ts;have HV:=G8 hv;have HG:=G8 hL;have HK:=G8 (AC5 z ts);have HA:=G8 (fun k t h=>AC4 (z:=z) (ts:=ts) (k:=k) (t:=t) h);have hK:=(AC5 z ts).2;generalize TJ z ts=K at*;obtain⟨a,c,rfl⟩:=MC hv;clear hv hL;go_enter func135,ntmps135;go_wp2_with fail
 go_loopg [5,12] ts.length (fun kx s5 s12 wr=>∃ (k N:Nat),s5=I0 N/\s12=I0 k/\k<=K.length/\ts.length-k<=kx/\Hid ((IE (ts.take k)).length=N)/\Hid (B0 w wr))
 case atStart=>exact⟨0,0,rfl,rfl,AZ _,by omega,G8 rfl,G8 (AA _ _)⟩
 case round=>
  obtain⟨k,N,rfl,rfl,hk,hkx,HN,HB⟩:=hrel;by_cases hlt:k<ts.length
  .obtain⟨t,ht⟩:∃t,ts[k]?=G6 t:=⟨_,AO hlt⟩;obtain⟨b,off,cap,he,hb,hr,_,_,_⟩:=ZK ((G7 HV).next (G7 HB)) ht;simp only[Value.slice.injEq,true_and]at he;obtain⟨rfl,rfl⟩:=he;have e0:=hr.z ht;have e1:=hr.o ht;have e2:=hr.s ht;have e3:=hr.p ht;have e4:=hr.d ht;have e5:=hr.v ht;have e6:=hr.w ht;have BE5:(k:Int)<(ts.length:Int):=by omega
   have hg:=G7 HG t (List.mem_of_getElem? ht);have C:=fun W=>eG t W hg;have hat:=G7 HA k t ht;have HL:=G8 (PV ht);have hN1:=xH ts (k+1);rw[PV ht,PU,AP,G7 HN]at hN1;clear hr ht hb hg;obtain⟨R,hR⟩:∃R,QV t=R:=⟨_,rfl⟩;rw[hR]at C hN1;have HR:=G8 hR;have hzR:(ByteArray.mk R.toArray).size=R.length:=Lib.size_eq ⟨R.toArray⟩;clear hR;have HB2:=fun o=>G8 ((G7 HB).alloc (G7 HB).size o);obtain⟨z1,o1,s1,p1,d1,y1,u1⟩:=t;unfold J9 at C;simp only at e0 e1 e2 e3 e4 e5 e6;by_cases hlK:k<K.length
   .have hz':¬z<z1:=by have hz:z1<=z:=hat.1 hlK;omega
    clear hat;go_wp2_with fail;refine(C _).mono ?_;rintro e w1 ⟨rfl,hb1⟩;have HB3:=G8 (JX (G7 (HB2 _)) hb1);clear C hb1 HB2 e0 e1 e2 e3 e4 e5 e6;go_wp2_with fail
    go_roundg (ts.length-(k+1))
    case measure=>omega
    case rel=>exact⟨k+1,N+R.length,by simp,by simp,by omega,A8 _,G8 (by rw[G7 HL,PU,AP,G7 HN,G7 HR]),HB3⟩
   .have hz':z<z1:=hat.2 (by omega);have hN2:(IE K).length=N:=by rw[<-(G7 HK).1,show K.length=k from by omega];exact G7 HN
    have HN2:=G8 hN2;clear hat hN2 C;go_wp2_with fail;go_ret;exact⟨CL6 (G7 HN2).symm,G7 (HB2 _)⟩
  .have hki:¬ ((k:Int)<(ts.length:Int)):=by omega
   have hN2:(IE K).length=N:=by rw[<-(G7 HK).1,show K.length=k from by omega];exact G7 HN
   have HN2:=G8 hN2;clear hN2;go_wp2_with fail;go_ret;exact⟨CL6 (G7 HN2).symm,G7 HB⟩
theorem B61(fs d1 d2:List DF)(ts:List GN)(z:Int)(N:Nat)(GR:oM 50 (fun x=>#[x]) fs ts d1 0)(CU:∀v W,NC W v ts->FZ prog 135 #[v,.int .i64 z] W fun e w'=>e=.returned (.int .i64 N)/\Below W.heap.size W w')
  (GC:NG 73 (fun x=>#[x,.string ⟨NV.toArray⟩,.int .i64 N]) d1 d2 0):NG 95 (fun x=>#[x,.int .i64 z]) fs d2 0:=by
 intro v w hv;simp only[show NV.toArray=#[108,111,103]from rfl]at GC;have HV:=G8 hv;have HGC:=G8 GC;have HCU:=G8 CU;obtain⟨a,n,c,rfl⟩:=IZ hv;clear hv GC CU;go_enter func95,ntmps95;go_wp2_with fail;have X:=G8 (A28.start w (FU a n c));generalize (w.alloc (FV #[FU a n c] 30)).alloc (FV #[FU G5 0 0] 30)=W0 at*;refine(GR _ _ ((G7 HV).next (G7 X).below)).mono ?_;rintro e w1 ⟨a1,k1,c1,a2,n2,c2,rfl,HL1,HD1,hb1⟩;have X1:=(G7 X).next hb1;have hal:=(AA w1.heap.size w1).alloc (A8 _) (FV #[FU a2 n2 c2] 30);have HX2:=G8 (X1.next hal);have HY2:=G8 (KL.new w1 (FU a2 n2 c2));have HL2:=G8 ((G7 HL1).next hal);have HD2:=G8 ((G7 HD1).next hal);clear hb1 X X1 hal GR HV HL1 HD1;go_wp2_with fail;generalize w1.alloc (FV #[FU a2 n2 c2] 30)=W1 at*;have cy:=(G7 HY2).c
 go_region_with (first
  |(go_at_call 135;refine(G7 HCU _ _ (G7 HL2).drew).mono ?_;rintro e w2 ⟨rfl,hb⟩;have hb':=UL hb;have HX3:=G8 ((G7 HX2).next hb');have HD3:=G8 ((G7 HD2).next hb');have cy3:=((G7 HY2).next hb').c;clear hb hb')
  |(go_at_call 73;refine(G7 HGC _ _ (G7 HD3)).mono ?_;rintro e w3 ⟨a3,n3,c3,rfl,HD4,hb⟩;have X4:=(G7 HX3).next hb;have cr4:=X4.r.c;have fr4:=X4.r.f;have HF:=G8 (And.intro (X4.below.setCell (p:=⟨w.heap.size+1,0,G5⟩) (by show w.heap.size<=w.heap.size+1;omega) (FU a3 n3 c3)) (QG (G7 HD4) X4.r (FU a3 n3 c3)));clear hb X4 HX3 HD3 HD4))
 all_goals go_wp2_with fail
 all_goals exact bodyPost_ret (v:=.tuple #[.agg #[FU a3 n3 c3],.int .i64 0]) (by simp[results,results95,go_sem,cr4]) rfl ⟨_,_,_,rfl,G8 (G7 HF).2,(G7 HF).1⟩
theorem BP0(h:Z9 fs ts A B)(z:Int):NG 95 (fun x=>#[x,.int .i64 z]) fs (A++OX (TJ z ts)::B) 0:=by
 refine B61 fs _ _ ts z (IE (TJ z ts)).length (kV h) (fun v W hv=>BO7 v ts z W hv h.log.good h.short) (MQ fun v W hv=>?_);have g:=h.after h.short;have hk:=AN3 z ts;have:=vJ v _ A B (OX ts) NV (IE (TJ z ts)).length W hv (JV g) g (h.there ts) (by simp only[OX,List.length_nil,Nat.add_zero];exact hk.2);simp only[OX,List.append_nil,hk.1]at this⊢;exact this
