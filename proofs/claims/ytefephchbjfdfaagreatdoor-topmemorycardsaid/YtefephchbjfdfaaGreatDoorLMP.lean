/-
  Part.
-/
import Derived.Test.YtefephchbjfdfaaGreatDoorLMJ
import Derived.Test.YtefephchbjfdfaaGreatDoorLMI
set_option maxRecDepth 20000
set_option maxHeartbeats 8000000
namespace Go.Proofs.YtefephchbjfdfaaGreatDoor
open Go.RowKit Go.Proofs.Tryz
open _root_.Nat renaming le_refl->AA,zero_le->AZ
open Go.RowKit.Below renaming refl->AB,heap_setCell->BG
open _root_.List renaming getElem?_eq_getElem->AO,length_append->AP,append_assoc->BZ,take_append_drop->DW,take_length->DX
open Go.Value renaming slice->FV
open Go.Obj renaming cells->FW
open Go renaming World->FX,Value->FZ,Calls->G5
open _root_.Option renaming none->G6,some->G8
variable{a:Option Addr}{c k j:Nat}{W w:FX}{B fs A:List DF}{ts:List GV}{s:List UInt8}{v:FZ}
theorem JZ{a b c:FX}(h:B0 a b)(k:B0 b c):B0 a c:=h.trans (k.mono h.size)
theorem SH(v:FZ)(ts:List GV)(w:FX)(hv:NQ w v ts):
  G5 prog 61 #[v] w fun e w'=>e=.returned (I0 (J7 ts))/\w'=w:=by
 by_cases h0:ts.length=0
 .obtain⟨a,c,rfl⟩:=MH hv;obtain rfl:=List.length_eq_zero_iff.1 h0;clear hv h0;rw[WS];go_enter func61,ntmps61;go_wp2_with fail;go_ret;exact⟨rfl,rfl⟩
 .obtain⟨m,x,rfl⟩:=AT6 h0;have hi:(m++[x])[m.length]?=G8 x:=by simp
  obtain⟨b,off,cap,rfl,hb,hr,hlt,hc,hm⟩:=ZL hv hi;have e:=hr.z hi;have hl:(m++[x]).length=m.length+1:=by simp
  rw[UE,hl];simp only[maxLen]at hm;rw[hl]at hc;have hM:m.length<9223372036854775807:=by omega
  clear hv h0 hr hi hl hlt hc hm;generalize m.length=k at*;go_enter func61,ntmps61;go_wp2_with fail;go_ret;exact⟨rfl,rfl⟩
theorem kL(t:GV)(v:FZ)(ts:List GV)(w:FX)(hv:NQ w v ts):
  G5 prog 72 #[JC t,v] w (R0 w (.bool (jD ts t))):=by
 have C:=fun W (h:B0 w W)=>SH v ts W (hv.next h);obtain⟨a,c,rfl⟩:=MH hv;obtain⟨z,o,s,p,d,y,u⟩:=t;unfold JC;by_cases h0:ts.length=0
 .have hf:jD ts ⟨z,o,s,p,d,y,u⟩=true:=by simp[jD,h0]
  rw[hf,h0];clear C hv hf;go_enter func72,ntmps72;go_wp2_with fail;go_region;go_wp2_with fail;go_ret;exact⟨rfl,((AB _ _).alloc (AA _) _).drew⟩
 .have hf:jD ts ⟨z,o,s,p,d,y,u⟩=decide (J7 ts<z):=by rw[nG h0]
  rw[hf];generalize J7 ts=L at*;have h0i:((ts.length:Int)==0)=false:=by simpa using h0
  clear hv hf;go_enter func72,ntmps72;go_wp2_with fail
  go_region_with (first|(go_at_call 61;refine(C _ ?_).mono ?_;exact(((AB _ _).alloc (AA _) _).drew);rintro e w1 ⟨rfl,rfl⟩))
  all_goals go_wp2_with fail
  all_goals go_ret
  all_goals exact⟨rfl,((AB _ _).alloc (AA _) _).drew⟩
theorem C53{B:Nat}(h:mO W B (FV a k c) ts)(hk:ts.length=k)(O:Obj)(V:FX)(e:V=W.alloc O):V.ownsRow B 59 7 (FV a k c) k (KF ts):=by
 subst e;have:=h.next ((AB _ _).alloc (AA _) O);unfold mO at this;rwa[hk]at this
theorem BN0(W:FX)(t:GV)(j:Nat)(u:FZ)(h:(ND t)[j]?=G8 u):(W.alloc (FW #[I0 t.z,I0 t.o,I0 t.s,S0 t.p,S0 t.d,I0 t.v,I0 t.w] 59)).cell? ((⟨W.heap.size,0,G6⟩:Addr).add j)=G8 u:=by
 rw[Addr.add_lit];show World.cell? _ ⟨W.heap.size,0+j,G6⟩=_;rw[Nat.zero_add];have e:=heap_alloc_new W (FW #[I0 t.z,I0 t.o,I0 t.s,S0 t.p,S0 t.d,I0 t.v,I0 t.w] 59);simp only[World.cell?,e];have:(#[I0 t.z,I0 t.o,I0 t.s,S0 t.p,S0 t.d,I0 t.v,I0 t.w]:Array FZ)[j]?=(ND t)[j]? :=by simp[ND]
 rw[this,h];rfl
theorem BN1{w W V:FX}{B k c:Nat}{a:Option Addr}{ts:List GV}{t:GV}{O:Obj}{v':FZ}(hb:B0 w W)(h:mO W B (FV a k c) ts)(hB:w.heap.size<=B)(hk:ts.length=k)
  (hown:V.ownsRow B 59 7 v' (k+1) (KF ts++ND t)) (hg:(W.alloc O).grownBy V (Value.slice a k c).ownBlock):
  ∃a' c',v'=FV a' (k+1) c'/\mO V B (FV a' (k+1) c') (ts++[t])/\B0 w V:=by
 subst hk;have ho:=mO.more hown;obtain⟨a',c',rfl⟩:=AI9 ho;rw[AP]at ho;refine⟨a',c',by rw[AP];rfl,ho,?_⟩;have h1:B0 w (W.alloc O):=hb.alloc hb.size O;exact h1.grown hg h1.size fun q e=>Nat.le_trans hB (AJ0 h q e).1
def CV3:Prop:=∀ (s:List UInt8) (w:FX),s.length<=140737488355328->
  G5 prog 71 #[S0 s] w (R0 w (.tuple #[JC (nD s),I0 (tZ s),I0 (dM s)]))
theorem B44{r:List UInt8}(S:Scan s ts r)(k:Nat):s.drop (IJ (ts.take k)).length=IJ (ts.drop k)++r/\(IJ (ts.take k)).length<=s.length:=by
 have e:s=IJ (ts.take k)++(IJ (ts.drop k)++r):=by rw[<-BZ,<-LM,DW];exact S.eq
 generalize IJ (ts.take k)=X at*;subst e;simp
theorem oL{t:GV}(h:ts[k]?=G8 t):ts.drop k=t::ts.drop (k+1):=by
 obtain⟨hk,rfl⟩:=List.getElem?_eq_some_iff.1 h;exact List.drop_eq_getElem_cons hk
theorem C54(L:Logs ts){t:GV}(h:ts[k]?=G8 t):gdE t=0/\jD (ts.take k) t=true:=by
 have e:ts=ts.take k++t::ts.drop (k+1):=by rw[<-oL h,DW]
 rw[e]at L;exact L.at
theorem BX6{i:Nat}(h:i=j):Ending.returned (.tuple #[v,I0 i])=.returned (.tuple #[v,I0 j]):=by rw[h]
theorem C55(CD:CV3)(s r:List UInt8)(ts:List GV)(w:FX)(S:Scan s ts r)(hs:s.length<=1048576):
  G5 prog 41 #[S0 s] w fun e w'=>∃v,e=.returned (.tuple #[v,I0 ((IJ ts).length:Nat)])/\mO w' w.heap.size v ts/\B0 w w':=by
 obtain⟨i0,hi0,hz0,hz1,hz2⟩:=qQ;have hzs:(ByteArray.mk s.toArray).size=s.length:=Lib.size_eq ⟨s.toArray⟩;have hts:ts.length*31<=1048576:=by have:=qF ts;have:=S.len;omega
 have HS:=GH S;have HCD:=GH CD;clear S CD;go_enter func41,ntmps41;go_wp2_with fail
 go_loopg [4,5] ts.length (fun kx s4 s5 wr=>∃ (k N:Nat) (a:Option Addr) (c:Nat),s4=FV a k c/\s5=I0 N/\k<=ts.length/\ts.length-k<=kx/\Hid ((IJ (ts.take k)).length=N)/\Hid (mO wr w.heap.size (FV a k c) (ts.take k)/\B0 w wr))
 case atStart=>exact⟨0,0,G6,0,rfl,rfl,AZ _,by omega,GH rfl,GH ⟨mO.nil _ _,AB _ _⟩⟩
 case round=>
  obtain⟨k,N,a,c,rfl,rfl,hk,hkx,HN,hI⟩:=hrel;have h1:=B44 (G9 HS) k;rw[G9 HN]at h1;obtain⟨hd,hNs⟩:=h1;have hx:(ByteArray.mk s.toArray).extract N s.length=⟨(s.drop N).toArray⟩:=B42 s N;have hMl:(ts.take k).length=k:=by simp;omega
  by_cases hlt:k<ts.length
  .obtain⟨t,ht⟩:∃t,ts[k]?=G8 t:=⟨_,AO hlt⟩;have hgf:=C54 (G9 HS).log ht;rw[oL ht,IJ,BZ]at hd;have C:=fun W=>G9 HCD (s.drop N) W (by rw[List.length_drop];omega);have hdr:=C01 hgf.1 (IJ (ts.drop (k+1))++r);rw[<-hd]at hdr;rw[hdr.1,hdr.2.1,hdr.2.2]at C;have hrl:=jE hgf.1;have hNN:=B44 (G9 HS) (k+1);rw[QC ht,QB,AP,G9 HN]at hNN;have hNL:=hNN.2;have CF:=fun v W (h:NQ W v (ts.take k))=>kL t v (ts.take k) W h;rw[hgf.2]at CF;have HT:=GH (QC ht);have HM:=GH hMl;clear hd hdr hgf hNN hMl ht;obtain⟨Y,hY⟩:∃Y,s.drop N=Y:=⟨_,rfl⟩;rw[hY]at hx C;obtain⟨L,hL⟩:∃L,(RI t).length=L:=⟨_,rfl⟩;rw[hL]at C hNL hrl;have HL:=GH hL;obtain⟨M,hM⟩:∃M,ts.take k=M:=⟨_,rfl⟩;rw[hM]at hI HT HM CF HN;have HCF:=GH CF;clear hY hL hM CF;obtain⟨z,o,s1,p,d,y,u⟩:=t;unfold JC at C HCF;go_wp2_with fail;refine(C _).mono ?_;rintro e w1 ⟨rfl,hb1⟩;have hal:=(AB w1.heap.size w1).alloc (AA _) (FW #[I0 z,I0 o,I0 s1,S0 p,S0 d,I0 y,I0 u] 59);have HB1:=GH (JZ (JZ (G9 hI).2 hb1) hal);have HO1:=GH (((G9 hI).1.next hb1).next hal);have T1:=GH (TAt.new w1 ⟨z,o,s1,p,d,y,u⟩);clear C hb1 hal hI;go_wp2_with fail;generalize w1.alloc (FW #[I0 z,I0 o,I0 s1,S0 p,S0 d,I0 y,I0 u] 59)=W1 at*;refine(G9 HCF _ _ (G9 HO1).log).mono ?_;rintro e w3 ⟨rfl,hb3⟩;have HB3:=GH (JZ (G9 HB1) hb3);have HO3:=GH ((G9 HO1).next hb3);have T3:=(G9 T1).next hb3;have c0:=T3.c0;have c1:=T3.c1;have c2:=T3.c2;have c3:=T3.c3;have c4:=T3.c4;have c5:=T3.c5;have c6:=T3.c6;clear hb3 HB1 HO1 T1 T3 HCF;have HRW:=GH (C53 (G9 HO3) (G9 HM));have HC2:=GH (BN0 w3 ⟨z,o,s1,p,d,y,u⟩);have h4:Hid (k+1<=maxLen):=by unfold Hid;simp only[maxLen];omega
   have h5:Hid ((k+1)*72<=140737488355328):=by unfold Hid;omega
   have h6:Hid (∀O1,w.heap.size<=(w3.alloc O1).heap.size):=fun O1=>by have:=(G9 HB3).size;simp;omega
   go_wp2_with (at_builtin;refine wpList_append_own _ rfl _ _ 46 rfl w.heap.size 59 i0 _ 7 72 underlying46 hi0 hz0 hz1 hz2 rfl (by decide) _ k (KF M) rfl (G9 HRW _ _ rfl) ⟨w3.heap.size,0,G6⟩ 1 1 (ND ⟨z,o,s1,p,d,y,u⟩) rfl rfl (G9 HC2) (nX _) (G9 h4) (G9 h5) (G9 h6 _) ?_);intro v' w5 hown hgrow _;obtain⟨a5,cc5,rfl,ho5,hb5⟩:=BN1 (G9 HB3) (G9 HO3) (AA _) (G9 HM) hown hgrow;have HZ:=GH (And.intro ho5 hb5);clear hown hgrow ho5 hb5 HRW HC2 h4 h5 h6 HB3 HO3 c0 c1 c2 c3 c4 c5 c6;go_wp2_with fail
   go_roundg (ts.length-(k+1))
   case measure=>omega
   case rel=>exact⟨k+1,N+L,a5,cc5,rfl,by simp,by omega,AA _,GH (by rw[G9 HT,QB,AP,G9 HN,G9 HL]),GH (by rw[G9 HT];exact G9 HZ)⟩
  .obtain rfl:k=ts.length:=by omega
   rw[List.drop_length,IJ,List.nil_append]at hd;have C:=fun W=>G9 HCD (s.drop N) W (by rw[List.length_drop];omega);rw[hd]at C hx;have hst:=(G9 HS).stop;have HI:=GH (by have:=G9 hI;rw[DX]at this;exact this:mO wr w.heap.size (FV a ts.length c) ts/\B0 w wr);have HN2:=GH (by have:=G9 HN;rw[DX]at this;exact this:(IJ ts).length=N);clear hd hMl hlt hI;by_cases he:dM r=0
   .have hf:jD ts (nD r)=false:=by
     rcases hst with h|h
     .exact absurd he h
     .exact h
    have CF:=fun v W (h:NQ W v ts)=>kL (nD r) v ts W h;rw[hf]at CF;rw[he]at C;have HCF:=GH CF;clear hst hf CF;obtain⟨D,hD⟩:∃D,tZ r=D:=⟨_,rfl⟩;rw[hD]at C;clear hD he;obtain⟨t,ht⟩:∃t,nD r=t:=⟨_,rfl⟩;rw[ht]at C HCF;clear ht;obtain⟨z,o,s1,p,d,y,u⟩:=t;unfold JC at C HCF;go_wp2_with fail;refine(C _).mono ?_;rintro e w1 ⟨rfl,hb1⟩;have hal:=(AB w1.heap.size w1).alloc (AA _) (FW #[I0 z,I0 o,I0 s1,S0 p,S0 d,I0 y,I0 u] 59);have HB1:=GH (JZ (JZ (G9 HI).2 hb1) hal);have HO1:=GH (((G9 HI).1.next hb1).next hal);clear C hb1 hal HI;go_wp2_with fail;generalize w1.alloc (FW #[I0 z,I0 o,I0 s1,S0 p,S0 d,I0 y,I0 u] 59)=W1 at*;refine(G9 HCF _ _ (G9 HO1).log).mono ?_;rintro e w3 ⟨rfl,hb3⟩;have HB3:=GH (JZ (G9 HB1) hb3);have HO3:=GH ((G9 HO1).next hb3);clear hb3 HB1 HO1 HCF;go_wp2_with fail
    go_ret2
    exact⟨FV a ts.length c,BX6 (G9 HN2).symm,G9 HO3,G9 HB3⟩
   .have hne:(dM r !=0)=true:=by simpa using he
    clear hst he;obtain⟨D,hD⟩:∃D,tZ r=D:=⟨_,rfl⟩;rw[hD]at C;clear hD;obtain⟨E,hE⟩:∃E,dM r=E:=⟨_,rfl⟩;rw[hE]at C hne;clear hE;obtain⟨t,ht⟩:∃t,nD r=t:=⟨_,rfl⟩;rw[ht]at C;clear ht;obtain⟨z,o,s1,p,d,y,u⟩:=t;unfold JC at C;go_wp2_with fail;refine(C _).mono ?_;rintro e w1 ⟨rfl,hb1⟩;have hal:=(AB w1.heap.size w1).alloc (AA _) (FW #[I0 z,I0 o,I0 s1,S0 p,S0 d,I0 y,I0 u] 59);have HB1:=GH (JZ (JZ (G9 HI).2 hb1) hal);have HO1:=GH (((G9 HI).1.next hb1).next hal);clear C hb1 hal HI;go_wp2_with fail
    go_ret2
    exact⟨FV a ts.length c,BX6 (G9 HN2).symm,G9 HO1,G9 HB1⟩
def OE:List UInt8:=[108,111,103]
theorem bQ:JF OE=true:=by decide
def PL(ts:List GV):DF:=⟨OE,IJ ts,[]⟩
structure Z9(fs:List DF)(ts:List GV)(A B:List DF):Prop where
 good:LV fs
 log:Logs ts
 old:(fs.length<16/\Gap fs A B OE/\ts=[])\/∃f r,There fs A f B OE/\Scan (f.s++f.t) ts r
theorem Z9.short(h:Z9 fs ts A B):(IJ ts).length<=1048576:=by
 rcases h.old with⟨_,_,rfl⟩|⟨f,r,T,S⟩
 .simp[IJ]
 .have h1:=S.len;have h2:=NZ (T.ok h.good);rw[AP]at h1;omega
theorem Z9.there(h:Z9 fs ts A B)(us:List GV):There (A++PL us::B) A (PL us) B OE:=by
 rcases h.old with⟨_,G,_⟩|⟨f,r,T,_⟩
 .exact G.ins rfl
 .exact T.set rfl
theorem Z9.after(h:Z9 fs ts A B){us:List GV}(hu:(IJ us).length<=1048576):LV (A++PL us::B):=by
 have hl:(PL us).s.length+(PL us).t.length<=1048576:=by simp[PL];exact hu
 rcases h.old with⟨h16,G,_⟩|⟨f,r,T,_⟩
 .exact qW h.good G bQ h16 rfl hl
 .have g:=h.good;rw[T.eq]at g;exact BI5 g T.nm.symm hl
theorem rQ(name:List UInt8):Gap [] [] [] name:=⟨rfl,by simp,by simp⟩
theorem XM:LV []:=⟨by simp,by simp,List.Pairwise.nil⟩
theorem bT{t:List UInt8}(h:s.length+t.length<=1048576):LV [⟨OE,s,t⟩]:=
 qW XM (rQ OE) bQ (by simp) (f':=⟨OE,s,t⟩) rfl h
def TN(z:Int)(ts:List GV):List GV:=ts.takeWhile fun t=>decide (t.z<=z)
theorem kN(z:Int)(ts:List GV):∃b,ts=TN z ts++b:=⟨ts.dropWhile fun t=>decide (t.z<=z),(List.takeWhile_append_dropWhile ..).symm⟩
theorem AN5(z:Int)(ts:List GV):(IJ ts).take (IJ (TN z ts)).length=IJ (TN z ts)/\(IJ (TN z ts)).length<=(IJ ts).length:=by
 obtain⟨b,e⟩:=kN z ts;generalize TN z ts=a at*;subst e;rw[LM];simp
theorem QO(h:IY W v fs){n:Nat}(hb:KN W k (FV a n c))(u:FZ):IY (W.setCell ⟨k,0,G6⟩ u) v fs:=by
 rcases h with h|⟨b,off,cap,rfl,h1,h2,h3,h0,h4⟩
 .exact .inl h
 .have hne:b≠k:=by
   rintro rfl;obtain⟨f,r,rfl⟩:∃f r,fs=f::r:=by
    cases fs with
    |nil=>exact absurd rfl h0
    |cons f r=>exact⟨f,r,rfl⟩
   have e:=h4.c0 (i:=0) (f:=f) rfl;unfold KN at hb;simp only[World.cell?,hb]at e
   cases off with
   |zero=>simp at e
   |succ m=>simp at e
  refine .inr ⟨b,off,cap,rfl,h1,h2,by simpa [World.setCell]using h3,h0,fun j x hj=>?_⟩;rw[<-h4 j x hj];exact World.cell?_of_block (BG W ⟨k,0,G6⟩ u b hne)
theorem C59(h:NQ W v ts){n:Nat}(hb:KN W k (FV a n c))(u:FZ):NQ (W.setCell ⟨k,0,G6⟩ u) v ts:=by
 rcases h with h|⟨b,off,cap,rfl,h1,h2,h3,h0,h4⟩
 .exact .inl h
 .have hne:b≠k:=by
   rintro rfl;obtain⟨f,r,rfl⟩:∃f r,ts=f::r:=by
    cases ts with
    |nil=>exact absurd rfl h0
    |cons f r=>exact⟨f,r,rfl⟩
   have e:=h4.z (i:=0) (t:=f) rfl;unfold KN at hb;simp only[World.cell?,hb]at e
   cases off with
   |zero=>simp at e
   |succ m=>simp at e
  refine .inr ⟨b,off,cap,rfl,h1,h2,by simpa [World.setCell]using h3,h0,fun j x hj=>?_⟩;rw[<-h4 j x hj];exact World.cell?_of_block (BG W ⟨k,0,G6⟩ u b hne)
theorem KN.other(h:KN W k v)(hj:k≠j)(u:FZ):KN (W.setCell ⟨j,0,G6⟩ u) k v:=(BG W ⟨j,0,G6⟩ u k hj).trans h
theorem KN.lt(h:KN W k v):k<W.heap.size:=by unfold KN at h;exact(Array.getElem?_eq_some_iff.1 h).1
structure C60(w W:FX)(v:FZ):Prop where
 below:Below w.heap.size w W
 d:KN W w.heap.size v
 r:KN W (w.heap.size+1+1) (FV G6 0 0)
theorem C60.next{V:FX}(h:C60 w W v)(hb:Below W.heap.size W V):C60 w V v:=⟨JZ h.below hb,h.d.next hb,h.r.next hb⟩
theorem C60.start(w:FX)(v:FZ)(o:Obj):C60 w (((w.alloc (FW #[v] 45)).alloc o).alloc (FW #[FV G6 0 0] 45)) v:=by
 have b1:Below (w.alloc (FW #[v] 45)).heap.size (w.alloc (FW #[v] 45)) ((w.alloc (FW #[v] 45)).alloc o):=(AB _ _).alloc (AA _) _;have b2:Below ((w.alloc (FW #[v] 45)).alloc o).heap.size ((w.alloc (FW #[v] 45)).alloc o) (((w.alloc (FW #[v] 45)).alloc o).alloc (FW #[FV G6 0 0] 45)):=(AB _ _).alloc (AA _) _;have b0:Below w.heap.size w (w.alloc (FW #[v] 45)):=(AB _ _).alloc (AA _) _;refine⟨JZ (JZ b0 b1) b2,((KN.new w v).next b1).next b2,?_⟩;have h:=KN.new ((w.alloc (FW #[v] 45)).alloc o) (FV G6 0 0);have hz:((w.alloc (FW #[v] 45)).alloc o).heap.size=w.heap.size+1+1:=by simp
 rw[hz]at h;exact h
structure A31(w W:FX)(v:FZ):Prop where
 below:Below w.heap.size w W
 d:KN W w.heap.size v
 r:KN W (w.heap.size+1) (FV G6 0 0)
theorem A31.next{V:FX}(h:A31 w W v)(hb:Below W.heap.size W V):A31 w V v:=⟨JZ h.below hb,h.d.next hb,h.r.next hb⟩
theorem A31.setd(h:A31 w W v)(u:FZ):A31 w (W.setCell ⟨w.heap.size,0,G6⟩ u) u:=⟨h.below.setCell (AA _) u,h.d.set u,h.r.other (by omega) u⟩
theorem A31.start(w:FX)(v:FZ):A31 w ((w.alloc (FW #[v] 45)).alloc (FW #[FV G6 0 0] 45)) v:=by
 have b1:Below w.heap.size w (w.alloc (FW #[v] 45)):=(AB _ _).alloc (AA _) _;have b2:Below (w.alloc (FW #[v] 45)).heap.size (w.alloc (FW #[v] 45)) ((w.alloc (FW #[v] 45)).alloc (FW #[FV G6 0 0] 45)):=(AB _ _).alloc (AA _) _;refine⟨JZ b1 b2,(KN.new w v).next b2,?_⟩;have h:=KN.new (w.alloc (FW #[v] 45)) (FV G6 0 0);have hz:(w.alloc (FW #[v] 45)).heap.size=w.heap.size+1:=by simp
 rw[hz]at h;exact h
def oM(f:FuncId)(args:FZ->Array FZ)(fs:List DF)(ts:List GV)(d:List DF)(E:Int):Prop:=∀v W,IY W v fs->G5 prog f (args (.agg #[v])) W fun e w'=>∃a1 k1 c1 a n c,e=.returned (.tuple #[FV a1 k1 c1,.agg #[FV a n c],.int .i64 E])/\Hid (NQ w' (FV a1 k1 c1) ts)/\Hid (IY w' (FV a n c) d)/\Below W.heap.size W w'
def BX7(f:FuncId)(fs:List DF)(s:List UInt8)(E:Int):Prop:=∀v W,IY W v fs->G5 prog f #[.agg #[v],.string ⟨#[108,111,103]⟩] W fun e w'=>e=.returned (.tuple #[.string ⟨s.toArray⟩,.int .i64 E])/\Below W.heap.size W w'
def BX8(f:FuncId)(s:List UInt8)(ts:List GV)(n:Nat):Prop:=∀W,G5 prog f #[.string ⟨s.toArray⟩] W fun e w'=>∃v,e=.returned (.tuple #[v,.int .i64 n])/\NQ w' v ts/\Below W.heap.size W w'
theorem fV(fs d1:List DF)(E:Int)(CR:BX7 39 fs [] 7)(GW:NT 40 (fun x=>#[x,.string ⟨OE.toArray⟩,.string ⟨(([]:List UInt8)).toArray⟩]) fs d1 E):oM 30 (fun x=>#[x]) fs [] d1 E:=by
 intro v w hv;simp only[show OE.toArray=#[108,111,103]from rfl]at GW;have HV:=GH hv;obtain⟨a,n,c,rfl⟩:=J4 hv;clear hv;go_enter func30,ntmps30;go_wp2_with fail;have X:=GH (A31.start w (FV a n c));generalize (w.alloc (FW #[FV a n c] 45)).alloc (FW #[FV G6 0 0] 45)=W0 at*;refine(CR _ _ ((G9 HV).next (G9 X).below)).mono ?_;rintro e w1 ⟨rfl,hb1⟩;have X1:=(G9 X).next hb1;have cd:=X1.d.c;have HX1:=GH X1;clear hb1 X X1 CR;go_wp2_with fail;refine(GW _ _ ((G9 HV).next (G9 HX1).below)).mono ?_;rintro e w2 ⟨a2,n2,c2,rfl,HD2,hb2⟩;have hal:=(AB w2.heap.size w2).alloc (AA _) (FW #[FV a2 n2 c2] 45);have X2:=((G9 HX1).next hb2).next hal;have cr:=X2.r.c;have fr:=X2.r.f;have cy:=(KN.new w2 (FV a2 n2 c2)).c;have hz2:=((G9 HX1).next hb2).r.lt;have hnz:w.heap.size+1≠w2.heap.size:=by omega
 have HF:=GH (And.intro (X2.below.setCell (p:=⟨w.heap.size+1,0,G6⟩) (by show w.heap.size<=w.heap.size+1;omega) (FV a2 n2 c2)) (QO ((G9 HD2).next hal) X2.r (FV a2 n2 c2)));clear hb2 hal X2 HX1 HD2 GW cd HV;go_wp2_with fail;generalize w2.alloc (FW #[FV a2 n2 c2] 45)=W2 at*;go_region;go_wp2_with fail;exact bodyPost_ret (v:=.tuple #[FV G6 0 0,.agg #[FV a2 n2 c2],.int .i64 E]) (by simp[results,results30,go_sem,cr]) rfl ⟨_,_,_,_,_,_,rfl,GH (NQ.nil _),GH (G9 HF).2.drew,(G9 HF).1.drew⟩
theorem AN7(fs d1:List DF)(s:List UInt8)(ts:List GV)(N:Nat)(CR:BX7 39 fs s 0)(CS:BX8 41 s ts N)(GC:NT 42 (fun x=>#[x,.string ⟨OE.toArray⟩,.int .i64 N]) fs d1 0):oM 30 (fun x=>#[x]) fs ts d1 0:=by
 intro v w hv;simp only[show OE.toArray=#[108,111,103]from rfl]at GC;have HV:=GH hv;obtain⟨a,n,c,rfl⟩:=J4 hv;clear hv;go_enter func30,ntmps30;go_wp2_with fail;have X:=GH (A31.start w (FV a n c));generalize (w.alloc (FW #[FV a n c] 45)).alloc (FW #[FV G6 0 0] 45)=W0 at*;refine(CR _ _ ((G9 HV).next (G9 X).below)).mono ?_;rintro e w1 ⟨rfl,hb1⟩;have X1:=(G9 X).next hb1;have HX1:=GH X1;clear hb1 X X1 CR;go_wp2_with fail;refine(CS _).mono ?_;rintro e w2 ⟨v2,rfl,hl2,hb2⟩;have X2:=(G9 HX1).next hb2;have HL2:=GH hl2;obtain⟨al,cl,rfl⟩:=MH hl2;have cd2:=X2.d.c;have HX2:=GH X2;clear hb2 hl2 X2 HX1 CS;go_wp2_with fail;refine(GC _ _ ((G9 HV).next (G9 HX2).below)).mono ?_;rintro e w3 ⟨a3,n3,c3,rfl,HD3,hb3⟩;have hal:=(AB w3.heap.size w3).alloc (AA _) (FW #[FV a3 n3 c3] 45);have X3:=((G9 HX2).next hb3).next hal;have cr:=X3.r.c;have fr:=X3.r.f;have cy:=(KN.new w3 (FV a3 n3 c3)).c;have hz2:=((G9 HX2).next hb3).r.lt;have hnz:w.heap.size+1≠w3.heap.size:=by omega
 have HF:=GH (And.intro (X3.below.setCell (p:=⟨w.heap.size+1,0,G6⟩) (by show w.heap.size<=w.heap.size+1;omega) (FV a3 n3 c3)) (And.intro (QO ((G9 HD3).next hal) X3.r (FV a3 n3 c3)) (C59 (((G9 HL2).next hb3).next hal) X3.r (FV a3 n3 c3))));clear hb3 hal X3 HX2 HD3 HL2 GC cd2 HV;go_wp2_with fail;generalize w3.alloc (FW #[FV a3 n3 c3] 45)=W3 at*;go_region;go_wp2_with fail;exact bodyPost_ret (v:=.tuple #[FV al ts.length cl,.agg #[FV a3 n3 c3],.int .i64 0]) (by simp[results,results30,go_sem,cr]) rfl ⟨_,_,_,_,_,_,rfl,GH (G9 HF).2.2.drew,GH (G9 HF).2.1.drew,(G9 HF).1.drew⟩
theorem BO1{r:List UInt8}(S:Scan s ts r)(hs:s.length<=1048576):BX8 41 s ts (IJ ts).length:=fun W=>
 (C55 (fun s w h=>AO5 s w h) s r ts W S hs).mono fun _ _ ⟨v,he,ho,hb⟩=>⟨v,he,ho.log,hb⟩
theorem kW(h:Z9 fs ts A B):oM 30 (fun x=>#[x]) fs ts (A++PL ts::B) 0:=by
 have hs:=JX h.good;rcases h.old with⟨h16,G,rfl⟩|⟨f,r,T,S⟩
 .exact fV fs _ 0 (fun v W hv=>A03 v fs OE 7 W hv hs (.inr ⟨h.good,⟨A,B,G⟩,rfl⟩))
   (MX fun v W hv=>bG v fs A B OE [] W hv hs h.good bQ h16 G (by decide))
 .have hf:=NZ (T.ok h.good);have hl:=S.len;rw[AP]at hl;refine AN7 fs _ (f.s++f.t) ts (IJ ts).length (fun v W hv=>oC v fs A B f OE W hv hs h.good T) (BO1 S (by rw[AP];omega)) (MX fun v W hv=>?_);have:=vU v fs A B f OE (IJ ts).length W hv hs h.good T (by omega);rw[S.eq,List.take_left,T.nm]at this;exact this
theorem AC8{z:Int}:∀ {ts:List GV} {k:Nat} {t:GV},ts[k]?=G8 t->(k<(TN z ts).length->t.z<=z)/\(k=(TN z ts).length->¬t.z<=z)
 |[],k,t,h=>by simp at h
 |x::l,0,t,h=>by
  simp at h;subst h;unfold TN;by_cases hx:x.z<=z
  .rw[List.takeWhile_cons_of_pos (by simpa using hx)];simp[hx]
  .rw[List.takeWhile_cons_of_neg (by simpa using hx)];simp;omega
 |x::l,k+1,t,h=>by
  have ih:=AC8 (z:=z) (ts:=l) (k:=k) (t:=t) (by simpa using h);unfold TN at ih⊢;by_cases hx:x.z<=z
  .rw[List.takeWhile_cons_of_pos (by simpa using hx)];simpa using ih
  .rw[List.takeWhile_cons_of_neg (by simpa using hx)];simp
theorem AC9(z:Int)(ts:List GV):ts.take (TN z ts).length=TN z ts/\(TN z ts).length<=ts.length:=by
 obtain⟨b,e⟩:=kN z ts;generalize TN z ts=a at*;subst e;simp
theorem xQ(ts:List GV)(k:Nat):(IJ (ts.take k)).length<=(IJ ts).length:=by
 have:IJ ts=IJ (ts.take k)++IJ (ts.drop k):=by rw[<-LM,DW]
 rw[this];simp
theorem CL7{i:Nat}(h:i=j):Ending.returned (I0 (i:Int))=.returned (I0 (j:Int)):=by rw[h]
theorem BO2(v:FZ)(ts:List GV)(z:Int)(w:FX)(hv:NQ w v ts)(hL:∀t∈ts,gdE t=0)(hs:(IJ ts).length<=1048576):
  G5 prog 140 #[v,I0 z] w (R0 w (I0 ((IJ (TN z ts)).length:Nat))):=by
 have hlen:=qF ts;have HV:=GH hv;have HG:=GH hL;have HK:=GH (AC9 z ts);have HA:=GH (fun k t h=>AC8 (z:=z) (ts:=ts) (k:=k) (t:=t) h);have hK:=(AC9 z ts).2;generalize TN z ts=K at*;obtain⟨a,c,rfl⟩:=MH hv;clear hv hL;go_enter func140,ntmps140;go_wp2_with fail
 go_loopg [5,12] ts.length (fun kx s5 s12 wr=>∃ (k N:Nat),s5=I0 N/\s12=I0 k/\k<=K.length/\ts.length-k<=kx/\Hid ((IJ (ts.take k)).length=N)/\Hid (B0 w wr))
 case atStart=>exact⟨0,0,rfl,rfl,AZ _,by omega,GH rfl,GH (AB _ _)⟩
 case round=>
  obtain⟨k,N,rfl,rfl,hk,hkx,HN,HB⟩:=hrel;by_cases hlt:k<ts.length
  .obtain⟨t,ht⟩:∃t,ts[k]?=G8 t:=⟨_,AO hlt⟩;obtain⟨b,off,cap,he,hb,hr,_,_,_⟩:=ZL ((G9 HV).next (G9 HB)) ht;simp only[Value.slice.injEq,true_and]at he;obtain⟨rfl,rfl⟩:=he;have e0:=hr.z ht;have e1:=hr.o ht;have e2:=hr.s ht;have e3:=hr.p ht;have e4:=hr.d ht;have e5:=hr.v ht;have e6:=hr.w ht;have vT:(k:Int)<(ts.length:Int):=by omega
   have hg:=G9 HG t (List.mem_of_getElem? ht);have C:=fun W=>eP t W hg;have hat:=G9 HA k t ht;have HL:=GH (QC ht);have hN1:=xQ ts (k+1);rw[QC ht,QB,AP,G9 HN]at hN1;clear hr ht hb hg;obtain⟨R,hR⟩:∃R,RI t=R:=⟨_,rfl⟩;rw[hR]at C hN1;have HR:=GH hR;have hzR:(ByteArray.mk R.toArray).size=R.length:=Lib.size_eq ⟨R.toArray⟩;clear hR;have HB2:=fun o=>GH ((G9 HB).alloc (G9 HB).size o);obtain⟨z1,o1,s1,p1,d1,y1,u1⟩:=t;unfold JC at C;simp only at e0 e1 e2 e3 e4 e5 e6;by_cases hlK:k<K.length
   .have hz':¬z<z1:=by have hz:z1<=z:=hat.1 hlK;omega
    clear hat;go_wp2_with fail;refine(C _).mono ?_;rintro e w1 ⟨rfl,hb1⟩;have HB3:=GH (JZ (G9 (HB2 _)) hb1);clear C hb1 HB2 e0 e1 e2 e3 e4 e5 e6;go_wp2_with fail
    go_roundg (ts.length-(k+1))
    case measure=>omega
    case rel=>exact⟨k+1,N+R.length,by simp,by simp,by omega,AA _,GH (by rw[G9 HL,QB,AP,G9 HN,G9 HR]),HB3⟩
   .have hz':z<z1:=hat.2 (by omega);have hN2:(IJ K).length=N:=by rw[<-(G9 HK).1,show K.length=k from by omega];exact G9 HN
    have HN2:=GH hN2;clear hat hN2 C;go_wp2_with fail;go_ret;exact⟨CL7 (G9 HN2).symm,G9 (HB2 _)⟩
  .have hki:¬ ((k:Int)<(ts.length:Int)):=by omega
   have hN2:(IJ K).length=N:=by rw[<-(G9 HK).1,show K.length=k from by omega];exact G9 HN
   have HN2:=GH hN2;clear hN2;go_wp2_with fail;go_ret;exact⟨CL7 (G9 HN2).symm,G9 HB⟩
theorem B59(fs d1 d2:List DF)(ts:List GV)(z:Int)(N:Nat)(GR:oM 30 (fun x=>#[x]) fs ts d1 0)(CU:∀v W,NQ W v ts->G5 prog 140 #[v,.int .i64 z] W fun e w'=>e=.returned (.int .i64 N)/\Below W.heap.size W w')
  (GC:NT 42 (fun x=>#[x,.string ⟨OE.toArray⟩,.int .i64 N]) d1 d2 0):NT 99 (fun x=>#[x,.int .i64 z]) fs d2 0:=by
 intro v w hv;simp only[show OE.toArray=#[108,111,103]from rfl]at GC;have HV:=GH hv;have HGC:=GH GC;have HCU:=GH CU;obtain⟨a,n,c,rfl⟩:=J4 hv;clear hv GC CU;go_enter func99,ntmps99;go_wp2_with fail;have X:=GH (A31.start w (FV a n c));generalize (w.alloc (FW #[FV a n c] 45)).alloc (FW #[FV G6 0 0] 45)=W0 at*;refine(GR _ _ ((G9 HV).next (G9 X).below)).mono ?_;rintro e w1 ⟨a1,k1,c1,a2,n2,c2,rfl,HL1,HD1,hb1⟩;have X1:=(G9 X).next hb1;have hal:=(AB w1.heap.size w1).alloc (AA _) (FW #[FV a2 n2 c2] 45);have HX2:=GH (X1.next hal);have HY2:=GH (KN.new w1 (FV a2 n2 c2));have HL2:=GH ((G9 HL1).next hal);have HD2:=GH ((G9 HD1).next hal);clear hb1 X X1 hal GR HV HL1 HD1;go_wp2_with fail;generalize w1.alloc (FW #[FV a2 n2 c2] 45)=W1 at*;have cy:=(G9 HY2).c
 go_region_with (first
  |(go_at_call 140;refine(G9 HCU _ _ (G9 HL2).drew).mono ?_;rintro e w2 ⟨rfl,hb⟩;have hb':=UO hb;have HX3:=GH ((G9 HX2).next hb');have HD3:=GH ((G9 HD2).next hb');have cy3:=((G9 HY2).next hb').c;clear hb hb')
  |(go_at_call 42;refine(G9 HGC _ _ (G9 HD3)).mono ?_;rintro e w3 ⟨a3,n3,c3,rfl,HD4,hb⟩;have X4:=(G9 HX3).next hb;have cr4:=X4.r.c;have fr4:=X4.r.f;have HF:=GH (And.intro (X4.below.setCell (p:=⟨w.heap.size+1,0,G6⟩) (by show w.heap.size<=w.heap.size+1;omega) (FV a3 n3 c3)) (QO (G9 HD4) X4.r (FV a3 n3 c3)));clear hb X4 HX3 HD3 HD4))
 all_goals go_wp2_with fail
 all_goals exact bodyPost_ret (v:=.tuple #[.agg #[FV a3 n3 c3],.int .i64 0]) (by simp[results,results99,go_sem,cr4]) rfl ⟨_,_,_,rfl,GH (G9 HF).2,(G9 HF).1⟩
theorem BO5(h:Z9 fs ts A B)(z:Int):NT 99 (fun x=>#[x,.int .i64 z]) fs (A++PL (TN z ts)::B) 0:=by
 refine B59 fs _ _ ts z (IJ (TN z ts)).length (kW h) (fun v W hv=>BO2 v ts z W hv h.log.good h.short) (MX fun v W hv=>?_);have g:=h.after h.short;have hk:=AN5 z ts;have:=vU v _ A B (PL ts) OE (IJ (TN z ts)).length W hv (JX g) g (h.there ts) (by simp only[PL,List.length_nil,Nat.add_zero];exact hk.2);simp only[PL,List.append_nil,hk.1]at this⊢;exact this
