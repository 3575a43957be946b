/-
  Part.
-/
import Derived.Test.YtkpojhhfjddegaaGreatDoorLOI
import Derived.Test.YtkpojhhfjddegaaGreatDoorLOH
set_option maxRecDepth 20000
set_option maxHeartbeats 8000000
namespace Go.Proofs.YtkpojhhfjddegaaGreatDoor
open Go.RowKit Go.Proofs.Tryz
open _root_.Nat renaming le_refl->A8,zero_le->AZ
open Go.RowKit.Below renaming refl->AA,heap_setCell->BG
open _root_.List renaming getElem?_eq_getElem->AO,length_append->AP,append_assoc->BZ,take_append_drop->DW,take_length->DX
open Go.Value renaming slice->FV
open Go.Obj renaming cells->FW
open Go renaming World->FX,Value->FZ,Calls->G5
open _root_.Option renaming none->G6,some->G7
variable{a:Option Addr}{c k j:Nat}{W w:FX}{B fs A:List DF}{ts:List GU}{s:List UInt8}{v:FZ}
theorem JY{a b c:FX}(h:B0 a b)(k:B0 b c):B0 a c:=h.trans (k.mono h.size)
theorem TD(v:FZ)(ts:List GU)(w:FX)(hv:NI w v ts):
  G5 prog 59 #[v] w fun e w'=>e=.returned (I0 (J6 ts))/\w'=w:=by
 by_cases h0:ts.length=0
 .obtain⟨a,c,rfl⟩:=MH hv;obtain rfl:=List.length_eq_zero_iff.1 h0;clear hv h0;rw[XE];go_enter func59,ntmps59;go_wp2_with fail;go_ret;exact⟨rfl,rfl⟩
 .obtain⟨m,x,rfl⟩:=AW8 h0;have hi:(m++[x])[m.length]?=G7 x:=by simp
  obtain⟨b,off,cap,rfl,hb,hr,hlt,hc,hm⟩:=ZV hv hi;have e:=hr.z hi;have hl:(m++[x]).length=m.length+1:=by simp
  rw[UU,hl];simp only[maxLen]at hm;rw[hl]at hc;have hM:m.length<9223372036854775807:=by omega
  clear hv h0 hr hi hl hlt hc hm;generalize m.length=k at*;go_enter func59,ntmps59;go_wp2_with fail;go_ret;exact⟨rfl,rfl⟩
theorem lG(t:GU)(v:FZ)(ts:List GU)(w:FX)(hv:NI w v ts):
  G5 prog 101 #[JA t,v] w (R0 w (.bool (jV ts t))):=by
 have C:=fun W (h:B0 w W)=>TD v ts W (hv.next h);obtain⟨a,c,rfl⟩:=MH hv;obtain⟨z,o,s,p,d,y,u⟩:=t;unfold JA;by_cases h0:ts.length=0
 .have hf:jV ts ⟨z,o,s,p,d,y,u⟩=true:=by simp[jV,h0]
  rw[hf,h0];clear C hv hf;go_enter func101,ntmps101;go_wp2_with fail;go_region;go_wp2_with fail;go_ret;exact⟨rfl,((AA _ _).alloc (A8 _) _).drew⟩
 .have hf:jV ts ⟨z,o,s,p,d,y,u⟩=decide (J6 ts<z):=by rw[oD h0]
  rw[hf];generalize J6 ts=L at*;have h0i:((ts.length:Int)==0)=false:=by simpa using h0
  clear hv hf;go_enter func101,ntmps101;go_wp2_with fail
  go_region_with (first|(go_at_call 59;refine(C _ ?_).mono ?_;exact(((AA _ _).alloc (A8 _) _).drew);rintro e w1 ⟨rfl,rfl⟩))
  all_goals go_wp2_with fail
  all_goals go_ret
  all_goals exact⟨rfl,((AA _ _).alloc (A8 _) _).drew⟩
theorem C86{B:Nat}(h:nS W B (FV a k c) ts)(hk:ts.length=k)(O:Obj)(V:FX)(e:V=W.alloc O):V.ownsRow B 83 7 (FV a k c) k (KC ts):=by
 subst e;have:=h.next ((AA _ _).alloc (A8 _) O);unfold nS at this;rwa[hk]at this
theorem BQ1(W:FX)(t:GU)(j:Nat)(u:FZ)(h:(N7 t)[j]?=G7 u):(W.alloc (FW #[I0 t.z,I0 t.o,I0 t.s,S0 t.p,S0 t.d,I0 t.v,I0 t.w] 83)).cell? ((⟨W.heap.size,0,G6⟩:Addr).add j)=G7 u:=by
 rw[Addr.add_lit];show World.cell? _ ⟨W.heap.size,0+j,G6⟩=_;rw[Nat.zero_add];have e:=heap_alloc_new W (FW #[I0 t.z,I0 t.o,I0 t.s,S0 t.p,S0 t.d,I0 t.v,I0 t.w] 83);simp only[World.cell?,e];have:(#[I0 t.z,I0 t.o,I0 t.s,S0 t.p,S0 t.d,I0 t.v,I0 t.w]:Array FZ)[j]?=(N7 t)[j]? :=by simp[N7]
 rw[this,h];rfl
theorem BQ2{w W V:FX}{B k c:Nat}{a:Option Addr}{ts:List GU}{t:GU}{O:Obj}{v':FZ}(hb:B0 w W)(h:nS W B (FV a k c) ts)(hB:w.heap.size<=B)(hk:ts.length=k)
  (hown:V.ownsRow B 83 7 v' (k+1) (KC ts++N7 t)) (hg:(W.alloc O).grownBy V (Value.slice a k c).ownBlock):
  ∃a' c',v'=FV a' (k+1) c'/\nS V B (FV a' (k+1) c') (ts++[t])/\B0 w V:=by
 subst hk;have ho:=nS.more hown;obtain⟨a',c',rfl⟩:=AM2 ho;rw[AP]at ho;refine⟨a',c',by rw[AP];rfl,ho,?_⟩;have h1:B0 w (W.alloc O):=hb.alloc hb.size O;exact h1.grown hg h1.size fun q e=>Nat.le_trans hB (AM3 h q e).1
def CY8:Prop:=∀ (s:List UInt8) (w:FX),s.length<=140737488355328->
  G5 prog 100 #[S0 s] w (R0 w (.tuple #[JA (oC s),I0 (uV s),I0 (eG s)]))
theorem B73{r:List UInt8}(S:Scan s ts r)(k:Nat):s.drop (IG (ts.take k)).length=IG (ts.drop k)++r/\(IG (ts.take k)).length<=s.length:=by
 have e:s=IG (ts.take k)++(IG (ts.drop k)++r):=by rw[<-BZ,<-LK,DW];exact S.eq
 generalize IG (ts.take k)=X at*;subst e;simp
theorem pU{t:GU}(h:ts[k]?=G7 t):ts.drop k=t::ts.drop (k+1):=by
 obtain⟨hk,rfl⟩:=List.getElem?_eq_some_iff.1 h;exact List.drop_eq_getElem_cons hk
theorem C87(L:Logs ts){t:GU}(h:ts[k]?=G7 t):gdE t=0/\jV (ts.take k) t=true:=by
 have e:ts=ts.take k++t::ts.drop (k+1):=by rw[<-pU h,DW]
 rw[e]at L;exact L.at
theorem C06{i:Nat}(h:i=j):Ending.returned (.tuple #[v,I0 i])=.returned (.tuple #[v,I0 j]):=by rw[h]
theorem C88(CD:CY8)(s r:List UInt8)(ts:List GU)(w:FX)(S:Scan s ts r)(hs:s.length<=1048576):
  G5 prog 62 #[S0 s] w fun e w'=>∃v,e=.returned (.tuple #[v,I0 ((IG ts).length:Nat)])/\nS w' w.heap.size v ts/\B0 w w':=by
 obtain⟨i0,hi0,hz0,hz1,hz2⟩:=rP;have hzs:(ByteArray.mk s.toArray).size=s.length:=Lib.size_eq ⟨s.toArray⟩;have hts:ts.length*31<=1048576:=by have:=qY ts;have:=S.len;omega
 have HS:=G9 S;have HCD:=G9 CD;clear S CD;go_enter func62,ntmps62;go_wp2_with fail
 go_loopg [4,5] ts.length (fun kx s4 s5 wr=>∃ (k N:Nat) (a:Option Addr) (c:Nat),s4=FV a k c/\s5=I0 N/\k<=ts.length/\ts.length-k<=kx/\Hid ((IG (ts.take k)).length=N)/\Hid (nS wr w.heap.size (FV a k c) (ts.take k)/\B0 w wr))
 case atStart=>exact⟨0,0,G6,0,rfl,rfl,AZ _,by omega,G9 rfl,G9 ⟨nS.nil _ _,AA _ _⟩⟩
 case round=>
  obtain⟨k,N,a,c,rfl,rfl,hk,hkx,HN,hI⟩:=hrel;have h1:=B73 (G8 HS) k;rw[G8 HN]at h1;obtain⟨hd,hNs⟩:=h1;have hx:(ByteArray.mk s.toArray).extract N s.length=⟨(s.drop N).toArray⟩:=B71 s N;have hMl:(ts.take k).length=k:=by simp;omega
  by_cases hlt:k<ts.length
  .obtain⟨t,ht⟩:∃t,ts[k]?=G7 t:=⟨_,AO hlt⟩;have hgf:=C87 (G8 HS).log ht;rw[pU ht,IG,BZ]at hd;have C:=fun W=>G8 HCD (s.drop N) W (by rw[List.length_drop];omega);have hdr:=C35 hgf.1 (IG (ts.drop (k+1))++r);rw[<-hd]at hdr;rw[hdr.1,hdr.2.1,hdr.2.2]at C;have hrl:=jW hgf.1;have hNN:=B73 (G8 HS) (k+1);rw[QH ht,QG,AP,G8 HN]at hNN;have hNL:=hNN.2;have CF:=fun v W (h:NI W v (ts.take k))=>lG t v (ts.take k) W h;rw[hgf.2]at CF;have HT:=G9 (QH ht);have HM:=G9 hMl;clear hd hdr hgf hNN hMl ht;obtain⟨Y,hY⟩:∃Y,s.drop N=Y:=⟨_,rfl⟩;rw[hY]at hx C;obtain⟨L,hL⟩:∃L,(RV t).length=L:=⟨_,rfl⟩;rw[hL]at C hNL hrl;have HL:=G9 hL;obtain⟨M,hM⟩:∃M,ts.take k=M:=⟨_,rfl⟩;rw[hM]at hI HT HM CF HN;have HCF:=G9 CF;clear hY hL hM CF;obtain⟨z,o,s1,p,d,y,u⟩:=t;unfold JA at C HCF;go_wp2_with fail;refine(C _).mono ?_;rintro e w1 ⟨rfl,hb1⟩;have hal:=(AA w1.heap.size w1).alloc (A8 _) (FW #[I0 z,I0 o,I0 s1,S0 p,S0 d,I0 y,I0 u] 83);have HB1:=G9 (JY (JY (G8 hI).2 hb1) hal);have HO1:=G9 (((G8 hI).1.next hb1).next hal);have T1:=G9 (TAt.new w1 ⟨z,o,s1,p,d,y,u⟩);clear C hb1 hal hI;go_wp2_with fail;generalize w1.alloc (FW #[I0 z,I0 o,I0 s1,S0 p,S0 d,I0 y,I0 u] 83)=W1 at*;refine(G8 HCF _ _ (G8 HO1).log).mono ?_;rintro e w3 ⟨rfl,hb3⟩;have HB3:=G9 (JY (G8 HB1) hb3);have HO3:=G9 ((G8 HO1).next hb3);have T3:=(G8 T1).next hb3;have c0:=T3.c0;have c1:=T3.c1;have c2:=T3.c2;have c3:=T3.c3;have c4:=T3.c4;have c5:=T3.c5;have c6:=T3.c6;clear hb3 HB1 HO1 T1 T3 HCF;have HRW:=G9 (C86 (G8 HO3) (G8 HM));have HC2:=G9 (BQ1 w3 ⟨z,o,s1,p,d,y,u⟩);have h4:Hid (k+1<=maxLen):=by unfold Hid;simp only[maxLen];omega
   have h5:Hid ((k+1)*72<=140737488355328):=by unfold Hid;omega
   have h6:Hid (∀O1,w.heap.size<=(w3.alloc O1).heap.size):=fun O1=>by have:=(G8 HB3).size;simp;omega
   go_wp2_with (at_builtin;refine wpList_append_own _ rfl _ _ 46 rfl w.heap.size 83 i0 _ 7 72 underlying46 hi0 hz0 hz1 hz2 rfl (by decide) _ k (KC M) rfl (G8 HRW _ _ rfl) ⟨w3.heap.size,0,G6⟩ 1 1 (N7 ⟨z,o,s1,p,d,y,u⟩) rfl rfl (G8 HC2) (oU _) (G8 h4) (G8 h5) (G8 h6 _) ?_);intro v' w5 hown hgrow _;obtain⟨a5,cc5,rfl,ho5,hb5⟩:=BQ2 (G8 HB3) (G8 HO3) (A8 _) (G8 HM) hown hgrow;have HZ:=G9 (And.intro ho5 hb5);clear hown hgrow ho5 hb5 HRW HC2 h4 h5 h6 HB3 HO3 c0 c1 c2 c3 c4 c5 c6;go_wp2_with fail
   go_roundg (ts.length-(k+1))
   case measure=>omega
   case rel=>exact⟨k+1,N+L,a5,cc5,rfl,by simp,by omega,A8 _,G9 (by rw[G8 HT,QG,AP,G8 HN,G8 HL]),G9 (by rw[G8 HT];exact G8 HZ)⟩
  .obtain rfl:k=ts.length:=by omega
   rw[List.drop_length,IG,List.nil_append]at hd;have C:=fun W=>G8 HCD (s.drop N) W (by rw[List.length_drop];omega);rw[hd]at C hx;have hst:=(G8 HS).stop;have HI:=G9 (by have:=G8 hI;rw[DX]at this;exact this:nS wr w.heap.size (FV a ts.length c) ts/\B0 w wr);have HN2:=G9 (by have:=G8 HN;rw[DX]at this;exact this:(IG ts).length=N);clear hd hMl hlt hI;by_cases he:eG r=0
   .have hf:jV ts (oC r)=false:=by
     rcases hst with h|h
     .exact absurd he h
     .exact h
    have CF:=fun v W (h:NI W v ts)=>lG (oC r) v ts W h;rw[hf]at CF;rw[he]at C;have HCF:=G9 CF;clear hst hf CF;obtain⟨D,hD⟩:∃D,uV r=D:=⟨_,rfl⟩;rw[hD]at C;clear hD he;obtain⟨t,ht⟩:∃t,oC r=t:=⟨_,rfl⟩;rw[ht]at C HCF;clear ht;obtain⟨z,o,s1,p,d,y,u⟩:=t;unfold JA at C HCF;go_wp2_with fail;refine(C _).mono ?_;rintro e w1 ⟨rfl,hb1⟩;have hal:=(AA w1.heap.size w1).alloc (A8 _) (FW #[I0 z,I0 o,I0 s1,S0 p,S0 d,I0 y,I0 u] 83);have HB1:=G9 (JY (JY (G8 HI).2 hb1) hal);have HO1:=G9 (((G8 HI).1.next hb1).next hal);clear C hb1 hal HI;go_wp2_with fail;generalize w1.alloc (FW #[I0 z,I0 o,I0 s1,S0 p,S0 d,I0 y,I0 u] 83)=W1 at*;refine(G8 HCF _ _ (G8 HO1).log).mono ?_;rintro e w3 ⟨rfl,hb3⟩;have HB3:=G9 (JY (G8 HB1) hb3);have HO3:=G9 ((G8 HO1).next hb3);clear hb3 HB1 HO1 HCF;go_wp2_with fail
    go_ret2
    exact⟨FV a ts.length c,C06 (G8 HN2).symm,G8 HO3,G8 HB3⟩
   .have hne:(eG r !=0)=true:=by simpa using he
    clear hst he;obtain⟨D,hD⟩:∃D,uV r=D:=⟨_,rfl⟩;rw[hD]at C;clear hD;obtain⟨E,hE⟩:∃E,eG r=E:=⟨_,rfl⟩;rw[hE]at C hne;clear hE;obtain⟨t,ht⟩:∃t,oC r=t:=⟨_,rfl⟩;rw[ht]at C;clear ht;obtain⟨z,o,s1,p,d,y,u⟩:=t;unfold JA at C;go_wp2_with fail;refine(C _).mono ?_;rintro e w1 ⟨rfl,hb1⟩;have hal:=(AA w1.heap.size w1).alloc (A8 _) (FW #[I0 z,I0 o,I0 s1,S0 p,S0 d,I0 y,I0 u] 83);have HB1:=G9 (JY (JY (G8 HI).2 hb1) hal);have HO1:=G9 (((G8 HI).1.next hb1).next hal);clear C hb1 hal HI;go_wp2_with fail
    go_ret2
    exact⟨FV a ts.length c,C06 (G8 HN2).symm,G8 HO1,G8 HB1⟩
def O9:List UInt8:=[108,111,103]
theorem dD:JC O9=true:=by decide
def PS(ts:List GU):DF:=⟨O9,IG ts,[]⟩
structure ZJ(fs:List DF)(ts:List GU)(A B:List DF):Prop where
 good:LV fs
 log:Logs ts
 old:(fs.length<16/\Gap fs A B O9/\ts=[])\/∃f r,There fs A f B O9/\Scan (f.s++f.t) ts r
theorem ZJ.short(h:ZJ fs ts A B):(IG ts).length<=1048576:=by
 rcases h.old with⟨_,_,rfl⟩|⟨f,r,T,S⟩
 .simp[IG]
 .have h1:=S.len;have h2:=NW (T.ok h.good);rw[AP]at h1;omega
theorem ZJ.there(h:ZJ fs ts A B)(us:List GU):There (A++PS us::B) A (PS us) B O9:=by
 rcases h.old with⟨_,G,_⟩|⟨f,r,T,_⟩
 .exact G.ins rfl
 .exact T.set rfl
theorem ZJ.after(h:ZJ fs ts A B){us:List GU}(hu:(IG us).length<=1048576):LV (A++PS us::B):=by
 have hl:(PS us).s.length+(PS us).t.length<=1048576:=by simp[PS];exact hu
 rcases h.old with⟨h16,G,_⟩|⟨f,r,T,_⟩
 .exact rW h.good G dD h16 rfl hl
 .have g:=h.good;rw[T.eq]at g;exact BL6 g T.nm.symm hl
theorem sU(name:List UInt8):Gap [] [] [] name:=⟨rfl,by simp,by simp⟩
theorem Y8:LV []:=⟨by simp,by simp,List.Pairwise.nil⟩
theorem dF{t:List UInt8}(h:s.length+t.length<=1048576):LV [⟨O9,s,t⟩]:=
 rW Y8 (sU O9) dD (by simp) (f':=⟨O9,s,t⟩) rfl h
def UA(z:Int)(ts:List GU):List GU:=ts.takeWhile fun t=>decide (t.z<=z)
theorem lI(z:Int)(ts:List GU):∃b,ts=UA z ts++b:=⟨ts.dropWhile fun t=>decide (t.z<=z),(List.takeWhile_append_dropWhile ..).symm⟩
theorem AQ7(z:Int)(ts:List GU):(IG ts).take (IG (UA z ts)).length=IG (UA z ts)/\(IG (UA z ts)).length<=(IG ts).length:=by
 obtain⟨b,e⟩:=lI z ts;generalize UA z ts=a at*;subst e;rw[LK];simp
theorem QX(h:IW W v fs){n:Nat}(hb:KN W k (FV a n c))(u:FZ):IW (W.setCell ⟨k,0,G6⟩ u) v fs:=by
 rcases h with h|⟨b,off,cap,rfl,h1,h2,h3,h0,h4⟩
 .exact .inl h
 .have hne:b≠k:=by
   rintro rfl;obtain⟨f,r,rfl⟩:∃f r,fs=f::r:=by
    cases fs with
    |nil=>exact absurd rfl h0
    |cons f r=>exact⟨f,r,rfl⟩
   have e:=h4.c0 (i:=0) (f:=f) rfl;unfold KN at hb;simp only[World.cell?,hb]at e
   cases off with
   |zero=>simp at e
   |succ m=>simp at e
  refine .inr ⟨b,off,cap,rfl,h1,h2,by simpa [World.setCell]using h3,h0,fun j x hj=>?_⟩;rw[<-h4 j x hj];exact World.cell?_of_block (BG W ⟨k,0,G6⟩ u b hne)
theorem C92(h:NI W v ts){n:Nat}(hb:KN W k (FV a n c))(u:FZ):NI (W.setCell ⟨k,0,G6⟩ u) v ts:=by
 rcases h with h|⟨b,off,cap,rfl,h1,h2,h3,h0,h4⟩
 .exact .inl h
 .have hne:b≠k:=by
   rintro rfl;obtain⟨f,r,rfl⟩:∃f r,ts=f::r:=by
    cases ts with
    |nil=>exact absurd rfl h0
    |cons f r=>exact⟨f,r,rfl⟩
   have e:=h4.z (i:=0) (t:=f) rfl;unfold KN at hb;simp only[World.cell?,hb]at e
   cases off with
   |zero=>simp at e
   |succ m=>simp at e
  refine .inr ⟨b,off,cap,rfl,h1,h2,by simpa [World.setCell]using h3,h0,fun j x hj=>?_⟩;rw[<-h4 j x hj];exact World.cell?_of_block (BG W ⟨k,0,G6⟩ u b hne)
theorem KN.other(h:KN W k v)(hj:k≠j)(u:FZ):KN (W.setCell ⟨j,0,G6⟩ u) k v:=(BG W ⟨j,0,G6⟩ u k hj).trans h
theorem KN.lt(h:KN W k v):k<W.heap.size:=by unfold KN at h;exact(Array.getElem?_eq_some_iff.1 h).1
structure C93(w W:FX)(v:FZ):Prop where
 below:Below w.heap.size w W
 d:KN W w.heap.size v
 r:KN W (w.heap.size+1+1) (FV G6 0 0)
theorem C93.next{V:FX}(h:C93 w W v)(hb:Below W.heap.size W V):C93 w V v:=⟨JY h.below hb,h.d.next hb,h.r.next hb⟩
theorem C93.start(w:FX)(v:FZ)(o:Obj):C93 w (((w.alloc (FW #[v] 45)).alloc o).alloc (FW #[FV G6 0 0] 45)) v:=by
 have b1:Below (w.alloc (FW #[v] 45)).heap.size (w.alloc (FW #[v] 45)) ((w.alloc (FW #[v] 45)).alloc o):=(AA _ _).alloc (A8 _) _;have b2:Below ((w.alloc (FW #[v] 45)).alloc o).heap.size ((w.alloc (FW #[v] 45)).alloc o) (((w.alloc (FW #[v] 45)).alloc o).alloc (FW #[FV G6 0 0] 45)):=(AA _ _).alloc (A8 _) _;have b0:Below w.heap.size w (w.alloc (FW #[v] 45)):=(AA _ _).alloc (A8 _) _;refine⟨JY (JY b0 b1) b2,((KN.new w v).next b1).next b2,?_⟩;have h:=KN.new ((w.alloc (FW #[v] 45)).alloc o) (FV G6 0 0);have hz:((w.alloc (FW #[v] 45)).alloc o).heap.size=w.heap.size+1+1:=by simp
 rw[hz]at h;exact h
structure A54(w W:FX)(v:FZ):Prop where
 below:Below w.heap.size w W
 d:KN W w.heap.size v
 r:KN W (w.heap.size+1) (FV G6 0 0)
theorem A54.next{V:FX}(h:A54 w W v)(hb:Below W.heap.size W V):A54 w V v:=⟨JY h.below hb,h.d.next hb,h.r.next hb⟩
theorem A54.setd(h:A54 w W v)(u:FZ):A54 w (W.setCell ⟨w.heap.size,0,G6⟩ u) u:=⟨h.below.setCell (A8 _) u,h.d.set u,h.r.other (by omega) u⟩
theorem A54.start(w:FX)(v:FZ):A54 w ((w.alloc (FW #[v] 45)).alloc (FW #[FV G6 0 0] 45)) v:=by
 have b1:Below w.heap.size w (w.alloc (FW #[v] 45)):=(AA _ _).alloc (A8 _) _;have b2:Below (w.alloc (FW #[v] 45)).heap.size (w.alloc (FW #[v] 45)) ((w.alloc (FW #[v] 45)).alloc (FW #[FV G6 0 0] 45)):=(AA _ _).alloc (A8 _) _;refine⟨JY b1 b2,(KN.new w v).next b2,?_⟩;have h:=KN.new (w.alloc (FW #[v] 45)) (FV G6 0 0);have hz:(w.alloc (FW #[v] 45)).heap.size=w.heap.size+1:=by simp
 rw[hz]at h;exact h
def pV(f:FuncId)(args:FZ->Array FZ)(fs:List DF)(ts:List GU)(d:List DF)(E:Int):Prop:=∀v W,IW W v fs->G5 prog f (args (.agg #[v])) W fun e w'=>∃a1 k1 c1 a n c,e=.returned (.tuple #[FV a1 k1 c1,.agg #[FV a n c],.int .i64 E])/\Hid (NI w' (FV a1 k1 c1) ts)/\Hid (IW w' (FV a n c) d)/\Below W.heap.size W w'
def C07(f:FuncId)(fs:List DF)(s:List UInt8)(E:Int):Prop:=∀v W,IW W v fs->G5 prog f #[.agg #[v],.string ⟨#[108,111,103]⟩] W fun e w'=>e=.returned (.tuple #[.string ⟨s.toArray⟩,.int .i64 E])/\Below W.heap.size W w'
def C08(f:FuncId)(s:List UInt8)(ts:List GU)(n:Nat):Prop:=∀W,G5 prog f #[.string ⟨s.toArray⟩] W fun e w'=>∃v,e=.returned (.tuple #[v,.int .i64 n])/\NI w' v ts/\Below W.heap.size W w'
theorem iD(fs d1:List DF)(E:Int)(CR:C07 60 fs [] 7)(GW:NK 61 (fun x=>#[x,.string ⟨O9.toArray⟩,.string ⟨(([]:List UInt8)).toArray⟩]) fs d1 E):pV 41 (fun x=>#[x]) fs [] d1 E:=by
 intro v w hv;simp only[show O9.toArray=#[108,111,103]from rfl]at GW;have HV:=G9 hv;obtain⟨a,n,c,rfl⟩:=J3 hv;clear hv;go_enter func41,ntmps41;go_wp2_with fail;have X:=G9 (A54.start w (FV a n c));generalize (w.alloc (FW #[FV a n c] 45)).alloc (FW #[FV G6 0 0] 45)=W0 at*;refine(CR _ _ ((G8 HV).next (G8 X).below)).mono ?_;rintro e w1 ⟨rfl,hb1⟩;have X1:=(G8 X).next hb1;have cd:=X1.d.c;have HX1:=G9 X1;clear hb1 X X1 CR;go_wp2_with fail;refine(GW _ _ ((G8 HV).next (G8 HX1).below)).mono ?_;rintro e w2 ⟨a2,n2,c2,rfl,HD2,hb2⟩;have hal:=(AA w2.heap.size w2).alloc (A8 _) (FW #[FV a2 n2 c2] 45);have X2:=((G8 HX1).next hb2).next hal;have cr:=X2.r.c;have fr:=X2.r.f;have cy:=(KN.new w2 (FV a2 n2 c2)).c;have hz2:=((G8 HX1).next hb2).r.lt;have hnz:w.heap.size+1≠w2.heap.size:=by omega
 have HF:=G9 (And.intro (X2.below.setCell (p:=⟨w.heap.size+1,0,G6⟩) (by show w.heap.size<=w.heap.size+1;omega) (FV a2 n2 c2)) (QX ((G8 HD2).next hal) X2.r (FV a2 n2 c2)));clear hb2 hal X2 HX1 HD2 GW cd HV;go_wp2_with fail;generalize w2.alloc (FW #[FV a2 n2 c2] 45)=W2 at*;go_region;go_wp2_with fail;exact bodyPost_ret (v:=.tuple #[FV G6 0 0,.agg #[FV a2 n2 c2],.int .i64 E]) (by simp[results,results41,go_sem,cr]) rfl ⟨_,_,_,_,_,_,rfl,G9 (NI.nil _),G9 (G8 HF).2.drew,(G8 HF).1.drew⟩
theorem AQ9(fs d1:List DF)(s:List UInt8)(ts:List GU)(N:Nat)(CR:C07 60 fs s 0)(CS:C08 62 s ts N)(GC:NK 63 (fun x=>#[x,.string ⟨O9.toArray⟩,.int .i64 N]) fs d1 0):pV 41 (fun x=>#[x]) fs ts d1 0:=by
 intro v w hv;simp only[show O9.toArray=#[108,111,103]from rfl]at GC;have HV:=G9 hv;obtain⟨a,n,c,rfl⟩:=J3 hv;clear hv;go_enter func41,ntmps41;go_wp2_with fail;have X:=G9 (A54.start w (FV a n c));generalize (w.alloc (FW #[FV a n c] 45)).alloc (FW #[FV G6 0 0] 45)=W0 at*;refine(CR _ _ ((G8 HV).next (G8 X).below)).mono ?_;rintro e w1 ⟨rfl,hb1⟩;have X1:=(G8 X).next hb1;have HX1:=G9 X1;clear hb1 X X1 CR;go_wp2_with fail;refine(CS _).mono ?_;rintro e w2 ⟨v2,rfl,hl2,hb2⟩;have X2:=(G8 HX1).next hb2;have HL2:=G9 hl2;obtain⟨al,cl,rfl⟩:=MH hl2;have cd2:=X2.d.c;have HX2:=G9 X2;clear hb2 hl2 X2 HX1 CS;go_wp2_with fail;refine(GC _ _ ((G8 HV).next (G8 HX2).below)).mono ?_;rintro e w3 ⟨a3,n3,c3,rfl,HD3,hb3⟩;have hal:=(AA w3.heap.size w3).alloc (A8 _) (FW #[FV a3 n3 c3] 45);have X3:=((G8 HX2).next hb3).next hal;have cr:=X3.r.c;have fr:=X3.r.f;have cy:=(KN.new w3 (FV a3 n3 c3)).c;have hz2:=((G8 HX2).next hb3).r.lt;have hnz:w.heap.size+1≠w3.heap.size:=by omega
 have HF:=G9 (And.intro (X3.below.setCell (p:=⟨w.heap.size+1,0,G6⟩) (by show w.heap.size<=w.heap.size+1;omega) (FV a3 n3 c3)) (And.intro (QX ((G8 HD3).next hal) X3.r (FV a3 n3 c3)) (C92 (((G8 HL2).next hb3).next hal) X3.r (FV a3 n3 c3))));clear hb3 hal X3 HX2 HD3 HL2 GC cd2 HV;go_wp2_with fail;generalize w3.alloc (FW #[FV a3 n3 c3] 45)=W3 at*;go_region;go_wp2_with fail;exact bodyPost_ret (v:=.tuple #[FV al ts.length cl,.agg #[FV a3 n3 c3],.int .i64 0]) (by simp[results,results41,go_sem,cr]) rfl ⟨_,_,_,_,_,_,rfl,G9 (G8 HF).2.2.drew,G9 (G8 HF).2.1.drew,(G8 HF).1.drew⟩
theorem BR2{r:List UInt8}(S:Scan s ts r)(hs:s.length<=1048576):C08 62 s ts (IG ts).length:=fun W=>
 (C88 (fun s w h=>AR6 s w h) s r ts W S hs).mono fun _ _ ⟨v,he,ho,hb⟩=>⟨v,he,ho.log,hb⟩
theorem lT(h:ZJ fs ts A B):pV 41 (fun x=>#[x]) fs ts (A++PS ts::B) 0:=by
 have hs:=JW h.good;rcases h.old with⟨h16,G,rfl⟩|⟨f,r,T,S⟩
 .exact iD fs _ 0 (fun v W hv=>A26 v fs O9 7 W hv hs (.inr ⟨h.good,⟨A,B,G⟩,rfl⟩))
   (MV fun v W hv=>bU v fs A B O9 [] W hv hs h.good dD h16 G (by decide))
 .have hf:=NW (T.ok h.good);have hl:=S.len;rw[AP]at hl;refine AQ9 fs _ (f.s++f.t) ts (IG ts).length (fun v W hv=>pF v fs A B f O9 W hv hs h.good T) (BR2 S (by rw[AP];omega)) (MV fun v W hv=>?_);have:=wM v fs A B f O9 (IG ts).length W hv hs h.good T (by omega);rw[S.eq,List.take_left,T.nm]at this;exact this
theorem AF4{z:Int}:∀ {ts:List GU} {k:Nat} {t:GU},ts[k]?=G7 t->(k<(UA z ts).length->t.z<=z)/\(k=(UA z ts).length->¬t.z<=z)
 |[],k,t,h=>by simp at h
 |x::l,0,t,h=>by
  simp at h;subst h;unfold UA;by_cases hx:x.z<=z
  .rw[List.takeWhile_cons_of_pos (by simpa using hx)];simp[hx]
  .rw[List.takeWhile_cons_of_neg (by simpa using hx)];simp;omega
 |x::l,k+1,t,h=>by
  have ih:=AF4 (z:=z) (ts:=l) (k:=k) (t:=t) (by simpa using h);unfold UA at ih⊢;by_cases hx:x.z<=z
  .rw[List.takeWhile_cons_of_pos (by simpa using hx)];simpa using ih
  .rw[List.takeWhile_cons_of_neg (by simpa using hx)];simp
theorem AF5(z:Int)(ts:List GU):ts.take (UA z ts).length=UA z ts/\(UA z ts).length<=ts.length:=by
 obtain⟨b,e⟩:=lI z ts;generalize UA z ts=a at*;subst e;simp
theorem yH(ts:List GU)(k:Nat):(IG (ts.take k)).length<=(IG ts).length:=by
 have:IG ts=IG (ts.take k)++IG (ts.drop k):=by rw[<-LK,DW]
 rw[this];simp
theorem CO8{i:Nat}(h:i=j):Ending.returned (I0 (i:Int))=.returned (I0 (j:Int)):=by rw[h]
theorem BR3(v:FZ)(ts:List GU)(z:Int)(w:FX)(hv:NI w v ts)(hL:∀t∈ts,gdE t=0)(hs:(IG ts).length<=1048576):
  G5 prog 130 #[v,I0 z] w (R0 w (I0 ((IG (UA z ts)).length:Nat))):=by
 have hlen:=qY ts;have HV:=G9 hv;have HG:=G9 hL;have HK:=G9 (AF5 z ts);have HA:=G9 (fun k t h=>AF4 (z:=z) (ts:=ts) (k:=k) (t:=t) h);have hK:=(AF5 z ts).2;generalize UA z ts=K at*;obtain⟨a,c,rfl⟩:=MH hv;clear hv hL;go_enter func130,ntmps130;go_wp2_with fail
 go_loopg [5,12] ts.length (fun kx s5 s12 wr=>∃ (k N:Nat),s5=I0 N/\s12=I0 k/\k<=K.length/\ts.length-k<=kx/\Hid ((IG (ts.take k)).length=N)/\Hid (B0 w wr))
 case atStart=>exact⟨0,0,rfl,rfl,AZ _,by omega,G9 rfl,G9 (AA _ _)⟩
 case round=>
  obtain⟨k,N,rfl,rfl,hk,hkx,HN,HB⟩:=hrel;by_cases hlt:k<ts.length
  .obtain⟨t,ht⟩:∃t,ts[k]?=G7 t:=⟨_,AO hlt⟩;obtain⟨b,off,cap,he,hb,hr,_,_,_⟩:=ZV ((G8 HV).next (G8 HB)) ht;simp only[Value.slice.injEq,true_and]at he;obtain⟨rfl,rfl⟩:=he;have e0:=hr.z ht;have e1:=hr.o ht;have e2:=hr.s ht;have e3:=hr.p ht;have e4:=hr.d ht;have e5:=hr.v ht;have e6:=hr.w ht;have AV0:(k:Int)<(ts.length:Int):=by omega
   have hg:=G8 HG t (List.mem_of_getElem? ht);have C:=fun W=>fJ t W hg;have hat:=G8 HA k t ht;have HL:=G9 (QH ht);have hN1:=yH ts (k+1);rw[QH ht,QG,AP,G8 HN]at hN1;clear hr ht hb hg;obtain⟨R,hR⟩:∃R,RV t=R:=⟨_,rfl⟩;rw[hR]at C hN1;have HR:=G9 hR;have hzR:(ByteArray.mk R.toArray).size=R.length:=Lib.size_eq ⟨R.toArray⟩;clear hR;have HB2:=fun o=>G9 ((G8 HB).alloc (G8 HB).size o);obtain⟨z1,o1,s1,p1,d1,y1,u1⟩:=t;unfold JA at C;simp only at e0 e1 e2 e3 e4 e5 e6;by_cases hlK:k<K.length
   .have hz':¬z<z1:=by have hz:z1<=z:=hat.1 hlK;omega
    clear hat;go_wp2_with fail;refine(C _).mono ?_;rintro e w1 ⟨rfl,hb1⟩;have HB3:=G9 (JY (G8 (HB2 _)) hb1);clear C hb1 HB2 e0 e1 e2 e3 e4 e5 e6;go_wp2_with fail
    go_roundg (ts.length-(k+1))
    case measure=>omega
    case rel=>exact⟨k+1,N+R.length,by simp,by simp,by omega,A8 _,G9 (by rw[G8 HL,QG,AP,G8 HN,G8 HR]),HB3⟩
   .have hz':z<z1:=hat.2 (by omega);have hN2:(IG K).length=N:=by rw[<-(G8 HK).1,show K.length=k from by omega];exact G8 HN
    have HN2:=G9 hN2;clear hat hN2 C;go_wp2_with fail;go_ret;exact⟨CO8 (G8 HN2).symm,G8 (HB2 _)⟩
  .have hki:¬ ((k:Int)<(ts.length:Int)):=by omega
   have hN2:(IG K).length=N:=by rw[<-(G8 HK).1,show K.length=k from by omega];exact G8 HN
   have HN2:=G9 hN2;clear hN2;go_wp2_with fail;go_ret;exact⟨CO8 (G8 HN2).symm,G8 HB⟩
theorem B89(fs d1 d2:List DF)(ts:List GU)(z:Int)(N:Nat)(GR:pV 41 (fun x=>#[x]) fs ts d1 0)(CU:∀v W,NI W v ts->G5 prog 130 #[v,.int .i64 z] W fun e w'=>e=.returned (.int .i64 N)/\Below W.heap.size W w')
  (GC:NK 63 (fun x=>#[x,.string ⟨O9.toArray⟩,.int .i64 N]) d1 d2 0):NK 87 (fun x=>#[x,.int .i64 z]) fs d2 0:=by
 intro v w hv;simp only[show O9.toArray=#[108,111,103]from rfl]at GC;have HV:=G9 hv;have HGC:=G9 GC;have HCU:=G9 CU;obtain⟨a,n,c,rfl⟩:=J3 hv;clear hv GC CU;go_enter func87,ntmps87;go_wp2_with fail;have X:=G9 (A54.start w (FV a n c));generalize (w.alloc (FW #[FV a n c] 45)).alloc (FW #[FV G6 0 0] 45)=W0 at*;refine(GR _ _ ((G8 HV).next (G8 X).below)).mono ?_;rintro e w1 ⟨a1,k1,c1,a2,n2,c2,rfl,HL1,HD1,hb1⟩;have X1:=(G8 X).next hb1;have hal:=(AA w1.heap.size w1).alloc (A8 _) (FW #[FV a2 n2 c2] 45);have HX2:=G9 (X1.next hal);have HY2:=G9 (KN.new w1 (FV a2 n2 c2));have HL2:=G9 ((G8 HL1).next hal);have HD2:=G9 ((G8 HD1).next hal);clear hb1 X X1 hal GR HV HL1 HD1;go_wp2_with fail;generalize w1.alloc (FW #[FV a2 n2 c2] 45)=W1 at*;have cy:=(G8 HY2).c
 go_region_with (first
  |(go_at_call 130;refine(G8 HCU _ _ (G8 HL2).drew).mono ?_;rintro e w2 ⟨rfl,hb⟩;have hb':=VD hb;have HX3:=G9 ((G8 HX2).next hb');have HD3:=G9 ((G8 HD2).next hb');have cy3:=((G8 HY2).next hb').c;clear hb hb')
  |(go_at_call 63;refine(G8 HGC _ _ (G8 HD3)).mono ?_;rintro e w3 ⟨a3,n3,c3,rfl,HD4,hb⟩;have X4:=(G8 HX3).next hb;have cr4:=X4.r.c;have fr4:=X4.r.f;have HF:=G9 (And.intro (X4.below.setCell (p:=⟨w.heap.size+1,0,G6⟩) (by show w.heap.size<=w.heap.size+1;omega) (FV a3 n3 c3)) (QX (G8 HD4) X4.r (FV a3 n3 c3)));clear hb X4 HX3 HD3 HD4))
 all_goals go_wp2_with fail
 all_goals exact bodyPost_ret (v:=.tuple #[.agg #[FV a3 n3 c3],.int .i64 0]) (by simp[results,results87,go_sem,cr4]) rfl ⟨_,_,_,rfl,G9 (G8 HF).2,(G8 HF).1⟩
theorem BR6(h:ZJ fs ts A B)(z:Int):NK 87 (fun x=>#[x,.int .i64 z]) fs (A++PS (UA z ts)::B) 0:=by
 refine B89 fs _ _ ts z (IG (UA z ts)).length (lT h) (fun v W hv=>BR3 v ts z W hv h.log.good h.short) (MV fun v W hv=>?_);have g:=h.after h.short;have hk:=AQ7 z ts;have:=wM v _ A B (PS ts) O9 (IG (UA z ts)).length W hv (JW g) g (h.there ts) (by simp only[PS,List.length_nil,Nat.add_zero];exact hk.2);simp only[PS,List.append_nil,hk.1]at this⊢;exact this
