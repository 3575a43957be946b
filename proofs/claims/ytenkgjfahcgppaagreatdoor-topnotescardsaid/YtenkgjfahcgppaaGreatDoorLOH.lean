/-
  Part.
-/
import Derived.Test.YtenkgjfahcgppaaGreatDoorLOC
import Derived.Deep.RegionHeld3
import Derived.Lib.JoinLaws
import Derived.Lib.AppendZerosOnto
import Derived.Lib.Overlaps
set_option maxRecDepth 20000
set_option maxHeartbeats 8000000
namespace Go.Proofs.YtenkgjfahcgppaaGreatDoor
open Go.RowKit Go.Proofs.Tryz
variable{w W V w':World}{f:DF}{v:Value}{g cap:Nat}{fs:List DF}
theorem GU{o:Obj}{w1:World}(h:Below (w.alloc o).heap.size (w.alloc o) w1):B0 w w1:=
 ((Below.refl _ _).alloc (Nat.le_refl _) _).trans (h.mono (by simp))
theorem XQ(f:DF)(w:World)(h:f.s.length+f.t.length<=9223372036854775807):
  Calls prog 134 #[BA7 f] w (R0 w (I0 ((f.s.length+f.t.length:Nat):Int))):=by
 unfold BA7;go_enter func134,ntmps134
 go_wp2
 go_ret;exact⟨rfl,(Below.refl _ _).alloc (Nat.le_refl _) _⟩
theorem A26(f:DF)(name:List UInt8)(w:World):
  Calls prog 171 #[BA7 f,S0 name] w (R0 w (I0 (Lib.compareBytes f.n name))):=by
 unfold BA7;go_enter func171,ntmps171;go_wp2_with fail;refine(strings_Compare _ _ _).mono ?_;rintro e w1 ⟨rfl,rfl⟩;go_wp2_with fail;go_ret;exact⟨rfl,(Below.refl _ _).alloc (Nat.le_refl _) _⟩
def XT(R:List DF)(name:List UInt8):Bool:=match R with
 |[]=>false
 |f::_=>decide (f.n=name)
theorem AQ6(A R:List DF)(name:List UInt8)(lo:∀a∈A,bl a.n name=true)(hi:∀a∈R,bl a.n name=false)(i:Nat)(h:i<A.length+R.length):∃y,(A++R)[i]?=some y/\bl y.n name=decide (i<A.length):=by
 by_cases h1:i<A.length
 .refine⟨A[i],by rw[List.getElem?_append_left h1,List.getElem?_eq_getElem h1],?_⟩;rw[lo _ (List.getElem_mem h1)];simp[h1]
 .have h2:i-A.length<R.length:=by omega
  refine⟨R[i-A.length],by rw[List.getElem?_append_right (by omega),List.getElem?_eq_getElem h2],?_⟩;rw[hi _ (List.getElem_mem h2)];simp[h1]
theorem BV5(b off cap:Nat)(A R:List DF)(name:List UInt8)(w:World)(hcap:A.length+R.length<=16)(hb:b<w.heap.size)(h:BL w b off (BG (A++R)))
  (lo:∀a∈A,bl a.n name=true) (hi:∀a∈R,bl a.n name=false):
  Calls prog 170 #[.slice (some ⟨b,off,none⟩) (A.length+R.length) cap,S0 name,.func (.func 171) #[] #[]] w fun e w'=>
   e=.returned (.tuple #[I0 A.length,.bool (XT R name)])/\B0 w w':=by
 have H:=AA h;have SG:=AA (AQ6 A R name lo hi);obtain⟨fin,hfin⟩:∃x,XT R name=x:=⟨_,rfl⟩;have HF:=AA hfin;rw[hfin];clear h hfin lo hi;go_enter func170,ntmps170;go_wp2_with fail
 go_loopg [9,10] (A.length+R.length) (fun kx s9 s10 wr=>∃lo hi:Nat,s9=I0 lo/\s10=I0 hi/\lo<=A.length/\A.length<=hi/\hi<=A.length+R.length/\hi-lo<=kx/\Hid (B0 w wr))
 case atStart=>exact⟨0,A.length+R.length,rfl,rfl,Nat.zero_le _,by omega,Nat.le_refl _,by omega,AA (Below.refl _ _)⟩
 case round=>
  obtain⟨lo,hi,rfl,rfl,h1,h2,h3,hg,hB⟩:=hrel;by_cases hlt:lo<hi
  .obtain⟨y,hy,hyn⟩:=A8 SG ((lo+hi)/2) (by omega);have HY:=AA hyn;have r:=(A8 H).kept (A8 hB) hb;have e0:=r.c0 hy;have e1:=r.c1 hy;have e2:=r.c2 hy;clear hyn hy r;have hc:=A04 y.n name;rw[A8 HY]at hc;have CM:=fun W=>A26 y name W;generalize Lib.compareBytes y.n name=cv at hc CM;by_cases hm:(lo+hi)/2<A.length
   .have hn:cv<0:=by simpa [hm]using hc
    clear hc;go_wp2_with fail;refine(CM _).mono ?_;rintro e w1 ⟨rfl,hb1⟩;have hB2:B0 w w1:=(A8 hB).trans (hb1.mono (A8 hB).size);clear CM;go_wp2_with fail
    go_roundg (hi-((lo+hi)/2+1))
    case measure=>omega
    case rel=>exact⟨(lo+hi)/2+1,hi,by rw[show ((lo:Int)+(hi:Int))/2+1=(((lo+hi)/2+1:Nat):Int) by omega],rfl,by omega,h2,h3,Nat.le_refl _,AA hB2⟩
   .have hn:¬cv<0:=by simpa [hm]using hc
    clear hc;go_wp2_with fail;refine(CM _).mono ?_;rintro e w1 ⟨rfl,hb1⟩;have hB2:B0 w w1:=(A8 hB).trans (hb1.mono (A8 hB).size);clear CM;go_wp2_with fail
    go_roundg ((lo+hi)/2-lo)
    case measure=>omega
    case rel=>exact⟨lo,(lo+hi)/2,rfl,by rw[show ((lo:Int)+(hi:Int))/2=(((lo+hi)/2:Nat):Int) by omega],h1,by omega,by omega,Nat.le_refl _,AA hB2⟩
  .obtain rfl:lo=A.length:=by omega
   obtain rfl:hi=A.length:=by omega
   cases R with
   |nil=>
    go_wp2_with fail
    go_ret2
    exact⟨by rw[<-A8 HF];rfl,A8 hB⟩
   |cons f R=>
    have r:=(A8 H).kept (A8 hB) hb;have hy:(A++f::R)[A.length]?=some f:=by simp
    have e0:=r.c0 hy;have e1:=r.c1 hy;have e2:=r.c2 hy;clear hy r;have hc:=aV f.n name;have CM:=fun W=>A26 f name W;have hf:fin=decide (f.n=name):=(A8 HF).symm;rw[<-hc]at hf;clear hc HF;generalize Lib.compareBytes f.n name=cv at hf CM;subst hf;simp only[List.length_cons];go_wp2_with fail;refine(CM _).mono ?_;rintro e w1 ⟨rfl,hb1⟩;have hB2:B0 w w1:=(A8 hB).trans (hb1.mono (A8 hB).size);clear CM;go_wp2_with fail
    go_ret2
    exact⟨by rfl,hB2⟩
theorem BB0(a:Option Addr)(cap:Nat)(name:List UInt8)(w:World):
  Calls prog 170 #[.slice a 0 cap,S0 name,.func (.func 171) #[] #[]] w fun e w'=>
   e=.returned (.tuple #[I0 0,.bool false])/\B0 w w':=by
 go_enter func170,ntmps170;go_wp2_with fail
 go_loopg [9,10] 1 (fun _ s9 s10 wr=>s9=I0 0/\s10=I0 0/\Hid (B0 w wr))
 case atStart=>exact⟨rfl,rfl,AA (Below.refl _ _)⟩
 case round=>
  obtain⟨rfl,rfl,hB⟩:=hrel;go_wp2_with fail
  go_ret2
  exact⟨rfl,A8 hB⟩
theorem jP(v:Value)(fs A R:List DF)(name:List UInt8)(w:World)(hv:C9 w v fs)(hl:fs.length<=16)(he:fs=A++R)(lo:∀a∈A,bl a.n name=true)(hi:∀a∈R,bl a.n name=false):
  Calls prog 133 #[.agg #[v],S0 name] w (R0 w (.tuple #[I0 A.length,.bool (XT R name)])):=by
 have C:∀W:World,B0 w W->Calls prog 170 #[v,S0 name,.func (.func 171) #[] #[]] W fun e w'=>
   e=.returned (.tuple #[I0 A.length,.bool (XT R name)])/\B0 W w':=fun W hW=>by
  rcases hv with⟨a,cap,rfl,h0,_⟩|⟨b,off,cap,rfl,_,_,hb,_,hr⟩
  .rw[h0]at he;obtain⟨rfl,rfl⟩:A=[]/\R=[]:=by
    have:=congrArg List.length he;simp at this;exact⟨List.eq_nil_of_length_eq_zero (by omega),List.eq_nil_of_length_eq_zero (by omega)⟩
   exact BB0 a cap name W
  .subst he;rw[List.length_append];exact BV5 b off cap A R name W (by simpa using hl) (Nat.lt_of_lt_of_le hb hW.size) (hr.kept hW hb) lo hi
 have C':=AA C;have V:∃a n c,v=.slice a n c:=by
  rcases hv with⟨a,cap,rfl,_,_⟩|⟨b,off,cap,rfl,_⟩
  .exact⟨_,_,_,rfl⟩
  .exact⟨_,_,_,rfl⟩
 obtain⟨a,n,c,rfl⟩:=V;clear C hv hl he lo hi;generalize XT R name=hd at C'⊢;go_enter func133,ntmps133;go_wp2_with fail;refine(A8 C' _ ((Below.refl _ _).alloc (Nat.le_refl _) _)).mono ?_;rintro e w1 ⟨rfl,hb1⟩;have hbz:=GU hb1;go_wp2_with fail
 go_ret2
 exact⟨rfl,hbz⟩
theorem jQ(v:Value)(fs A B:List DF)(f:DF)(name:List UInt8)(w:World)(hv:C9 w v fs)(hl:fs.length<=16)(T:There fs A f B name):
  Calls prog 133 #[.agg #[v],S0 name] w (R0 w (.tuple #[I0 A.length,.bool true])):=by
 have:=jP v fs A (f::B) name w hv hl T.eq T.lo (fun a ha=>by
  rcases List.mem_cons.1 ha with rfl|h
  .rw[T.nm];exact MQ _
  .exact JW (T.hi a h))
 rwa[show XT (f::B) name=true from by simp[XT,T.nm]]at this
theorem A27(v:Value)(fs A B:List DF)(name:List UInt8)(w:World)(hv:C9 w v fs)(hl:fs.length<=16)(G:Gap fs A B name):
  Calls prog 133 #[.agg #[v],S0 name] w (R0 w (.tuple #[I0 A.length,.bool false])):=by
 have:=jP v fs A B name w hv hl G.eq G.lo (fun a ha=>JW (G.hi a ha));rwa[show XT B name=false from by
  cases B with
  |nil=>rfl
  |cons f B=>have:=PZ (G.hi f (by simp));simp[XT,this.symm]]at this
theorem qM(h1:EC f.n=false):MR f=false:=by simp[MR,h1]
theorem wK(h:1048576<f.s.length+f.t.length):MR f=false:=by simp[MR];intro _;omega
theorem AB8(h1:EC f.n=true)(h:f.s.length+f.t.length<=1048576):MR f=true:=by simp[MR,h1,h]
theorem CA4{w1:World}(hb:B0 W w1):(∀b o,b<W.heap.size->w1.cell? ⟨b,o,none⟩=W.cell? ⟨b,o,none⟩)/\(∀b o,b<W.heap.size->w1.frozen? ⟨b,o,none⟩=W.frozen? ⟨b,o,none⟩):=
 ⟨fun b o h=>hb.cell (p:=⟨b,o,none⟩) h,fun b o h=>hb.frozen (p:=⟨b,o,none⟩) h⟩
def iR(fs:List DF):Prop:=∀f∈fs,f.n.length<=140737488355328/\f.s.length<=140737488355328/\f.t.length<=140737488355328
theorem A28(n:List UInt8)(h:n.length<=140737488355328)(w:World):
  Calls prog 43 #[S0 n] w fun e w'=>e=.returned (.bool (EC n))/\w'=w:=
 Q8 ⟨n.toArray⟩ w (by have:(ByteArray.mk n.toArray).size=n.length:=rfl;unfold maxLen;omega)
theorem AB9(a:Option Addr)(cap:Nat)(w:World):
  Calls prog 132 #[.agg #[.slice a 0 cap]] w (R0 w (.bool true)):=by
 go_enter func132,ntmps132;go_wp2_with fail
 go_loopg [12] 1 (fun _ s12 wr=>s12=I0 0/\Hid (B0 w wr))
 case atStart=>exact⟨rfl,AA ((Below.refl _ _).alloc (Nat.le_refl _) _)⟩
 case round=>
  obtain⟨rfl,hB⟩:=hrel;go_wp2_with fail;go_ret;exact⟨rfl,A8 hB⟩
theorem AC0(b off cap n:Nat)(hn:16<n)(w:World):
  Calls prog 132 #[.agg #[.slice (some ⟨b,off,none⟩) n cap]] w (R0 w (.bool false)):=by
 go_enter func132,ntmps132;go_wp2_with fail;go_ret;exact⟨rfl,(Below.refl _ _).alloc (Nat.le_refl _) _⟩
theorem AC1(b off cap:Nat)(fs:List DF)(w:World)(hs:iR fs)(hl:fs.length<=16)(hb:b<w.heap.size)(h:BL w b off (BG fs)):
  Calls prog 132 #[.agg #[.slice (some ⟨b,off,none⟩) fs.length cap]] w (R0 w (.bool (QZ fs))):=by
 have H:=AA h;have HS:=AA hs;have NO:=AA (fun(k:Nat) (f:DF)=> @B85 fs k f);have NR:=AA (fun(k:Nat) (f g:DF)=> @AM7 fs k f g);have YES:=AA (pO hl);have Z:=AA (AM5 fs);have SU:=AA (fun(k:Nat) (f:DF) (h:BT6 fs k)=>AM6 (f:=f) h);have hb0:b≠w.heap.size:=by omega
 clear h hs;generalize QZ fs=G at NO NR YES⊢;go_enter func132,ntmps132;go_wp2_with fail
 go_loopg [12] fs.length (fun kx s12 wr=>∃k:Nat,s12=I0 k/\k<=fs.length/\fs.length-k<=kx/\Hid (B0 w wr/\w.heap.size<wr.heap.size/\wr.cell? ⟨w.heap.size,0,none⟩=some (.slice (some ⟨b,off,none⟩) fs.length cap))/\Hid (BT6 fs k))
 case atStart=>exact⟨0,rfl,Nat.zero_le _,by omega,AA ⟨(Below.refl _ _).alloc (Nat.le_refl _) _,by simp,by simp⟩,Z⟩
 case round=>
  obtain⟨k,rfl,hk,hg,hB,hO⟩:=hrel;by_cases hlt:k<fs.length
  .obtain⟨f,hf⟩:∃f,fs[k]?=some f:=⟨_,List.getElem?_eq_getElem hlt⟩;have HF:=AA hf;have r:=(A8 H).kept (A8 hB).1 hb;have e0:=r.c0 hf;have e1:=r.c1 hf;have e2:=r.c2 hf;have hsl:=A8 HS f (List.mem_of_getElem? hf);have hbw:b<wr.heap.size:=Nat.lt_of_lt_of_le hb (A8 hB).1.size;have h00:=(A8 hB).2.2;clear hf r
   cases hn:EC f.n with
   |false=>
    have HN:=AA hn;have CN:=fun W=>A28 f.n hsl.1 W;rw[hn]at CN;clear hn;go_wp2_with fail;refine(CN _).mono ?_;rintro e w1 ⟨rfl,rfl⟩;clear CN;go_wp2_with fail;go_ret;exact⟨NW (A8 NO k f (A8 HF) (qM (A8 HN))).symm,(A8 hB).1.alloc (by have:=(A8 hB).1.size;omega) _⟩
   |true=>
    have HN:=AA hn;have CN:=fun W=>A28 f.n hsl.1 W;rw[hn]at CN;clear hn;have HL:=AA hsl;have hsum:f.s.length+f.t.length<=9223372036854775807:=by omega
    have CS:=fun W=>XQ f W hsum;obtain⟨L,hL⟩:∃L,f.s.length+f.t.length=L:=⟨_,rfl⟩;rw[hL]at CS;have HL2:=AA hL;have hLb:L<=9223372036854775807:=by omega
    clear hsl hsum hL;go_wp2_with fail;refine(CN _).mono ?_;rintro e w1 ⟨rfl,rfl⟩;clear CN;by_cases hbig:L<=1048576
    .have hok:=AB8 (A8 HN) (by rw[A8 HL2];exact hbig);go_wp2_with fail;refine(CS _).mono ?_;rintro e w2 ⟨rfl,hb2⟩;clear CS;obtain⟨hc,hf⟩:=CA4 hb2;have hB2:B0 w w2:=(A8 hB).1.trans (GU hb2|>.mono (A8 hB).1.size);have h01:w2.cell? ⟨w.heap.size,0,none⟩=some (.slice (some ⟨b,off,none⟩) fs.length cap):=by
      rw[hc _ _ (by have:=(A8 hB).2.1;simp;omega),((Below.refl wr.heap.size wr).alloc (Nat.le_refl _) _).cell (p:=⟨w.heap.size,0,none⟩) (A8 hB).2.1];exact h00
     have hz:w2.cell? ⟨wr.heap.size,0,none⟩=some (S0 f.n):=by
      rw[hc _ _ (by simp)];simp
     have hlt2:w.heap.size<w2.heap.size:=by have:=hb2.size;have:=(A8 hB).2.1;simp at*;omega
     clear hc hf hb2 h00 e0 e1 e2;rcases Nat.eq_zero_or_pos k with hk0|hk0
     .subst hk0;have OK2:=AA (A8 SU 0 f (A8 hO) (A8 HF) hok (fun g h=>absurd h (Nat.lt_irrefl 0)));go_wp2_with fail;go_region;go_wp2_with fail
      go_roundg (fs.length-1)
      case measure=>omega
      case rel=>exact⟨1,rfl,by omega,Nat.le_refl _,AA ⟨hB2.drew,hlt2,h01⟩,OK2⟩
     .obtain⟨m,rfl⟩:∃m,k=m+1:=⟨k-1,by omega⟩;obtain⟨g,hg⟩:∃g,fs[m]?=some g:=⟨_,List.getElem?_eq_getElem (by omega)⟩;have r:=(A8 H).kept hB2 hb;have e0:=r.c0 hg;have HG:=AA hg;clear r hg;have hm1:(m:Int)<(fs.length:Int):=by omega
      cases hbl:bl g.n f.n with
      |true=>
       have OK2:=AA (A8 SU (m+1) f (A8 hO) (A8 HF) hok (fun g' _ h=>by
        rw[Nat.add_sub_cancel,A8 HG]at h
        cases h
        exact hbl))
       have hbl':Op.bytesLess g.n f.n=true:=hbl;clear hbl;go_wp2_with fail;go_region;go_wp2_with fail
       go_roundg (fs.length-(m+1+1))
       case measure=>omega
       case rel=>exact⟨m+1+1,rfl,by omega,Nat.le_refl _,AA ⟨hB2.drew,hlt2,h01⟩,OK2⟩
      |false=>
       have hbl':Op.bytesLess g.n f.n=false:=hbl;have GF:=(A8 NR (m+1) f g (A8 HF) (by simpa using A8 HG) (by omega) hbl).symm;have HGF:=AA GF;clear hbl GF;go_wp2_with fail;go_region;go_wp2_with fail;go_ret;exact⟨NW (A8 HGF),hB2.drew⟩
    .go_wp2_with fail;refine(CS _).mono ?_;rintro e w2 ⟨rfl,hb2⟩;have hB2:B0 w w2:=(A8 hB).1.trans (GU hb2|>.mono (A8 hB).1.size);clear CS hb2;go_wp2_with fail;go_ret;exact⟨NW (A8 NO k f (A8 HF) (wK (by rw[A8 HL2];omega))).symm,hB2⟩
  .have hkk:k=fs.length:=by omega
   subst hkk;go_wp2_with fail;go_ret;exact⟨NW (A8 YES (A8 hO)).symm,(A8 hB).1⟩
theorem AQ7:QZ []=true:=IY.2 ⟨by decide,by simp,List.Pairwise.nil⟩
theorem QE(v:Value)(fs:List DF)(w:World)(hv:C9 w v fs)(hs:iR fs):
  Calls prog 132 #[.agg #[v]] w (R0 w (.bool (QZ fs))):=by
 rcases hv with⟨a,cap,rfl,rfl,_⟩|⟨b,off,cap,rfl,_,_,hb,_,hr⟩
 .rw[AQ7];exact AB9 a cap w
 .by_cases hl:fs.length<=16
  .exact AC1 b off cap fs w hs hl hb hr
  .rw[BT7 (by omega)];exact AC0 b off cap fs.length (by omega) w
theorem KH(s:List UInt8)(w:World)(hs:s.length<=281474976710656):
  Calls prog 72 #[S0 s] w (R0 w (S0 s)):=by
 have C:=fun W=>stringslite_Clone ⟨s.toArray⟩ W (show (ByteArray.mk s.toArray).size<=_ from hs);go_enter func72,ntmps72;go_wp2_with fail;refine(C _).mono ?_;rintro e w1 ⟨rfl,hb1⟩;go_wp2_with fail;go_ret;exact⟨rfl,hb1⟩
theorem AC2:(prog.info? 93).map (fun i=>(i.zero,i.size,i.bytes))=some (some (.agg #[.string ⟨#[]⟩,.string ⟨#[]⟩,.string ⟨#[]⟩]),3,48):=by kernel_rfl
theorem QF:∃i0,prog.info? 93=some i0/\i0.zero=some (.agg #[.string ⟨#[]⟩,.string ⟨#[]⟩,.string ⟨#[]⟩])/\i0.size=3/\i0.bytes=48:=by
 obtain⟨i0,h,e⟩:=Option.map_eq_some_iff.1 AC2;simp only[Prod.mk.injEq]at e;exact⟨i0,h,e⟩
theorem dU(a:Addr)(cap:Nat)(fs:List DF)(w:World)(hl:fs.length<=1000000)(hc:∀j u,(BG fs)[j]?=some u->w.cell? (a.add j)=some u):
  Calls prog 28 #[.slice (some a) fs.length cap] w fun e w'=>∃v',e=.returned v'/\UO w' w.heap.size v' fs/\B0 w w':=by
 have q22:∀ (w:World) (a:Option Addr) (n c n' c':Nat),(binOp .eql 32 (.slice a n c) (.slice none n' c')).run prog w=.ok (.bool a.isNone) w:=fun w a n c n' c'=>Lib.run_eql_slice_nil w _ _ a n c n' c' underlying32;have H:Hid (∀j u,(BG fs)[j]?=some u->w.cell? (a.add j)=some u):=hc;clear hc;obtain⟨i0,hi0,hz0,hz1,hz2⟩:=QF;go_enter func28,ntmps28;go_wp2_with (at_builtin;refine wpList_append_own _ rfl _ _ 32 rfl w.heap.size 93 i0 _ 3 48 underlying32 hi0 hz0 hz1 hz2 rfl (by decide) _ _ _ rfl (World.ownsRow_made w #[] 0 (Nat.le_refl _) (Nat.zero_le _) (by simp)) a fs.length cap (BG fs) rfl ?qc1 ?qc2 ?qc3 ?qc4 ?qc5 ?qc6 ?_)
 case qc1=>exact BF fs
 case qc2=>
  intro j u hj;exact Lib.cell?_alloc_some _ (H.out j u hj)
 case qc3=>exact UN fs
 case qc4=>simp only[maxLen];omega
 case qc5=>omega
 case qc6=>simp
 intro v' w1 hown hgrow hnil
 go_wp2
 go_ret;refine⟨v',rfl,UO.G8 (by simpa using hown),?_⟩;exact((Below.refl _ w).alloc (Nat.le_refl _) _).grown hgrow (by simp) (by intro k hk;simp[Value.ownBlock]at hk;omega)
theorem AC3(n c:Nat)(w:World):
  Calls prog 28 #[.slice none n c] w fun e w'=>e=.returned (N0)/\w'=w:=by
 have q22:∀ (w:World) (a:Option Addr) (n c n' c':Nat),(binOp .eql 32 (.slice a n c) (.slice none n' c')).run prog w=.ok (.bool a.isNone) w:=fun w a n c n' c'=>Lib.run_eql_slice_nil w _ _ a n c n' c' underlying32;go_enter func28,ntmps28
 go_wp2
 go_ret;exact⟨rfl,rfl⟩
theorem AC4(v:Value)(fs:List DF)(w:World)(hv:C9 w v fs)(hl:fs.length<=1000000):
  Calls prog 28 #[v] w fun e w'=>∃v',e=.returned v'/\UO w' w.heap.size v' fs/\B0 w w':=by
 rcases hv with⟨a,cap,rfl,rfl,_⟩|⟨b,off,cap,rfl,_,_,hb,_,hr⟩
 .cases a with
  |none=>exact(AC3 0 cap w).mono fun e w' ⟨he,hw⟩=>⟨_,he,.inl ⟨rfl,rfl⟩,by rw[hw];exact Below.refl _ _⟩
  |some a=>exact dU a cap [] w (by simp) (fun j u h=>by simp[BG]at h)
 .exact dU ⟨b,off,none⟩ cap fs w hl (fun j u h=>by rw[Addr.add_lit];exact hr j u h)
theorem lX{a:Addr}(h:w.cell? a=some v):w.setCell a v=w:=by
 obtain⟨heap,tape,drawn,os,output⟩:=w;simp only[World.setCell,World.cell?]at*
 congr 1
 apply Array.ext_getElem?
 intro k;rw[Array.getElem?_modify];by_cases hk:a.block=k
 .subst hk;simp only[if_true]
  cases ho:heap[a.block]? with
  |none=>rfl
  |some o=>
   rw[ho]at h
   cases o with
   |cells c e fz=>
    simp only at h;by_cases hs:a.spot.isSome=true
    .simp[hs]at h
    .simp only[hs]at h;simp[hs];have hlt:a.off<c.size:=(Array.getElem?_eq_some_iff.1 (by simpa using h)).1;have hv:c[a.off]=v:=(Array.getElem?_eq_some_iff.1 (by simpa using h)).2;rw[<-hv];simp[Array.setIfInBounds,hlt]
   |_=>simp at h
 .simp[hk]
theorem LZ(h:B0 w W)(h':B0 W V):B0 w V:=h.trans (h'.mono h.size)
theorem OH(v:Value)(fs:List DF)(w:World)(hv:C9 w v fs)(hs:iR fs)(hl:fs.length<=16):
  Calls prog 135 #[.agg #[v]] w fun e w'=>∃v',e=.returned (.agg #[v'])/\UO w' w.heap.size v' fs/\B0 w w':=by
 have V:∃a n c,v=.slice a n c:=by
  rcases hv with⟨a,cap,rfl,_,_⟩|⟨b,off,cap,rfl,_⟩
  .exact⟨_,_,_,rfl⟩
  .exact⟨_,_,_,rfl⟩
 have HV:=AA hv;have HS:=AA hs;obtain⟨a,n,c,rfl⟩:=V;clear hv hs;go_enter func135,ntmps135;go_wp2_with fail;refine(AC4 _ fs _ ((A8 HV).next (((Below.refl _ _).alloc (Nat.le_refl _) _).alloc (by simp) _)) (by omega)).mono ?_;rintro e w1 ⟨v',rfl,ho,hb1⟩;have hB1:B0 w w1:=GU (GU hb1);have c1:w1.cell? ⟨w.heap.size+1,0,none⟩=some (N0):=by
  rw[hb1.cell (p:=⟨w.heap.size+1,0,none⟩) (by simp)];simp
 have f1:w1.frozen? ⟨w.heap.size+1,0,none⟩=false:=by
  rw[hb1.frozen (p:=⟨w.heap.size+1,0,none⟩) (by simp)];simp
 have hz:w.heap.size+1<w1.heap.size:=by have:=hb1.size;simp at this;omega
 have hs2:((w.alloc (Obj.cells #[Value.slice a n c] 34)).alloc (Obj.cells #[N0] 34)).heap.size=w.heap.size+2:=by simp
 rw[hs2]at ho;clear hb1 hs2;rcases ho with⟨rfl,rfl⟩|⟨g,cap,rfl,hg,ho⟩
 .go_wp2_with fail
  go_loopg [11] 1 (fun _ s wr=>s=I0 0/\wr=w1)
  case atStart=>exact⟨rfl,rfl⟩
  case round=>
   obtain⟨rfl,rfl⟩:=hrel;go_wp2_with fail;exact bodyPost_ret (v:=.agg #[N0]) (by simp[results,results135,go_sem,c1]) rfl ⟨_,rfl,.inl ⟨rfl,rfl⟩,hB1.setCell (by simp) _⟩
 .have HO:=AA ho;have hgl:=ho.lt;clear ho;go_wp2_with fail
  go_loopg [11] fs.length (fun kx s wr=>∃k:Nat,s=I0 k/\k<=fs.length/\fs.length-k<=kx/\Hid (B0 w1 wr))
  case atStart=>exact⟨0,rfl,Nat.zero_le _,by omega,AA (Below.refl _ _)⟩
  case round=>
   obtain⟨k,rfl,hk,hkx,hB⟩:=hrel;by_cases hlt:k<fs.length
   .obtain⟨f,hf⟩:∃f,fs[k]?=some f:=⟨_,List.getElem?_eq_getElem hlt⟩;have o:=(A8 HO).next (A8 hB);have NC:=o.lt;have e0:=o.c0 hf;have e1:=o.c1 hf;have e2:=o.c2 hf;have f0:=o.frozen (k*3);have f1:=o.frozen (k*3+1);have f2:=o.frozen (k*3+2);have hsl:=A8 HS f (List.mem_of_getElem? hf);clear hf o;obtain⟨fn,fss,ft⟩:=f;have k0:=fun W=>KH fn W (by have:=hsl.1;simp at this;omega);have k1:=fun W=>KH fss W (by have:=hsl.2.1;simp at this;omega);have k2:=fun W=>KH ft W (by have:=hsl.2.2;simp at this;omega);simp only at e0 e1 e2;clear hsl;go_wp2_with fail;have d0:∀d os,(Sort.grow (redrawn wr d) os).cell? ⟨g,k*3,none⟩=some (S0 fn):=fun d os=>cell_regrown e0 d os;have d1:∀d os,(Sort.grow (redrawn wr d) os).cell? ⟨g,k*3+1,none⟩=some (S0 fss):=fun d os=>cell_regrown e1 d os;have d2:∀d os,(Sort.grow (redrawn wr d) os).cell? ⟨g,k*3+2,none⟩=some (S0 ft):=fun d os=>cell_regrown e2 d os;have g0:∀d os,(Sort.grow (redrawn wr d) os).frozen? ⟨g,k*3,none⟩=false:=fun d os=>by rw[(below_regrown wr d os).frozen (p:=⟨g,k*3,none⟩) NC];exact f0
    have g1:∀d os,(Sort.grow (redrawn wr d) os).frozen? ⟨g,k*3+1,none⟩=false:=fun d os=>by rw[(below_regrown wr d os).frozen (p:=⟨g,k*3+1,none⟩) NC];exact f1
    have g2:∀d os,(Sort.grow (redrawn wr d) os).frozen? ⟨g,k*3+2,none⟩=false:=fun d os=>by rw[(below_regrown wr d os).frozen (p:=⟨g,k*3+2,none⟩) NC];exact f2
    have s0:∀d os,(Sort.grow (redrawn wr d) os).setCell ⟨g,k*3,none⟩ (S0 fn)=Sort.grow (redrawn wr d) os:=fun d os=>lX (d0 d os);have s1:∀d os,(Sort.grow (redrawn wr d) os).setCell ⟨g,k*3+1,none⟩ (S0 fss)=Sort.grow (redrawn wr d) os:=fun d os=>lX (d1 d os);have s2:∀d os,(Sort.grow (redrawn wr d) os).setCell ⟨g,k*3+2,none⟩ (S0 ft)=Sort.grow (redrawn wr d) os:=fun d os=>lX (d2 d os);have c0:=fun d os=>Calls.regrown_of (w:=wr) (d:=d) (os:=os) (k0 _);have c1':=fun d os=>Calls.regrown_of (w:=wr) (d:=d) (os:=os) (k1 _);have c2:=fun d os=>Calls.regrown_of (w:=wr) (d:=d) (os:=os) (k2 _);clear k0 k1 k2 e0 e1 e2 f0 f1 f2;refine wp_region_quiet_below (by kernel_rfl) (by kernel_rfl) ?_
    repeat (first|go_big_quiet_step (first|with_reducible exact c0 _ _|with_reducible exact c1' _ _|with_reducible exact c2 _ _)|quiet_step (first|with_reducible exact c0 _ _|with_reducible exact c1' _ _|with_reducible exact c2 _ _))
    refine wpQuiet_nil ?_;intro _ hw';obtain⟨⟨dq,osq⟩,hw''⟩:=hw';subst hw'';have hb2:=LZ (A8 hB) (below_regrown wr dq osq);clear c0 c1' c2 s0 s1 s2 d0 d1 d2 g0 g1 g2;go_wp2_with fail
    go_roundg (fs.length-(k+1))
    case measure=>omega
    case rel=>exact⟨k+1,rfl,by omega,Nat.le_refl _,AA hb2⟩
   .have c2:wr.cell? ⟨w.heap.size+1,0,none⟩=some (N0):=by
     rw[(A8 hB).cell (p:=⟨w.heap.size+1,0,none⟩) hz];exact c1
    have f2:wr.frozen? ⟨w.heap.size+1,0,none⟩=false:=by
     rw[(A8 hB).frozen (p:=⟨w.heap.size+1,0,none⟩) hz];exact f1
    have hgw:g≠w.heap.size+1:=by omega
    go_wp2_with fail;exact bodyPost_ret (v:=.agg #[.slice (some ⟨g,0,none⟩) fs.length cap]) (by simp[results,results135,go_sem,c2]) rfl
     ⟨_,rfl,.inr ⟨g,cap,rfl,by omega,((A8 HO).next (A8 hB)).other hgw _⟩,(LZ hB1 (A8 hB)).setCell (by simp) _⟩
theorem TJ{j:Nat}(v:Value):w.grownBy (w.setCell ⟨g,j,none⟩ v) (some g):=⟨rfl,rfl,rfl,by simp[World.setCell],fun k _ hne=>Below.heap_setCell w ⟨g,j,none⟩ v k (fun e=>hne (by rw[e]))⟩
theorem AC5{r:Option Nat}(h:w.grownBy w' r):w.grownBy w'.drew r:=⟨h.os,h.tape,h.output,h.size,h.block⟩
theorem OL{w'':World}(h:w.grownBy w' (some g))(h':w'.grownBy w'' (some g)):w.grownBy w'' (some g):=
 ⟨h'.os.trans h.os,h'.tape.trans h.tape,h'.output.trans h.output,Nat.le_trans h.size h'.size,fun k hk hne=>(h'.block k (Nat.lt_of_lt_of_le hk h.size) hne).trans (h.block k hk hne)⟩
theorem qN(h:B0 w w'):w.grownBy w' (some g):=⟨h.os,h.tape,h.output,h.size,fun k hk _=>h.block k hk⟩
theorem lY(l m:List UInt8):(ByteArray.mk l.toArray)++(ByteArray.mk m.toArray)=⟨(l++m).toArray⟩:=by
 have h:((ByteArray.mk l.toArray)++(ByteArray.mk m.toArray)).data.toList=l++m:=by simp[ByteArray.data_append]
 exact congrArg (fun l:List UInt8=>ByteArray.mk l.toArray) h
theorem AQ8(l:List UInt8)(d:Nat):(ByteArray.mk l.toArray).extract 0 d=⟨(l.take d).toArray⟩:=by
 apply ByteArray.ext
 apply Array.toList_inj.1
 have h:=Lib.extract_toList (ByteArray.mk l.toArray) 0 d;rw[Lib.toList_data]at h;refine h.trans ?_;show (l.drop 0).take (d-0)=_;simp
theorem YZ(g cap k:Nat)(fs:List DF)(f:DF)(n:Nat)(w:World)(ho:Own w g cap fs)(hk:fs[k]?=some f)(hn:n<=f.s.length+f.t.length)(hf:f.s.length+f.t.length<=1048576):
  Calls prog 140 #[.pointer (some ⟨g,k*3,none⟩),I0 n] w fun e w'=>
   e=.returned (.tuple #[])/\Own w' g cap (fs.set k ⟨f.n,(f.s++f.t).take n,[]⟩)/\w.grownBy w' (some g):=by
 have e1:=ho.c1 hk;have e2:=ho.c2 hk;have f1:=ho.frozen (k*3+1);have f2:=ho.frozen (k*3+2);have HO:=AA ho;have HK:=AA hk;clear ho hk;obtain⟨fn,fss,ft⟩:=f;simp only at*;have hn1:(n:Int)<=(fss.length:Int)+(ft.length:Int):=by omega
 go_enter func140,ntmps140;go_wp2_with fail;go_region;go_wp2_with fail
 go_end0
 refine⟨rfl,?_,?_⟩
 .rw[lY,AQ8];have h1:=(A8 HO).s1 (A8 HK) ((fss++ft).take n);have h2:=h1.s2 (f:=⟨fn,(fss++ft).take n,ft⟩) (by rw[List.getElem?_set_self (List.getElem?_eq_some_iff.1 (A8 HK)).1]) [];rw[List.set_set]at h2;exact h2
 .exact AC5 (OL (TJ _) (TJ _))
theorem jR(g cap k:Nat)(fs:List DF)(f:DF)(x:List UInt8)(w:World)(ho:Own w g cap fs)(hk:fs[k]?=some f)(hx:x.length<=1048576)(hf:f.t.length<=1048576):
  Calls prog 137 #[.pointer (some ⟨g,k*3,none⟩),S0 x] w fun e w'=>
   e=.returned (.tuple #[])/\Own w' g cap (fs.set k ⟨f.n,f.s,f.t++x⟩)/\w.grownBy w' (some g):=by
 have e2:=ho.c2 hk;have f2:=ho.frozen (k*3+2);have HO:=AA ho;have HK:=AA hk;have hg:=ho.lt;clear ho hk;obtain⟨fn,fss,ft⟩:=f;simp only at*;have C:=fun W=>KH x W (by omega);have hlen:¬9223372036854775807<ft.length+x.length:=by omega
 go_enter func137,ntmps137;go_wp2_with fail
 go_region_with (first|(go_at_call 72;refine(C _).mono ?_;rintro e w1 ⟨rfl,hb1⟩;have e3:w1.cell? ⟨g,k*3+2,none⟩=some (S0 ft):=(hb1.cell (p:=⟨g,k*3+2,none⟩) hg).trans e2;have f3:w1.frozen? ⟨g,k*3+2,none⟩=false:=(hb1.frozen (p:=⟨g,k*3+2,none⟩) hg).trans f2))
 all_goals go_wp2_with fail
 all_goals
  have hb:B0 w w1:=((Below.refl _ w).drew).trans hb1
  go_end0
  refine⟨rfl,?_,OL (qN hb) (TJ _)⟩;rw[lY];exact((A8 HO).next hb).s2 (A8 HK) (ft++x)
theorem MJ{t:TypeId}{fz:Nat×Nat}:∀ (vs:List Value) (o:Nat) (w:World) (l:List Value),w.heap[g]?=some (.cells l.toArray t fz)->o+vs.length<=l.length->
  (w.setCells g o vs).heap[g]?=some (.cells (l.take o++vs++l.drop (o+vs.length)).toArray t fz)
 |[],o,w,l,h,_=>by simpa [World.setCells]using h
 |v::r,o,w,l,h,hl=>by
  have h1:(w.setCell ⟨g,o,none⟩ v).heap[g]?=some (.cells (l.set o v).toArray t fz):=by rw[AV v h];simp
  rw[World.setCells,MJ r (o+1) _ _ h1 (by simp at hl⊢;omega)];have ho:o<l.length:=by simp at hl;omega
  have e1:(l.set o v).take (o+1)=l.take o++[v]:=by
   rw[List.take_set,List.take_succ_eq_append_getElem ho,List.set_append_right _ _ (by simp;omega)];simp[Nat.min_eq_left (Nat.le_of_lt ho)]
  have e2:(l.set o v).drop (o+1+r.length)=l.drop (o+(r.length+1)):=by
   rw[List.drop_set_of_lt (by omega)];congr 1;omega
  rw[e1,e2];simp
theorem H8:∀ (vs:List Value) (o:Nat) (w:World),w.grownBy (w.setCells g o vs) (some g)
 |[],_,_=>⟨rfl,rfl,rfl,Nat.le_refl _,fun _ _ _=>rfl⟩
 |v::r,o,_=>OL (TJ v) (H8 r (o+1) _)
theorem Own.splice{pre tl:List DF}(h:Own W g cap (pre++tl))(new:List DF)(hfit:pre.length+new.length<=cap):Own (W.setCells g (pre.length*3) (BG new)) g cap (pre++new):=by
 obtain⟨rest,h1,h2,h3⟩:=h;have hlen:(BG (pre++tl)++rest).length=cap*3:=by rw[List.length_append,BF];exact h2
 refine⟨(BG (pre++tl)++rest).drop (pre.length*3+(BG new).length),?_,?_,h3⟩
 .rw[MJ (BG new) (pre.length*3) W _ h1 (by rw[hlen,BF];omega),F6 pre new]
  congr 3
  have e:BG (pre++tl)++rest=BG pre++(BG tl++rest):=by rw[F6,List.append_assoc]
  rw[e,<-BF pre,List.take_left]
 .rw[List.length_drop,hlen,BF,List.length_append];omega
theorem Own.spare(h:Own W g cap fs)(vs:List Value)(o:Nat)(ho:fs.length*3<=o)(hfit:o+vs.length<=cap*3):Own (W.setCells g o vs) g cap fs:=by
 obtain⟨rest,h1,h2,h3⟩:=h;have hlen:(BG fs++rest).length=cap*3:=by rw[List.length_append,BF];exact h2
 have hc:=BF fs;refine⟨rest.take (o-fs.length*3)++vs++(BG fs++rest).drop (o+vs.length),?_,?_,h3⟩
 .rw[MJ vs o W _ h1 (by rw[hlen];omega)]
  congr 2
  rw[List.take_append,List.take_of_length_le (by omega),hc];simp only[List.append_assoc]
 .simp only[List.length_append,List.length_take,List.length_drop,hc];omega
theorem Own.qJ{A B:List DF}{y:DF}(h:Own W g cap (A++y::B))(x:DF):Own (W.setCells g (A.length*3) (EH x)) g cap (A++x::B):=by
 obtain⟨rest,h1,h2,h3⟩:=h;have hlen:(BG (A++y::B)++rest).length=cap*3:=by rw[List.length_append,BF];exact h2
 refine⟨rest,?_,by simpa using h2,h3⟩;have hA:=BF A;rw[MJ (EH x) (A.length*3) W _ h1 (by rw[hlen];simp[EH]at h2⊢;omega)];have e:BG (A++y::B)++rest=BG A++(EH y++(BG B++rest)):=by simp[F6,BG]
 have e':BG (A++x::B)++rest=BG A++(EH x++(BG B++rest)):=by simp[F6,BG]
 rw[e,e'];have hx3:(EH x).length=3:=rfl;have hy3:(EH y).length=3:=rfl
 congr 2
 rw[hx3,<-hA,List.take_left,show (BG A).length+3=(BG A++EH y).length by rw[List.length_append,hy3],<-List.append_assoc (BG A) (EH y),List.drop_left,List.append_assoc]
def AQ9(fs:List DF)(name:List UInt8)(E:Int):Prop:=(QZ fs=false/\E=3)\/(H6 fs/\(∃A B,Gap fs A B name)/\E=7)
theorem dV(fs:List DF)(name:List UInt8):(∃E,AQ9 fs name E)\/(H6 fs/\∃A f B,There fs A f B name):=by
 cases hg:QZ fs with
 |false=>exact .inl ⟨3,.inl ⟨hg,rfl⟩⟩
 |true=>
  have g:=IY.1 hg;rcases A05 name fs g.asc with h|h
  .exact .inr ⟨g,h⟩
  .exact .inl ⟨7,.inr ⟨g,h,rfl⟩⟩
theorem DK(hv:C9 w v fs):∃a n c,v=.slice a n c:=by
 rcases hv with⟨a,cap,rfl,_,_⟩|⟨b,off,cap,rfl,_⟩
 .exact⟨_,_,_,rfl⟩
 .exact⟨_,_,_,rfl⟩
theorem dW(v:Value)(fs:List DF)(name:List UInt8)(E:Int)(w:World)(hv:C9 w v fs)(hs:iR fs)(h:AQ9 fs name E):
  Calls prog 131 #[.agg #[v],.string ⟨name.toArray⟩] w fun e w'=>e=.returned (.tuple #[.int .i64 0,.int .i64 E])/\Below w.heap.size w w':=by
 obtain⟨a,n,c,rfl⟩:=DK hv;have HV:=AA hv;have CG:=fun W (h:Below w.heap.size w W)=>QE _ fs W (hv.next h) hs;rcases h with⟨hg,rfl⟩|⟨g,⟨A,B,G⟩,rfl⟩
 .rw[hg]at CG;clear hg hv hs;go_enter func131,ntmps131;go_wp2_with fail;refine(CG _ ((Below.refl _ _).alloc (Nat.le_refl _) _)).mono ?_;rintro e w1 ⟨rfl,hb1⟩;have hbz:=GU hb1;clear CG;go_wp2_with fail
  go_ret2
  exact⟨rfl,hbz⟩
 .rw[IY.2 g]at CG;have CF:=fun W (h:Below w.heap.size w W)=>A27 _ fs A B name W (hv.next h) g.few G;clear hv hs g G;go_enter func131,ntmps131;go_wp2_with fail;refine(CG _ ((Below.refl _ _).alloc (Nat.le_refl _) _)).mono ?_;rintro e w1 ⟨rfl,hb1⟩;have hbz:=GU hb1;have c1:w1.cell? ⟨w.heap.size,0,none⟩=some (.slice a n c):=by rw[hb1.cell (p:=⟨w.heap.size,0,none⟩) (by simp)];simp
  clear CG hb1;go_wp2_with fail;refine(CF _ hbz).mono ?_;rintro e w2 ⟨rfl,hb2⟩;have hbx:=LZ hbz hb2;clear CF;go_wp2_with fail
  go_ret2
  exact⟨rfl,hbx⟩
theorem P9(v:Value)(fs A B:List DF)(f:DF)(name:List UInt8)(w:World)(hv:C9 w v fs)(hs:iR fs)(g:H6 fs)(T:There fs A f B name):
  Calls prog 131 #[.agg #[v],.string ⟨name.toArray⟩] w fun e w'=>e=.returned (.tuple #[.int .i64 A.length,.int .i64 0])/\Below w.heap.size w w':=by
 obtain⟨a,n,c,rfl⟩:=DK hv;have CG:=fun W (h:Below w.heap.size w W)=>QE _ fs W (hv.next h) hs;rw[IY.2 g]at CG;have CF:=fun W (h:Below w.heap.size w W)=>jQ _ fs A B f name W (hv.next h) g.few T;clear hv hs g T;go_enter func131,ntmps131;go_wp2_with fail;refine(CG _ ((Below.refl _ _).alloc (Nat.le_refl _) _)).mono ?_;rintro e w1 ⟨rfl,hb1⟩;have hbz:=GU hb1;have c1:w1.cell? ⟨w.heap.size,0,none⟩=some (.slice a n c):=by rw[hb1.cell (p:=⟨w.heap.size,0,none⟩) (by simp)];simp
 clear CG hb1;go_wp2_with fail;refine(CF _ hbz).mono ?_;rintro e w2 ⟨rfl,hb2⟩;have hbx:=LZ hbz hb2;clear CF;go_wp2_with fail
 go_ret2
 exact⟨rfl,hbx⟩
theorem TK{A B:List DF}{name:List UInt8}(hv:C9 w v fs)(T:There fs A f B name):
  ∃b off cap,v=.slice (some ⟨b,off,none⟩) fs.length cap/\b<w.heap.size/\BL w b off (BG fs)/\fs[A.length]?=some f/\A.length<fs.length:=by
 have hk:fs[A.length]?=some f:=by rw[T.eq];simp
 rcases hv with⟨a,cap,rfl,rfl,_⟩|⟨b,off,cap,rfl,_,_,hb,_,hr⟩
 .simp at hk
 .exact⟨b,off,cap,rfl,hb,hr,hk,(List.getElem?_eq_some_iff.1 hk).1⟩
theorem wM(v:Value)(fs:List DF)(name:List UInt8)(E:Int)(w:World)(hv:C9 w v fs)(hs:iR fs)(h:AQ9 fs name E):
  Calls prog 98 #[.agg #[v],.string ⟨name.toArray⟩] w fun e w'=>e=.returned (.tuple #[.string ⟨#[]⟩,.int .i64 E])/\Below w.heap.size w w':=by
 obtain⟨a,n,c,rfl⟩:=DK hv;have C:=fun W (hW:Below w.heap.size w W)=>dW _ fs name E W (hv.next hW) hs h;have hne:(E !=0)=true:=by rcases h with⟨_,rfl⟩|⟨_,_,rfl⟩<;>decide
 clear hv hs h;go_enter func98,ntmps98;go_wp2_with fail;refine(C _ ((Below.refl _ _).alloc (Nat.le_refl _) _)).mono ?_;rintro e w1 ⟨rfl,hb1⟩;have hbz:=GU hb1;clear C;go_wp2_with fail
 go_ret2
 exact⟨rfl,hbz⟩
theorem jS(v:Value)(fs A B:List DF)(f:DF)(name:List UInt8)(w:World)(hv:C9 w v fs)(hs:iR fs)(g:H6 fs)(T:There fs A f B name):
  Calls prog 98 #[.agg #[v],.string ⟨name.toArray⟩] w fun e w'=>e=.returned (.tuple #[.string ⟨(f.s++f.t).toArray⟩,.int .i64 0])/\Below w.heap.size w w':=by
 have C:=fun W (hW:Below w.heap.size w W)=>P9 _ fs A B f name W (hv.next hW) hs g T;obtain⟨b,off,cap,rfl,hb,hr,hk,hlt⟩:=TK hv T;have hfl:=JE (T.ok g);have HR:=AA hr;have HK:=AA hk;have hb0:b≠w.heap.size:=by omega
 have BV6:(A.length:Int)<(fs.length:Int):=by omega
 clear hv hs g T hr hk;go_enter func98,ntmps98;go_wp2_with fail;refine(C _ ((Below.refl _ _).alloc (Nat.le_refl _) _)).mono ?_;rintro e w1 ⟨rfl,hb1⟩;have hbz:=GU hb1;have c1:w1.cell? ⟨w.heap.size,0,none⟩=some (.slice (some ⟨b,off,none⟩) fs.length cap):=by rw[hb1.cell (p:=⟨w.heap.size,0,none⟩) (by simp)];simp
 have r:=(A8 HR).kept hbz hb;have e0:=r.c0 (A8 HK);have e1:=r.c1 (A8 HK);have e2:=r.c2 (A8 HK);obtain⟨fn,fss,ft⟩:=f;simp only at*;have k1:=fun W=>KH fss W (by omega);have k2:=fun W=>KH ft W (by omega);have hlen:¬9223372036854775807<fss.length+ft.length:=by omega
 clear C hb1 r;go_wp2_with fail;have a1:(w1.alloc (Obj.cells #[Value.string ⟨fn.toArray⟩,Value.string ⟨fss.toArray⟩,Value.string ⟨ft.toArray⟩] 93)).cell? ⟨w1.heap.size,1,none⟩=some (.string ⟨fss.toArray⟩):=by simp
 have a2:(w1.alloc (Obj.cells #[Value.string ⟨fn.toArray⟩,Value.string ⟨fss.toArray⟩,Value.string ⟨ft.toArray⟩] 93)).cell? ⟨w1.heap.size,2,none⟩=some (.string ⟨ft.toArray⟩):=by simp
 have hbw:=hbz.alloc hbz.size (Obj.cells #[Value.string ⟨fn.toArray⟩,Value.string ⟨fss.toArray⟩,Value.string ⟨ft.toArray⟩] 93);generalize w1.alloc (Obj.cells #[Value.string ⟨fn.toArray⟩,Value.string ⟨fss.toArray⟩,Value.string ⟨ft.toArray⟩] 93)=W at a1 a2 hbw⊢;have d1:∀d os,(Sort.grow (redrawn W d) os).cell? ⟨w1.heap.size,1,none⟩=some (.string ⟨fss.toArray⟩):=fun d os=>cell_regrown a1 d os;have d2:∀d os,(Sort.grow (redrawn W d) os).cell? ⟨w1.heap.size,2,none⟩=some (.string ⟨ft.toArray⟩):=fun d os=>cell_regrown a2 d os;have c1':=fun d os=>Calls.regrown_of (w:=W) (d:=d) (os:=os) (k1 _);have c2:=fun d os=>Calls.regrown_of (w:=W) (d:=d) (os:=os) (k2 _);clear k1 k2 a1 a2 e0 e1 e2 c1;refine wp_region_quiet_below (by kernel_rfl) (by kernel_rfl) ?_
 repeat (first|go_big_quiet_step (first|with_reducible exact c1' _ _|with_reducible exact c2 _ _)|quiet_step (first|with_reducible exact c1' _ _|with_reducible exact c2 _ _))
 refine wpQuiet_nil ?_;intro _ hw';obtain⟨⟨dq,osq⟩,hw''⟩:=hw';subst hw'';have hb2:=LZ hbw (below_regrown W dq osq);clear c1' c2 d1 d2;go_wp2_with fail
 go_ret2
 exact⟨by rw[<-lY];rfl,hb2⟩
structure LK(w W:World)(v:Value):Prop where
 below:B0 w W
 size:w.heap.size+2<=W.heap.size
 cd:W.cell? ⟨w.heap.size,0,none⟩=some v
 cr:W.cell? ⟨w.heap.size+1,0,none⟩=some (N0)
 fr:W.frozen? ⟨w.heap.size+1,0,none⟩=false
theorem LK.next(h:LK w W v)(hb:B0 W V):LK w V v:=
 ⟨LZ h.below hb,Nat.le_trans h.size hb.size,by rw[hb.cell (p:=⟨w.heap.size,0,none⟩) (by have:=h.size;show w.heap.size<_;omega)];exact h.cd,
  by rw[hb.cell (p:=⟨w.heap.size+1,0,none⟩) (by have:=h.size;show w.heap.size+1<_;omega)];exact h.cr,by rw[hb.frozen (p:=⟨w.heap.size+1,0,none⟩) (by have:=h.size;show w.heap.size+1<_;omega)];exact h.fr⟩
theorem LK.grown(h:LK w W v)(hg:W.grownBy V (some g))(hl:w.heap.size+2<=g):LK w V v:=by
 have hs:=h.size;have b0:V.heap[w.heap.size]?=W.heap[w.heap.size]? :=hg.block _ (by omega) (fun e=>by cases e;omega);have b1:V.heap[w.heap.size+1]?=W.heap[w.heap.size+1]? :=hg.block _ (by omega) (fun e=>by cases e;omega);exact⟨h.below.grown hg (by omega) (fun k e=>by cases e;omega),Nat.le_trans h.size hg.size,(World.cell?_of_block b0).trans h.cd,(World.cell?_of_block b1).trans h.cr,(World.frozen?_of_block b1).trans h.fr⟩
theorem LK.start(w:World)(v:Value)(t t':TypeId):LK w ((w.alloc (.cells #[v] t)).alloc (.cells #[N0] t')) v:=
 ⟨((Below.refl _ _).alloc (Nat.le_refl _) _).alloc (by simp) _,by simp,by simp,by simp,by simp⟩
theorem LK.alloc(h:LK w W v)(o:Obj):LK w (W.alloc o) v:=h.next ((Below.refl _ _).alloc (Nat.le_refl _) o)
theorem QG(h:Below W.drew.heap.size W.drew V):B0 W V:=((Below.refl _ W).drew).trans h
theorem CN5(v:Value)(fs:List DF)(name:List UInt8)(E:Int)(w:World)(hv:C9 w v fs)(hs:iR fs)(h:AQ9 fs name E):
  Calls prog 200 #[.agg #[v],S0 name] w (R0 w (.tuple #[.agg #[N0],I0 E])):=by
 obtain⟨a,n0,c,rfl⟩:=DK hv;have C:=fun W (hW:B0 w W)=>dW _ fs name E W (hv.next hW) hs h;have hne:(E !=0)=true:=by rcases h with⟨_,rfl⟩|⟨_,_,rfl⟩<;>decide
 clear hv hs h;go_enter func200,ntmps200;go_wp2_with fail;refine(C _ (((Below.refl _ _).alloc (Nat.le_refl _) _).alloc (by simp) _)).mono ?_;rintro e w1 ⟨rfl,hb1⟩;have hbz:=GU (GU hb1);have c1:w1.cell? ⟨w.heap.size+1,0,none⟩=some (N0):=by rw[hb1.cell (p:=⟨w.heap.size+1,0,none⟩) (by simp)];simp
 have f1:w1.frozen? ⟨w.heap.size+1,0,none⟩=false:=by rw[hb1.frozen (p:=⟨w.heap.size+1,0,none⟩) (by simp)];simp
 clear C hb1;go_wp2_with fail;exact bodyPost_ret (v:=.tuple #[.agg #[N0],I0 E]) (by simp[results,results200,go_sem,c1]) rfl ⟨rfl,hbz.setCell (by simp) _⟩
theorem AR0(v:Value)(fs:List DF)(name:List UInt8)(E:Int)(w:World)(hv:C9 w v fs)(hs:iR fs)(h:AQ9 fs name E):
  Calls prog 199 #[.agg #[v],S0 name] w (R0 w (.tuple #[.agg #[N0],I0 E])):=by
 obtain⟨a,n0,c,rfl⟩:=DK hv;have C:=fun W (hW:B0 w W)=>dW _ fs name E W (hv.next hW) hs h;have hne:(E !=0)=true:=by rcases h with⟨_,rfl⟩|⟨_,_,rfl⟩<;>decide
 clear hv hs h;go_enter func199,ntmps199;go_wp2_with fail;refine(C _ (((Below.refl _ _).alloc (Nat.le_refl _) _).alloc (by simp) _)).mono ?_;rintro e w1 ⟨rfl,hb1⟩;have hbz:=GU (GU hb1);have c1:w1.cell? ⟨w.heap.size+1,0,none⟩=some (N0):=by rw[hb1.cell (p:=⟨w.heap.size+1,0,none⟩) (by simp)];simp
 have f1:w1.frozen? ⟨w.heap.size+1,0,none⟩=false:=by rw[hb1.frozen (p:=⟨w.heap.size+1,0,none⟩) (by simp)];simp
 clear C hb1;go_wp2_with fail;exact bodyPost_ret (v:=.tuple #[.agg #[N0],I0 E]) (by simp[results,results199,go_sem,c1]) rfl ⟨rfl,hbz.setCell (by simp) _⟩
theorem UQ{B:Nat}(h:UO W B v fs){k:Nat}(hk:k<fs.length):∃g cap,v=.slice (some ⟨g,0,none⟩) fs.length cap/\B<=g/\Own W g cap fs:=by
 rcases h with⟨rfl,rfl⟩|h
 .simp at hk
 .exact h
theorem UR(v:Value)(fs A B:List DF)(f:DF)(name:List UInt8)(w:World)(hv:C9 w v fs)(hs:iR fs)(g:H6 fs)(T:There fs A f B name):
  Calls prog 200 #[.agg #[v],S0 name] w fun e w'=>∃v',e=.returned (.tuple #[.agg #[v'],I0 0])/\UO w' w.heap.size v' (A++⟨f.n,f.s++f.t,[]⟩::B)/\B0 w w':=by
 have C:=fun W (hW:B0 w W)=>P9 _ fs A B f name W (hv.next hW) hs g T;have CC:=fun W (hW:B0 w W)=>OH _ fs W (hv.next hW) hs g.few;obtain⟨b,off,cap,rfl,hb,hr,hk,hlt⟩:=TK hv T;have hfl:=JE (T.ok g);have HR:=AA hr;have HK:=AA hk;have HT:=AA T.eq;have hb0:b≠w.heap.size:=by omega
 have BV6:(A.length:Int)<(fs.length:Int):=by omega
 have CS:=fun W=>XQ f W (by omega);have CT:=fun(g c:Nat) (W:World) (ho:Own W g c fs)=>YZ g c A.length fs f (f.s.length+f.t.length) W ho hk (by omega) hfl;have hset:fs.set A.length ⟨f.n,(f.s++f.t).take (f.s.length+f.t.length),[]⟩=A++⟨f.n,f.s++f.t,[]⟩::B:=by rw[T.eq];simp[List.take_of_length_le]
 have hsl:fs.length=(A++⟨f.n,f.s++f.t,[]⟩::B).length:=by rw[T.eq];simp
 rw[hset]at CT;obtain⟨fs',BP9⟩:∃x,A++⟨f.n,f.s++f.t,[]⟩::B=x:=⟨_,rfl⟩;rw[BP9]at CT hsl⊢;have HSL:=AA hsl;obtain⟨L,hL⟩:∃L,f.s.length+f.t.length=L:=⟨_,rfl⟩;rw[hL]at CS hfl CT;clear hv hs g T hr hk hset BP9 hsl hL HT;go_enter func200,ntmps200;go_wp2_with fail;have X:=LK.start w (.slice (some ⟨b,off,none⟩) fs.length cap) 34 34;generalize (w.alloc (.cells #[.slice (some ⟨b,off,none⟩) fs.length cap] 34)).alloc (.cells #[N0] 34)=w0 at*;refine(C _ X.below).mono ?_;rintro e w1 ⟨rfl,hb1⟩;have X1:=X.next hb1;have HX:=AA X1;have cd:=X1.cd;have r:=(A8 HR).kept X1.below hb;have e0:=r.c0 (A8 HK);have e1:=r.c1 (A8 HK);have e2:=r.c2 (A8 HK);clear C hb1 r X X1;go_wp2_with fail;refine(CC _ (A8 HX).below).mono ?_;rintro e w2 ⟨v',rfl,ho,hb2⟩;obtain⟨g,cap2,rfl,hg,ho⟩:=UQ ho hlt;have hgl:=ho.lt;have hg2:w.heap.size+2<=g:=by have:=(A8 HX).size;omega
 have X2:=((A8 HX).next hb2).alloc (.cells #[.slice (some ⟨g,0,none⟩) fs.length cap2] 34);have ho2:=ho.alloc (.cells #[.slice (some ⟨g,0,none⟩) fs.length cap2] 34);have ca:(w2.alloc (.cells #[.slice (some ⟨g,0,none⟩) fs.length cap2] 34)).cell? ⟨w2.heap.size,0,none⟩=some (.slice (some ⟨g,0,none⟩) fs.length cap2):=by simp
 have haz:w2.heap.size<(w2.alloc (.cells #[.slice (some ⟨g,0,none⟩) fs.length cap2] 34)).heap.size:=by simp
 clear CC hb2 ho HX cd e0 e1 e2;go_wp2_with fail;generalize w2.alloc (.cells #[.slice (some ⟨g,0,none⟩) fs.length cap2] 34)=W at*;have HX:=AA X2;have HO:=AA ho2;have cd:=X2.cd;have r:=(A8 HR).kept X2.below hb;have e0:=r.c0 (A8 HK);have e1:=r.c1 (A8 HK);have e2:=r.c2 (A8 HK);clear r X2 ho2
 go_region_with (first
  |(go_at_call 134;refine(CS _).mono ?_;rintro e w3 ⟨rfl,hb3⟩;have ca3:w3.cell? ⟨w2.heap.size,0,none⟩=some (.slice (some ⟨g,0,none⟩) fs.length cap2):=(hb3.cell (p:=⟨w2.heap.size,0,none⟩) haz).trans ca)
  |(go_at_call 140;refine(CT g cap2 w3 ((A8 HO).next (QG hb3))).mono ?_;rintro e w4 ⟨rfl,ho4,hg4⟩))
 all_goals
  have X4:=((A8 HX).next (QG hb3)).grown hg4 hg2;have ca4:w4.cell? ⟨w2.heap.size,0,none⟩=some (.slice (some ⟨g,0,none⟩) fs.length cap2):=hg4.cell ca3 (fun e=>by have e3:w2.heap.size=g:=Option.some.inj e;omega);have cr:=X4.cr;have fr:=X4.fr;have HB:=AA X4.below;have HO4:=AA ho4;clear X4 ho4 hg4;clear CS CT;go_wp2_with fail;refine bodyPost_ret (v:=.tuple #[.agg #[.slice (some ⟨g,0,none⟩) fs.length cap2],I0 0]) (by simp[results,results200,go_sem,cr]) rfl ⟨_,rfl,.inr ⟨g,cap2,by rw[A8 HSL],by omega,(A8 HO4).other (by show g≠w.heap.size+1;omega) _⟩,(A8 HB).setCell (by simp) _⟩
theorem qO(v:Value)(fs A B:List DF)(f:DF)(name:List UInt8)(n:Nat)(w:World)(hv:C9 w v fs)(hs:iR fs)(g:H6 fs)(T:There fs A f B name)(hn:n<=f.s.length+f.t.length):
  Calls prog 101 #[.agg #[v],S0 name,I0 n] w fun e w'=>∃v',e=.returned (.tuple #[.agg #[v'],I0 0])/\UO w' w.heap.size v' (A++⟨f.n,(f.s++f.t).take n,[]⟩::B)/\B0 w w':=by
 have C:=fun W (hW:B0 w W)=>P9 _ fs A B f name W (hv.next hW) hs g T;have CC:=fun W (hW:B0 w W)=>OH _ fs W (hv.next hW) hs g.few;obtain⟨b,off,cap,rfl,hb,hr,hk,hlt⟩:=TK hv T;have hfl:=JE (T.ok g);have HR:=AA hr;have HK:=AA hk;have HT:=AA T.eq;have hb0:b≠w.heap.size:=by omega
 have BV6:(A.length:Int)<(fs.length:Int):=by omega
 have CS:=fun W=>XQ f W (by omega);have CT:=fun(g c:Nat) (W:World) (ho:Own W g c fs)=>YZ g c A.length fs f n W ho hk (by omega) hfl;have hset:fs.set A.length ⟨f.n,(f.s++f.t).take n,[]⟩=A++⟨f.n,(f.s++f.t).take n,[]⟩::B:=by rw[T.eq];simp
 have hsl:fs.length=(A++⟨f.n,(f.s++f.t).take n,[]⟩::B).length:=by rw[T.eq];simp
 rw[hset]at CT;obtain⟨fs',BP9⟩:∃x,A++⟨f.n,(f.s++f.t).take n,[]⟩::B=x:=⟨_,rfl⟩;rw[BP9]at CT hsl⊢;have HSL:=AA hsl;obtain⟨L,hL⟩:∃L,f.s.length+f.t.length=L:=⟨_,rfl⟩;rw[hL]at CS hfl hn;have hn0:¬ ((n:Int)<0):=by omega
 have hn1:¬ ((L:Int)<(n:Int)):=by omega
 clear hv hs g T hr hk hset BP9 hsl hL HT;go_enter func101,ntmps101;go_wp2_with fail;have X:=LK.start w (.slice (some ⟨b,off,none⟩) fs.length cap) 34 34;generalize (w.alloc (.cells #[.slice (some ⟨b,off,none⟩) fs.length cap] 34)).alloc (.cells #[N0] 34)=w0 at*;refine(C _ X.below).mono ?_;rintro e w1 ⟨rfl,hb1⟩;have X1:=X.next hb1;have HX:=AA X1;have cd:=X1.cd;have r:=(A8 HR).kept X1.below hb;have e0:=r.c0 (A8 HK);have e1:=r.c1 (A8 HK);have e2:=r.c2 (A8 HK);clear C hb1 r X X1;go_wp2_with fail;refine(CS _).mono ?_;rintro e wx ⟨rfl,hbx⟩;have X1:=(A8 HX).next hbx;clear HX;have HX:=AA X1;have cdx:=X1.cd;clear hbx X1;go_wp2_with fail;refine(CC _ (A8 HX).below).mono ?_;rintro e w2 ⟨v',rfl,ho,hb2⟩;obtain⟨g,cap2,rfl,hg,ho⟩:=UQ ho hlt;have hgl:=ho.lt;have hg2:w.heap.size+2<=g:=by have:=(A8 HX).size;omega
 have X2:=((A8 HX).next hb2).alloc (.cells #[.slice (some ⟨g,0,none⟩) fs.length cap2] 34);have ho2:=ho.alloc (.cells #[.slice (some ⟨g,0,none⟩) fs.length cap2] 34);have ca:(w2.alloc (.cells #[.slice (some ⟨g,0,none⟩) fs.length cap2] 34)).cell? ⟨w2.heap.size,0,none⟩=some (.slice (some ⟨g,0,none⟩) fs.length cap2):=by simp
 have haz:w2.heap.size<(w2.alloc (.cells #[.slice (some ⟨g,0,none⟩) fs.length cap2] 34)).heap.size:=by simp
 clear CC hb2 ho HX cd e0 e1 e2 cdx;go_wp2_with fail;generalize w2.alloc (.cells #[.slice (some ⟨g,0,none⟩) fs.length cap2] 34)=W at*;have HX:=AA X2;have HO:=AA ho2;have cd:=X2.cd;have r:=(A8 HR).kept X2.below hb;have e0:=r.c0 (A8 HK);have e1:=r.c1 (A8 HK);have e2:=r.c2 (A8 HK);clear r X2 ho2;refine(CT g cap2 W (A8 HO)).mono ?_;rintro e w4 ⟨rfl,ho4,hg4⟩
 all_goals
  have X4:=(A8 HX).grown hg4 hg2;have ca4:w4.cell? ⟨w2.heap.size,0,none⟩=some (.slice (some ⟨g,0,none⟩) fs.length cap2):=hg4.cell ca (fun e=>by have e3:w2.heap.size=g:=Option.some.inj e;omega);have cr:=X4.cr;have fr:=X4.fr;have HB:=AA X4.below;have HO4:=AA ho4;clear X4 ho4 hg4;clear CS CT;go_wp2_with fail;refine bodyPost_ret (v:=.tuple #[.agg #[.slice (some ⟨g,0,none⟩) fs.length cap2],I0 0]) (by simp[results,results101,go_sem,cr]) rfl ⟨_,rfl,.inr ⟨g,cap2,by rw[A8 HSL],by omega,(A8 HO4).other (by show g≠w.heap.size+1;omega) _⟩,(A8 HB).setCell (by simp) _⟩
def dX:List Value:=[.string ⟨#[]⟩,.string ⟨#[]⟩,.string ⟨#[]⟩]
theorem AC6(w:World)(ty:TypeId)(b o c:Nat)(hc:∀j,j<3->(w.cell? ⟨b,o+j,none⟩).isSome=true)(hf:∀j,j<3->w.frozen? ⟨b,o+j,none⟩=false):
  (Builtin.clear_ #[32] ty #[.slice (some ⟨b,o,none⟩) 1 c]).run prog w=.ok (.tuple #[]) (w.setCells b o dX):=by
 have hzc:(Builtin.zeroCells (Value.agg #[.string ⟨#[]⟩,.string ⟨#[]⟩,.string ⟨#[]⟩]).cells 1).toList=dX:=by kernel_rfl
 have hst:=run_storeCells_cells (P:=prog) b o dX 0 w (by simpa [dX]using hc) (by simpa [dX]using hf) (by simp[dX,Value.oneCell']);simp only[Nat.add_zero]at hst;simp[Builtin.clear_,run_underlying underlying32,hzc,hst]
theorem Own.some(h:Own W g cap fs){j:Nat}(hj:j<cap*3):(W.cell? ⟨g,j,none⟩).isSome=true:=by
 obtain⟨rest,h1,h2,_⟩:=h;have hl:j<(BG fs++rest).length:=by rw[List.length_append,BF,h2];exact hj
 rw[List.length_append]at hl;simp[World.cell?,h1,hl]
theorem wO(g cap:Nat)(A B:List DF)(f:DF)(n:Nat)(w:World)(ho:Own w g cap (A++f::B))(hn:n=A.length+B.length+1)(hsm:n<=1000):
  Calls prog 235 #[.slice (some ⟨g,0,none⟩) n cap,I0 A.length,I0 (A.length+1:Nat)] w fun e w'=>
   e=.returned (.slice (some ⟨g,0,none⟩) (A.length+B.length) cap)/\Own w' g cap (A++B)/\w.grownBy w' (some g):=by
 obtain⟨i0,hi0,hz0,hz1,hz2⟩:=QF;have hle:=ho.le;have hcl:=ho.capLe;simp only[maxLen]at hcl;rw[List.length_append,List.length_cons]at hle;have hrow:=ho.row;obtain⟨AD,hAD,hsrc⟩:∃AD:Addr,(if cap=A.length+1 then some (⟨g,0,none⟩:Addr)else some ⟨g,(A.length+1)*3,none⟩)=some AD/\Hid (∀t u,(BG B)[t]?=some u->w.drew.cell? (AD.add t)=some u):=by
  by_cases h:cap=A.length+1
  .refine⟨⟨g,0,none⟩,by simp[h],fun t u hu=>?_⟩;have h0:B=[]:=List.eq_nil_of_length_eq_zero (by omega);rw[h0]at hu;simp[BG]at hu
  .refine⟨⟨g,(A.length+1)*3,none⟩,by simp[h],fun t u hu=>?_⟩;rw[Addr.add_lit];have:=hrow ((A.length+1)*3+t) u (by
    rw[F6,List.getElem?_append_right (by rw[BF];omega),BF,BG,List.getElem?_append_right (by simp[EH];omega)];simp only[EH,List.length_cons,List.length_nil];rw[<-hu];congr 1;omega)
   rw[Nat.zero_add]at this;exact this
 have s1:Hid ((BG B).length=B.length*3):=BF B;have s2:Hid (∀u∈BG B,u.oneCell'=true):=UN B;have s3:Hid (∀t,t<(BG B).length->(w.drew.cell? ⟨g,0+A.length*3+t,none⟩).isSome=true/\w.drew.frozen? ⟨g,0+A.length*3+t,none⟩=false):=by
  intro t ht;rw[BF]at ht;exact⟨ho.some (by omega),ho.frozen _⟩
 obtain⟨W1,hW1⟩:∃W1,W1=w.drew.setCells g (0+A.length*3) (BG B):=⟨_,rfl⟩;have ho1:Own W1 g cap (A++B):=by rw[hW1,Nat.zero_add];exact ho.drew.splice B (by omega)
 have hg1:w.grownBy W1 (some g):=by rw[hW1];have:=H8 (g:=g) (BG B) (0+A.length*3) w.drew;exact⟨this.os,this.tape,this.output,this.size,this.block⟩
 have CL8:∀ty c,(Builtin.clear_ #[32] ty #[.slice (some ⟨g,(A.length+B.length)*3,none⟩) 1 c]).run prog W1=.ok (.tuple #[]) (W1.setCells g ((A.length+B.length)*3) dX):=fun ty c=>
  AC6 W1 ty g _ c (fun j hj=>ho1.some (by omega)) (fun j hj=>ho1.frozen _)
 have FIN:Hid (Own (W1.setCells g ((A.length+B.length)*3) dX) g cap (A++B)/\w.grownBy (W1.setCells g ((A.length+B.length)*3) dX) (some g)):=
  ⟨ho1.spare dX _ (by rw[List.length_append];omega) (by simp[dX];omega),OL hg1 (H8 _ _ _)⟩
 have hW:Hid (W1=w.drew.setCells g (0+A.length*3) (BG B)):=hW1;have hic:A.length<=cap:=by omega
 have hjc:A.length+1<=cap:=by omega
 have hne:¬ (cap=A.length+B.length):=by omega
 have hb1:(0:Int)<=(A.length:Int)+1:=by omega
 have hb2:(A.length:Int)<=(A.length:Int)+(B.length:Int):=by omega
 have hb3:(0:Int)<=(A.length:Int)+(B.length:Int):=by omega
 have hs1:A.length+B.length+1-(A.length+B.length)=1:=by omega
 clear hW1 ho1 hg1 hrow ho;subst hn;go_enter func235,ntmps235;go_wp2_with fail
 go_region_law (refine step_append_room rfl (.tmp 22) (.tmp 25) 32 rfl 93 i0 3 underlying32 hi0 hz1 g 0 A.length cap (by simp[Act.eval,Act.put]) AD B.length (cap-(A.length+1)) (BG B) (by simp[Act.eval,Act.put]) s1.out hsrc.out s2.out (by omega) s3.out ?_;rw[<-hW.out])
 go_wp2
 go_ret;exact⟨rfl,FIN.out⟩
theorem qP(v:Value)(fs A B:List DF)(f:DF)(name:List UInt8)(w:World)(hv:C9 w v fs)(hs:iR fs)(g:H6 fs)(T:There fs A f B name):
  Calls prog 199 #[.agg #[v],S0 name] w fun e w'=>∃v',e=.returned (.tuple #[.agg #[v'],I0 0])/\UO w' w.heap.size v' (A++B)/\B0 w w':=by
 have C:=fun W (hW:B0 w W)=>P9 _ fs A B f name W (hv.next hW) hs g T;have CC:=fun W (hW:B0 w W)=>OH _ fs W (hv.next hW) hs g.few;obtain⟨b,off,cap,rfl,hb,hr,hk,hlt⟩:=TK hv T;have hb0:b≠w.heap.size:=by omega
 have hsm:=g.few;have hlen:fs.length=A.length+B.length+1:=by rw[T.eq];simp;omega
 have CD:=fun(q c:Nat) (W:World) (ho:Own W q c fs)=>wO q c A B f fs.length W (by rw[<-T.eq];exact ho) hlen (by omega);have HL:=AA hlen;clear hv hs g T hr hk hlen;go_enter func199,ntmps199;go_wp2_with fail;have X:=LK.start w (.slice (some ⟨b,off,none⟩) fs.length cap) 34 34;generalize (w.alloc (.cells #[.slice (some ⟨b,off,none⟩) fs.length cap] 34)).alloc (.cells #[N0] 34)=w0 at*;refine(C _ X.below).mono ?_;rintro e w1 ⟨rfl,hb1⟩;have X1:=X.next hb1;have HX:=AA X1;have cd:=X1.cd;clear C hb1 X X1;go_wp2_with fail;refine(CC _ (A8 HX).below).mono ?_;rintro e w2 ⟨v',rfl,ho,hb2⟩;obtain⟨q,cap2,rfl,hq,ho⟩:=UQ ho hlt;have hql:=ho.lt;have hq2:w.heap.size+2<=q:=by have:=(A8 HX).size;omega
 have X2:=((A8 HX).next hb2).alloc (.cells #[.slice (some ⟨q,0,none⟩) fs.length cap2] 34);have ho2:=ho.alloc (.cells #[.slice (some ⟨q,0,none⟩) fs.length cap2] 34);have ca:(w2.alloc (.cells #[.slice (some ⟨q,0,none⟩) fs.length cap2] 34)).cell? ⟨w2.heap.size,0,none⟩=some (.slice (some ⟨q,0,none⟩) fs.length cap2):=by simp
 have fa:(w2.alloc (.cells #[.slice (some ⟨q,0,none⟩) fs.length cap2] 34)).frozen? ⟨w2.heap.size,0,none⟩=false:=by simp
 have hz2:w.heap.size+2<=w2.heap.size:=by omega
 have haz:w2.heap.size<(w2.alloc (.cells #[.slice (some ⟨q,0,none⟩) fs.length cap2] 34)).heap.size:=by simp
 clear CC hb2 ho HX cd;go_wp2_with fail;generalize w2.alloc (.cells #[.slice (some ⟨q,0,none⟩) fs.length cap2] 34)=W at*;refine(CD q cap2 _ ho2).mono ?_;rintro e w4 ⟨rfl,ho4,hg4⟩;have X4:=X2.grown hg4 hq2;have ca4:w4.cell? ⟨w2.heap.size,0,none⟩=some (.slice (some ⟨q,0,none⟩) fs.length cap2):=hg4.cell ca (fun e=>by have e3:w2.heap.size=q:=Option.some.inj e;omega);have fa4:w4.frozen? ⟨w2.heap.size,0,none⟩=false:=(World.frozen?_of_block (hg4.block w2.heap.size haz (fun e=>by have e3:w2.heap.size=q:=Option.some.inj e;omega))).trans fa;have cr:=X4.cr;have fr:=X4.fr;have HB:=AA X4.below;have HO4:=AA ho4;clear X4 ho4 hg4 X2 ho2 CD ca fa;go_wp2_with fail;exact bodyPost_ret (v:=.tuple #[.agg #[.slice (some ⟨q,0,none⟩) (A.length+B.length) cap2],I0 0]) (by simp[results,results199,go_sem,cr]) rfl
  ⟨_,rfl,.inr ⟨q,cap2,by rw[List.length_append],by omega,((A8 HO4).other (by show q≠w2.heap.size;omega) _).other (by show q≠w.heap.size+1;omega) _⟩,((A8 HB).setCell (by show w.heap.size<=w2.heap.size;omega) _).setCell (by simp) _⟩
theorem XU(w:World)(ty:TypeId)(b o dLen dCap:Nat)(a:Addr)(sLen sCap:Nat)(cs:List Value)(hn:cs.length=Nat.min sLen dLen*3)
  (hsrc:∀j v,cs[j]?=some v->w.cell? (a.add j)=some v) (hc:∀j,j<cs.length->(w.cell? ⟨b,o+j,none⟩).isSome=true) (hf:∀j,j<cs.length->w.frozen? ⟨b,o+j,none⟩=false) (h1:∀v∈cs,v.oneCell'=true):
  (Builtin.copy_ #[32,32] ty #[.slice (some ⟨b,o,none⟩) dLen dCap,.slice (some a) sLen sCap]).run prog w=.ok (goInt (Nat.min sLen dLen)) (w.setCells b o cs):=by
 have hl:=run_loadCells_list (P:=prog) w a cs hsrc;have hst:=run_storeCells_cells (P:=prog) b o cs 0 w (by simpa using hc) (by simpa using hf) h1;obtain⟨i0,hi0,hz0,hz1,hz2⟩:=QF;simp[Builtin.copy_,run_underlying underlying32,Builtin.lenOf,Builtin.firstCells,sizeOf,typeInfo,hi0,hz1,<-hn,hl,hst]
theorem qQ(w:World){o:Oper}{a:Act}{K:Act->World->Prop}{Q:Exit->Act->World->Prop}(d s:Operand)(t t':TypeId)
  (ho:o.op=.call {callee:=.builtin .copy,args:=#[d,s],argTypes:=#[t,t']}) (v u:Value) (hd:a.eval d=v) (hs:a.eval s=u) {v':Value} {w':World}
  (hr:(Builtin.copy_ #[t,t'] o.type #[v,u]).run prog w=.ok v' w') (h:K (a.put o.dst v') w'):o.wp prog a w K Q:=by
 unfold Oper.wp execOp;simp only[ho,resolve,invoke,builtin,Sem.run_bind,Sem.run_pure,Result.andThen_ok,List.map_toArray,List.map_cons,List.map_nil,hd,hs,hr];exact h
theorem S9(w:World){ops:Array Oper}{rest:List Oper}{o:Oper}{a:Act}{Q:Exit->Act->World->Prop}(hgd:o.guard=none)(d s:Operand)(t t':TypeId)
  (ho:o.op=.call {callee:=.builtin .copy,args:=#[d,s],argTypes:=#[t,t']}) (v u:Value) (hd:a.eval d=v) (hs:a.eval s=u) {v':Value} {w':World}
  (hr:(Builtin.copy_ #[t,t'] o.type #[v,u]).run prog w=.ok v' w') (h:wpList prog ops Q rest (a.put o.dst v') w'):wpList prog ops Q (o::rest) a w:=
 wpList_plain hgd fun _ hK=>qQ w d s t t' ho v u hd hs hr (hK _ _ h)
theorem VJ{ops:Array Oper}{o:Oper}{a:Act}{w:World}{K:Act->World->Prop}{Q:Exit->Act->World->Prop}{E:Prop}
  (hg:o.guard=none) (d x:Operand) (dT sT:TypeId) (hop:o.op=Op.call {callee:=Callee.builtin Builtin.copy,args:=#[d,x],argTypes:=#[dT,sT]})
  (v u:Value) (hd:a.eval d=v) (hx:a.eval x=u) {v':Value} {w':World} (hr:(Builtin.copy_ #[dT,sT] o.type #[v,u]).run prog w=.ok v' w') (hK:K (a.put o.dst v') w'):
  if Region.wanted o (yielded ops a.tmps)=true then Oper.wp prog o a w K Q else E:=by
 have hw:Region.wanted o (yielded ops a.tmps)=true:=by simp[Region.wanted,hg]
 rw[if_pos hw];unfold Oper.wp;simp[execOp,hop,resolve,invoke,builtin,hd,hx,hr,Result.andThen];exact hK
def One(W:World)(b:Nat)(x:DF):Prop:=W.heap[b]?=some (.cells (EH x).toArray 93 (0,0))
theorem One.row{b:Nat}{x:DF}(h:One W b x):∀j v,(EH x)[j]?=some v->W.cell? ⟨b,0+j,none⟩=some v:=by
 intro j v hj;unfold One at h;have:(EH x).toArray[j]?=some v:=by simpa using hj
 simp[World.cell?,h,hj]
theorem UU(x:DF):∀u∈EH x,u.oneCell'=true:=by
 intro u h;simp[EH]at h;rcases h with rfl|rfl|rfl<;>rfl
theorem wR(v:Value)(A:List DF)(x:DF)(B b:Nat)(w:World)(ho:UO w B v A)(hB:B<=w.heap.size)(hl:A.length<=16)(h1:One w b x):
  Calls prog 136 #[v,I0 A.length,.slice (some ⟨b,0,none⟩) 1 1] w fun e w'=>
   ∃v',e=.returned v'/\UO w' B v' (A++[x])/\w.grownBy w' v.ownBlock:=by
 obtain⟨i0,hi0,hz0,hz1,hz2⟩:=QF;have hrow:=ho.row;have HR:=AA hrow;have H1:=AA h1.row;have V:∃a c,v=.slice a A.length c/\A.length<=c:=by
  rcases ho with⟨rfl,rfl⟩|⟨g,cap,rfl,_,h⟩
  .exact⟨none,0,rfl,Nat.le_refl _⟩
  .exact⟨_,cap,rfl,h.le⟩
 obtain⟨a,c,rfl,hc⟩:=V;clear ho hrow h1;rcases Nat.lt_or_ge A.length c with hcl|hcl
 .have hne:¬c=A.length:=by omega
  go_enter func136,ntmps136;go_wp2_with (at_builtin;refine wpList_append_own _ rfl _ _ 32 rfl B 93 i0 _ 3 48 underlying32 hi0 hz0 hz1 hz2 rfl (by decide) _ A.length (BG A) rfl (A8 HR) ⟨b,0,none⟩ 1 1 (EH x) rfl (by rfl) ?qc2 (UU x) ?qc4 ?qc5 hB ?_)
  case qc2=>
   intro j u hj;rw[Addr.add_lit];exact A8 H1 j u hj
  case qc4=>simp only[maxLen];omega
  case qc5=>omega
  intro v' w1 hown hgrow _
  go_wp2
  go_ret;exact⟨v',rfl,UO.G8 (by rw[List.length_append,F6];simpa [BG]using hown),hgrow⟩
 .obtain rfl:c=A.length:=by omega
  go_enter func136,ntmps136;go_wp2_with (at_builtin;refine wpList_append_own _ rfl _ _ 32 rfl B 93 i0 _ 3 48 underlying32 hi0 hz0 hz1 hz2 rfl (by decide) _ A.length (BG A) rfl (A8 HR) ⟨b,0,none⟩ 1 1 (EH x) rfl (by rfl) ?qc2 (UU x) ?qc4 ?qc5 hB ?_)
  case qc2=>
   intro j u hj;rw[Addr.add_lit];exact A8 H1 j u hj
  case qc4=>simp only[maxLen];omega
  case qc5=>omega
  intro v' w1 hown hgrow _
  go_wp2
  go_ret;exact⟨v',rfl,UO.G8 (by rw[List.length_append,F6];simpa [BG]using hown),hgrow⟩
theorem lZ(g cap:Nat)(A R:List DF)(y x:DF)(n b:Nat)(w:World)(ho:Own w g cap (A++y::R))(hn:n=A.length+R.length+1)(hsm:n<=16)(hroom:n+1<=cap)(h1:One w b x)(hbg:b≠g):
  Calls prog 136 #[.slice (some ⟨g,0,none⟩) n cap,I0 A.length,.slice (some ⟨b,0,none⟩) 1 1] w fun e w'=>
   e=.returned (.slice (some ⟨g,0,none⟩) (n+1) cap)/\Own w' g cap (A++x::y::R)/\w.grownBy w' (some g):=by
 have hcl:=ho.capLe;simp only[maxLen]at hcl;have hrow:=ho.row;have AR1:w.shape? g=some (93,cap*3):=by
  obtain⟨rest,q1,q2,_⟩:=ho;rw[List.length_append,List.length_cons]at q2;simp[World.shape?,q1,BF,q2]
 have AR2:w.shape? b=some (93,3):=by unfold One at h1;simp[World.shape?,h1,EH]
 have hfb:∀j,w.frozen? ⟨b,j,none⟩=false:=fun j=>by unfold One at h1;simp[World.frozen?,h1]
 have hov:∀lb cb,(callFunc 172 #[.slice (some ⟨b,0,none⟩) 1 1,.slice (some ⟨g,(A.length+1)*3,none⟩) lb cb]).run prog w=.ok (.value (.bool false)) w:=fun lb cb=>by
  rw[run_callFunc_extern func172 (by kernel_rfl) (by kernel_rfl) (by kernel_rfl) (e:=Extern.SlicesOverlaps.overlaps #[32,32] #[4]) (by kernel_rfl),
   Lib.run_overlaps_apart w 32 4 93 underlying32 3 sizeOf93 ⟨b,0,none⟩ ⟨g,(A.length+1)*3,none⟩ 1 1 lb cb hbg 93 93 3 (cap*3) AR2 AR1 (by omega) (hfb 0) (hfb 3)]
  rfl
 obtain⟨W1,hW1⟩:∃W1,W1=w.drew.setCells g ((A.length+1)*3) (BG (y::R)):=⟨_,rfl⟩;have ho1:Own W1 g cap (A++y::y::R):=by
  have h:Own w.drew g cap ((A++[y])++R):=by rw[List.append_assoc];exact ho
  have:=h.splice (y::R) (by simp;omega);rw[hW1];simpa using this
 have hg1:w.grownBy W1 (some g):=by rw[hW1];have:=H8 (g:=g) (BG (y::R)) ((A.length+1)*3) w.drew;exact⟨this.os,this.tape,this.output,this.size,this.block⟩
 have hcp1:∀ty dc sc,(Builtin.copy_ #[32,32] ty #[.slice (some ⟨g,(A.length+1)*3,none⟩) (n-A.length) dc,.slice (some ⟨g,A.length*3,none⟩) (n+1-A.length) sc]).run prog w.drew=.ok (goInt (Nat.min (n+1-A.length) (n-A.length))) W1:=fun ty dc sc=>by
  rw[hW1];exact XU w.drew ty g _ _ dc ⟨g,A.length*3,none⟩ _ sc (BG (y::R)) (by rw[BF];simp only[Nat.min_def,List.length_cons];split<;>omega)
   (fun j v hj=>by
    rw[Addr.add_lit];have:=hrow (A.length*3+j) v (by rw[F6,List.getElem?_append_right (by rw[BF];omega),BF,Nat.add_sub_cancel_left];exact hj);rw[Nat.zero_add]at this;exact this)
   (fun j hj=>by rw[BF]at hj;exact ho.some (by simp at hj;omega)) (fun j _=>ho.frozen _) (UN _)
 have hcp2:∀ty dc,(Builtin.copy_ #[32,32] ty #[.slice (some ⟨g,A.length*3,none⟩) (n+1-A.length) dc,.slice (some ⟨b,0,none⟩) 1 1]).run prog W1=.ok (goInt (Nat.min 1 (n+1-A.length))) (W1.setCells g (A.length*3) (EH x)):=fun ty dc=>
  XU W1 ty g _ _ dc ⟨b,0,none⟩ 1 1 (EH x) (by simp only[Nat.min_def,EH,List.length_cons,List.length_nil];split<;>omega)
   (fun j v hj=>by
    rw[Addr.add_lit];have hb2:W1.heap[b]?=w.heap[b]? :=hg1.block b (by unfold One at h1;exact(Array.getElem?_eq_some_iff.1 h1).1) (fun e=>hbg (Option.some.inj e));have h2:One W1 b x:=hb2.trans h1;exact h2.row j v hj)
   (fun j hj=>ho1.some (by simp[EH]at hj;omega)) (fun j _=>ho1.frozen _) (UU x)
 have FIN:Hid (Own (W1.setCells g (A.length*3) (EH x)) g cap (A++x::y::R)/\w.grownBy (W1.setCells g (A.length*3) (EH x)) (some g)):=
  ⟨ho1.qJ x,OL hg1 (H8 _ _ _)⟩
 have hin:A.length<n:=by omega
 have BV7:(A.length:Int)<(n:Int):=by omega
 have hw1:IntKind.i64.wrap ((A.length:Int)+1)=(A.length:Int)+1:=by rw[IntKind.wrap_i64];omega
 have hb1:(0:Int)<=(A.length:Int)+1:=by omega
 have hb2:¬ (cap=A.length+1):=by omega
 have hb3:(A.length:Int)<=(n:Int)+1:=by omega
 have hb4:¬ (cap=A.length):=by omega
 have hb5:(A.length:Int)+1<=(n:Int)+1:=by omega
 have hb6:¬ ((cap:Int)<(n:Int)+1):=by omega
 have hz2:¬ ((A.length:Int)=(n:Int)):=by omega
 have htn:((A.length:Int)+1).toNat=A.length+1:=by omega
 clear hW1 ho1 hg1 hrow AR1 AR2 hfb ho h1 hn;go_enter func136,ntmps136;go_wp2_with (simp only[hov])
 go_region_law (refine VJ rfl (.tmp 73) (.tmp 76) 32 32 rfl (.slice (some ⟨g,(A.length+1)*3,none⟩) (n-A.length) (cap-(A.length+1))) (.slice (some ⟨g,A.length*3,none⟩) (n+1-A.length) (cap-A.length)) (by simp[Act.eval,Act.put]) (by simp[Act.eval,Act.put]) (hcp1 _ _ _) ?_)
 go_wp2_with (at_builtin;refine S9 _ rfl _ _ 32 32 rfl _ _ rfl rfl (hcp2 _ _) ?_);go_ret;exact⟨rfl,FIN.out⟩
theorem wU(k:Nat):(Builtin.zeroCells (Value.agg #[.string ⟨#[]⟩,.string ⟨#[]⟩,.string ⟨#[]⟩]).cells k).size=k*3:=by
 simp[Builtin.zeroCells,Value.cells]
theorem qR(g cap:Nat)(A R:List DF)(y x:DF)(n b:Nat)(w:World)(ho:Own w g cap (A++y::R))(hn:n=A.length+R.length+1)(hsm:n<=16)(hroom:cap<n+1)(h1:One w b x):
  Calls prog 136 #[.slice (some ⟨g,0,none⟩) n cap,I0 A.length,.slice (some ⟨b,0,none⟩) 1 1] w fun e w'=>
   ∃cap',e=.returned (.slice (some ⟨w.heap.size,0,none⟩) (n+1) cap')/\Own w' w.heap.size cap' (A++x::y::R)/\B0 w w':=by
 have hcap:cap=n:=by have:=ho.le;simp at this;omega
 obtain⟨i0,hi0,hz0,hz1,hz2⟩:=QF;have hrow:=ho.row;have hgw:=ho.lt;have hbw:b<w.heap.size:=by unfold One at h1;exact(Array.getElem?_eq_some_iff.1 h1).1
 have hold:(Builtin.firstCells i0.size A.length (.slice (some ⟨g,0,none⟩) A.length cap)).run prog w.drew=.ok (BG A).toArray w.drew:=by
  rw[hz1];exact run_firstCells_some w.drew 3 A.length ⟨g,0,none⟩ A.length cap (BG A) (BF A) (fun j v hj=>by
   rw[Addr.add_lit];exact hrow j v (by rw[F6,List.getElem?_append_left (List.getElem?_eq_some_iff.1 hj).1];exact hj))
 obtain⟨G,hG⟩:∃G,G=grownCap w (n+1) cap 93:=⟨_,rfl⟩;have hGn:n+1<=G:=by rw[hG];exact grownCap_ge w _ _ _
 have hGm:G<=maxLen:=by rw[hG];exact grownCap_le_maxLen w (n+1) cap _ (by unfold maxLen;omega)
 have hG63:G<=9223372036854775807:=by have:=hGm;unfold maxLen at this;omega
 obtain⟨ROW,hROW⟩:∃ROW:Array Value,ROW=(BG A).toArray++Builtin.zeroCells (Value.agg #[.string ⟨#[]⟩,.string ⟨#[]⟩,.string ⟨#[]⟩]).cells (n+1-A.length)++Builtin.zeroCells (Value.agg #[.string ⟨#[]⟩,.string ⟨#[]⟩,.string ⟨#[]⟩]).cells (G-(n+1)):=⟨_,rfl⟩;obtain⟨W1,hW1⟩:∃W1,W1=w.drew.alloc (.cells ROW 93):=⟨_,rfl⟩;have hik:A.length+(n+1-A.length)=n+1:=by omega
 have hrz:∀ty,(Builtin.append_ #[32,3] ty #[.slice (some ⟨g,0,none⟩) A.length cap,I0 ((n:Int)+1-(A.length:Int))]).run prog w=
   .ok (.slice (some ⟨w.heap.size,0,none⟩) (n+1) G) W1:=fun ty=>by
  have h:=Lib.run_append_grow_zeros w 32 3 ty 93 i0 _ .i64 .i64 underlying32 underlying3 hi0 hz0 (some ⟨g,0,none⟩) A.length cap (BG A) hold (n+1-A.length) (by omega) (by omega) (by omega) (by omega) (by rw[hz2];omega) (by rw[hz2,hik];exact growslice_fits hroom (by omega));rw[hik,<-hG,<-hROW,<-hW1]at h;rw[show (n:Int)+1-(A.length:Int)=((n+1-A.length:Nat):Int) by omega];exact h
 have ho1:Own W1 w.heap.size G A:=by
  refine⟨(Builtin.zeroCells (Value.agg #[.string ⟨#[]⟩,.string ⟨#[]⟩,.string ⟨#[]⟩]).cells (n+1-A.length)++Builtin.zeroCells (Value.agg #[.string ⟨#[]⟩,.string ⟨#[]⟩,.string ⟨#[]⟩]).cells (G-(n+1))).toList,?_,?_,hGm⟩
  .rw[hW1,hROW];have:=heap_alloc_new w.drew (.cells ((BG A).toArray++Builtin.zeroCells (Value.agg #[.string ⟨#[]⟩,.string ⟨#[]⟩,.string ⟨#[]⟩]).cells (n+1-A.length)++Builtin.zeroCells (Value.agg #[.string ⟨#[]⟩,.string ⟨#[]⟩,.string ⟨#[]⟩]).cells (G-(n+1))) 93);refine Eq.trans this ?_
   congr 2
   apply Array.toList_inj.1
   simp
  .simp only[Array.length_toList,Array.size_append,wU];omega
 have hB1:B0 w W1:=by rw[hW1];exact((Below.refl _ w).drew).alloc (Nat.le_refl _) _
 obtain⟨W2,hW2⟩:∃W2,W2=W1.setCells w.heap.size (A.length*3) (EH x):=⟨_,rfl⟩;have ho2:Own W2 w.heap.size G (A++[x]):=by
  have h:Own W1 w.heap.size G (A++[]):=by rw[List.append_nil];exact ho1
  have:=h.splice [x] (by simp;omega);rw[hW2];simpa [BG]using this
 have hg2:W1.grownBy W2 (some w.heap.size):=by rw[hW2];exact H8 _ _ _
 have hB2:B0 w W2:=hB1.grown hg2 hB1.size (fun k e=>by cases e;exact Nat.le_refl _);have hcpA:∀ty dc,(Builtin.copy_ #[32,32] ty #[.slice (some ⟨w.heap.size,A.length*3,none⟩) (n+1-A.length) dc,.slice (some ⟨b,0,none⟩) 1 1]).run prog W1=.ok (goInt (Nat.min 1 (n+1-A.length))) W2:=fun ty dc=>by
  rw[hW2];exact XU W1 ty w.heap.size _ _ dc ⟨b,0,none⟩ 1 1 (EH x) (by simp only[Nat.min_def,EH,List.length_cons,List.length_nil];split<;>omega)
   (fun j v hj=>by rw[Addr.add_lit];exact(show One W1 b x from(hB1.block b hbw).trans h1).row j v hj)
   (fun j hj=>ho1.some (by simp[EH]at hj;omega)) (fun j _=>ho1.frozen _) (UU x)
 obtain⟨W3,hW3⟩:∃W3,W3=W2.drew.setCells w.heap.size ((A.length+1)*3) (BG (y::R)):=⟨_,rfl⟩;have hcpB:∀ty dc sc,(Builtin.copy_ #[32,32] ty #[.slice (some ⟨w.heap.size,(A.length+1)*3,none⟩) (n-A.length) dc,.slice (some ⟨g,A.length*3,none⟩) (n-A.length) sc]).run prog W2.drew=.ok (goInt (Nat.min (n-A.length) (n-A.length))) W3:=fun ty dc sc=>by
  rw[hW3];exact XU W2.drew ty w.heap.size _ _ dc ⟨g,A.length*3,none⟩ _ sc (BG (y::R)) (by rw[BF];simp only[Nat.min_self,List.length_cons];omega)
   (fun j v hj=>by
    rw[Addr.add_lit];have:=hrow (A.length*3+j) v (by rw[F6,List.getElem?_append_right (by rw[BF];omega),BF,Nat.add_sub_cancel_left];exact hj);rw[Nat.zero_add]at this;exact(hB2.cell (p:=⟨g,A.length*3+j,none⟩) hgw).trans this)
   (fun j hj=>by rw[BF]at hj;exact ho2.drew.some (by simp at hj;omega)) (fun j _=>ho2.drew.frozen _) (UN _)
 have FIN:Hid (Own W3 w.heap.size G (A++x::y::R)/\B0 w W3):=by
  refine⟨?_,?_⟩
  .have h:Own W2.drew w.heap.size G ((A++[x])++[]):=by rw[List.append_nil];exact ho2
   have:=h.splice (y::R) (by simp;omega);rw[hW3];simpa using this
  .rw[hW3];exact hB2.drew.grown (H8 _ _ _) hB2.size (fun k e=>by cases e;exact Nat.le_refl _)
 have hin:A.length<n:=by omega
 have BV7:(A.length:Int)<(n:Int):=by omega
 have hw1:IntKind.i64.wrap ((A.length:Int)+1)=(A.length:Int)+1:=by rw[IntKind.wrap_i64];omega
 have hb1:(0:Int)<=(A.length:Int)+1:=by omega
 have hb2:¬ (G=A.length+1):=by omega
 have hb3:(A.length:Int)<=(n:Int)+1:=by omega
 have hb4:¬ (n=A.length):=by omega
 have hb5:(A.length:Int)+1<=(n:Int)+1:=by omega
 have hb6:¬ (G=A.length):=by omega
 have hb7:(A.length:Int)<=(n:Int):=by omega
 have hz3:¬ ((A.length:Int)=(n:Int)):=by omega
 have htn:((A.length:Int)+1).toNat=A.length+1:=by omega
 subst hcap;clear hn hROW hW1 hW2 hW3 hG hrow ho h1 ho1 ho2 hB1 hB2 hg2 hold hik;go_enter func136,ntmps136;go_wp2_with (first
  |(at_builtin;refine Lib.wpList_append_run _ rfl _ _ _ _ rfl _ _ rfl rfl _ _ (hrz _) ?_)
  |(at_builtin;refine S9 _ rfl _ _ 32 32 rfl _ _ rfl rfl (hcpA _ _) ?_))
 go_region_law (refine VJ rfl (.tmp 50) (.tmp 53) 32 32 rfl (.slice (some ⟨w.heap.size,(A.length+1)*3,none⟩) (cap-A.length) (G-(A.length+1))) (.slice (some ⟨g,A.length*3,none⟩) (cap-A.length) (cap-A.length)) (by simp[Act.eval,Act.put]) (by simp[Act.eval,Act.put]) (hcpB _ _ _) ?_)
 go_wp2
 go_ret;exact⟨G,rfl,FIN.out⟩
