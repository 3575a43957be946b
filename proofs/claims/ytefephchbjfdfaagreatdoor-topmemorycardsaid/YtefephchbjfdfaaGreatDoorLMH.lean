/-
  Part.
-/
import Derived.Test.YtefephchbjfdfaaGreatDoorLMC
import Derived.Deep.RegionHeld3
import Derived.Lib.JoinLaws
import Derived.Lib.AppendZerosOnto
import Derived.Lib.Overlaps
set_option maxRecDepth 20000
set_option maxHeartbeats 8000000
namespace Go.Proofs.YtefephchbjfdfaaGreatDoor
open Go.RowKit Go.Proofs.Tryz
open _root_.Nat renaming le_refl->AA,lt_of_lt_of_le->AY,zero_le->AZ,zero_add->BK,le_trans->BP,add_sub_cancel_left->FH
open Go.RowKit.Below renaming refl->AB
open _root_.Array renaming getElem?_eq_some_iff->AL
open _root_.List renaming getElem?_eq_getElem->AO,length_append->AP,getElem?_eq_some_iff->AV,mem_of_getElem?->BA,getElem?_append_right->BD,length_cons->BH,getElem?_append_left->BN,take_of_length_le->BO,append_assoc->BZ,eq_nil_of_length_eq_zero->C9,append_nil->DV,length_nil->EZ
open _root_.ByteArray renaming mk->AU
open Go.Builtin renaming zeroCells->BJ,copy_->EC
open Go.Addr renaming add_lit->BM
open _root_.Option.some renaming inj->BQ
open Go.Lib renaming run_eql_slice_nil->ES,compareBytes->EU
open Go.Value renaming slice->FV
open Go.Obj renaming cells->FW
open Go renaming World->FX,Value->FZ,Calls->G5
open _root_.Option renaming none->G6,some->G8
variable{w W V w':FX}{f:DF}{v:FZ}{g cap:Nat}{fs:List DF}
theorem LP{o:Obj}{w1:FX}(h:Below (w.alloc o).heap.size (w.alloc o) w1):B0 w w1:=
 ((AB _ _).alloc (AA _) _).trans (h.mono (by simp))
theorem bC(f:DF)(w:FX)(h:f.s.length+f.t.length<=9223372036854775807):
  G5 prog 67 #[BH9 f] w (R0 w (I0 ((f.s.length+f.t.length:Nat):Int))):=by
 unfold BH9;go_enter func67,ntmps67
 go_wp2
 go_ret;exact⟨rfl,(AB _ _).alloc (AA _) _⟩
theorem A98(f:DF)(name:List UInt8)(w:FX):
  G5 prog 106 #[BH9 f,S0 name] w (R0 w (I0 (EU f.n name))):=by
 unfold BH9;go_enter func106,ntmps106;go_wp2_with fail;refine(strings_Compare _ _ _).mono ?_;rintro e w1 ⟨rfl,rfl⟩;go_wp2_with fail;go_ret;exact⟨rfl,(AB _ _).alloc (AA _) _⟩
def bD(R:List DF)(name:List UInt8):Bool:=match R with
 |[]=>false
 |f::_=>decide (f.n=name)
theorem AY5(A R:List DF)(name:List UInt8)(lo:∀a∈A,bl a.n name=true)(hi:∀a∈R,bl a.n name=false)(i:Nat)(h:i<A.length+R.length):∃y,(A++R)[i]?=G8 y/\bl y.n name=decide (i<A.length):=by
 by_cases h1:i<A.length
 .refine⟨A[i],by rw[BN h1,AO h1],?_⟩;rw[lo _ (List.getElem_mem h1)];simp[h1]
 .have h2:i-A.length<R.length:=by omega
  refine⟨R[i-A.length],by rw[BD (by omega),AO h2],?_⟩;rw[hi _ (List.getElem_mem h2)];simp[h1]
theorem C26(b off cap:Nat)(A R:List DF)(name:List UInt8)(w:FX)(hcap:A.length+R.length<=16)(hb:b<w.heap.size)(h:II w b off (I9 (A++R)))
  (lo:∀a∈A,bl a.n name=true) (hi:∀a∈R,bl a.n name=false):
  G5 prog 105 #[FV (G8 ⟨b,off,G6⟩) (A.length+R.length) cap,S0 name,.func (.func 106) #[] #[]] w fun e w'=>
   e=.returned (.tuple #[I0 A.length,.bool (bD R name)])/\B0 w w':=by
 have H:=GH h;have SG:=GH (AY5 A R name lo hi);obtain⟨fin,hfin⟩:∃x,bD R name=x:=⟨_,rfl⟩;have HF:=GH hfin;rw[hfin];clear h hfin lo hi;go_enter func105,ntmps105;go_wp2_with fail
 go_loopg [9,10] (A.length+R.length) (fun kx s9 s10 wr=>∃lo hi:Nat,s9=I0 lo/\s10=I0 hi/\lo<=A.length/\A.length<=hi/\hi<=A.length+R.length/\hi-lo<=kx/\Hid (B0 w wr))
 case atStart=>exact⟨0,A.length+R.length,rfl,rfl,AZ _,by omega,AA _,by omega,GH (AB _ _)⟩
 case round=>
  obtain⟨lo,hi,rfl,rfl,h1,h2,h3,hg,hB⟩:=hrel;by_cases hlt:lo<hi
  .obtain⟨y,hy,hyn⟩:=G9 SG ((lo+hi)/2) (by omega);have HY:=GH hyn;have r:=(G9 H).kept (G9 hB) hb;have e0:=r.c0 hy;have e1:=r.c1 hy;have e2:=r.c2 hy;clear hyn hy r;have hc:=A76 y.n name;rw[G9 HY]at hc;have CM:=fun W=>A98 y name W;generalize EU y.n name=cv at hc CM;by_cases hm:(lo+hi)/2<A.length
   .have hn:cv<0:=by simpa [hm]using hc
    clear hc;go_wp2_with fail;refine(CM _).mono ?_;rintro e w1 ⟨rfl,hb1⟩;have hB2:B0 w w1:=(G9 hB).trans (hb1.mono (G9 hB).size);clear CM;go_wp2_with fail
    go_roundg (hi-((lo+hi)/2+1))
    case measure=>omega
    case rel=>exact⟨(lo+hi)/2+1,hi,by rw[show ((lo:Int)+(hi:Int))/2+1=(((lo+hi)/2+1:Nat):Int) by omega],rfl,by omega,h2,h3,AA _,GH hB2⟩
   .have hn:¬cv<0:=by simpa [hm]using hc
    clear hc;go_wp2_with fail;refine(CM _).mono ?_;rintro e w1 ⟨rfl,hb1⟩;have hB2:B0 w w1:=(G9 hB).trans (hb1.mono (G9 hB).size);clear CM;go_wp2_with fail
    go_roundg ((lo+hi)/2-lo)
    case measure=>omega
    case rel=>exact⟨lo,(lo+hi)/2,rfl,by rw[show ((lo:Int)+(hi:Int))/2=(((lo+hi)/2:Nat):Int) by omega],h1,by omega,by omega,AA _,GH hB2⟩
  .obtain rfl:lo=A.length:=by omega
   obtain rfl:hi=A.length:=by omega
   cases R with
   |nil=>
    go_wp2_with fail
    go_ret2
    exact⟨by rw[<-G9 HF];rfl,G9 hB⟩
   |cons f R=>
    have r:=(G9 H).kept (G9 hB) hb;have hy:(A++f::R)[A.length]?=G8 f:=by simp
    have e0:=r.c0 hy;have e1:=r.c1 hy;have e2:=r.c2 hy;clear hy r;have hc:=gZ f.n name;have CM:=fun W=>A98 f name W;have hf:fin=decide (f.n=name):=(G9 HF).symm;rw[<-hc]at hf;clear hc HF;generalize EU f.n name=cv at hf CM;subst hf;simp only[BH];go_wp2_with fail;refine(CM _).mono ?_;rintro e w1 ⟨rfl,hb1⟩;have hB2:B0 w w1:=(G9 hB).trans (hb1.mono (G9 hB).size);clear CM;go_wp2_with fail
    go_ret2
    exact⟨by rfl,hB2⟩
theorem BI2(a:Option Addr)(cap:Nat)(name:List UInt8)(w:FX):
  G5 prog 105 #[FV a 0 cap,S0 name,.func (.func 106) #[] #[]] w fun e w'=>
   e=.returned (.tuple #[I0 0,.bool false])/\B0 w w':=by
 go_enter func105,ntmps105;go_wp2_with fail
 go_loopg [9,10] 1 (fun _ s9 s10 wr=>s9=I0 0/\s10=I0 0/\Hid (B0 w wr))
 case atStart=>exact⟨rfl,rfl,GH (AB _ _)⟩
 case round=>
  obtain⟨rfl,rfl,hB⟩:=hrel;go_wp2_with fail
  go_ret2
  exact⟨rfl,G9 hB⟩
theorem nY(v:FZ)(fs A R:List DF)(name:List UInt8)(w:FX)(hv:IY w v fs)(hl:fs.length<=16)(he:fs=A++R)(lo:∀a∈A,bl a.n name=true)(hi:∀a∈R,bl a.n name=false):
  G5 prog 66 #[.agg #[v],S0 name] w (R0 w (.tuple #[I0 A.length,.bool (bD R name)])):=by
 have C:∀W:FX,B0 w W->G5 prog 105 #[v,S0 name,.func (.func 106) #[] #[]] W fun e w'=>
   e=.returned (.tuple #[I0 A.length,.bool (bD R name)])/\B0 W w':=fun W hW=>by
  rcases hv with⟨a,cap,rfl,h0,_⟩|⟨b,off,cap,rfl,_,_,hb,_,hr⟩
  .rw[h0]at he;obtain⟨rfl,rfl⟩:A=[]/\R=[]:=by
    have:=congrArg List.length he;simp at this;exact⟨C9 (by omega),C9 (by omega)⟩
   exact BI2 a cap name W
  .subst he;rw[AP];exact C26 b off cap A R name W (by simpa using hl) (AY hb hW.size) (hr.kept hW hb) lo hi
 have C':=GH C;have V:∃a n c,v=FV a n c:=by
  rcases hv with⟨a,cap,rfl,_,_⟩|⟨b,off,cap,rfl,_⟩
  .exact⟨_,_,_,rfl⟩
  .exact⟨_,_,_,rfl⟩
 obtain⟨a,n,c,rfl⟩:=V;clear C hv hl he lo hi;generalize bD R name=hd at C'⊢;go_enter func66,ntmps66;go_wp2_with fail;refine(G9 C' _ ((AB _ _).alloc (AA _) _)).mono ?_;rintro e w1 ⟨rfl,hb1⟩;have hbz:=LP hb1;go_wp2_with fail
 go_ret2
 exact⟨rfl,hbz⟩
theorem nZ(v:FZ)(fs A B:List DF)(f:DF)(name:List UInt8)(w:FX)(hv:IY w v fs)(hl:fs.length<=16)(T:There fs A f B name):
  G5 prog 66 #[.agg #[v],S0 name] w (R0 w (.tuple #[I0 A.length,.bool true])):=by
 have:=nY v fs A (f::B) name w hv hl T.eq T.lo (fun a ha=>by
  rcases List.mem_cons.1 ha with rfl|h
  .rw[T.nm];exact QT _
  .exact OT (T.hi a h))
 rwa[show bD (f::B) name=true from by simp[bD,T.nm]]at this
theorem A99(v:FZ)(fs A B:List DF)(name:List UInt8)(w:FX)(hv:IY w v fs)(hl:fs.length<=16)(G:Gap fs A B name):
  G5 prog 66 #[.agg #[v],S0 name] w (R0 w (.tuple #[I0 A.length,.bool false])):=by
 have:=nY v fs A B name w hv hl G.eq G.lo (fun a ha=>OT (G.hi a ha));rwa[show bD B name=false from by
  cases B with
  |nil=>rfl
  |cons f B=>have:=WT (G.hi f (by simp));simp[bD,this.symm]]at this
theorem vP(h1:JF f.n=false):QU f=false:=by simp[QU,h1]
theorem A02(h:1048576<f.s.length+f.t.length):QU f=false:=by simp[QU];intro _;omega
theorem AJ2(h1:JF f.n=true)(h:f.s.length+f.t.length<=1048576):QU f=true:=by simp[QU,h1,h]
theorem CI1{w1:FX}(hb:B0 W w1):(∀b o,b<W.heap.size->w1.cell? ⟨b,o,G6⟩=W.cell? ⟨b,o,G6⟩)/\(∀b o,b<W.heap.size->w1.frozen? ⟨b,o,G6⟩=W.frozen? ⟨b,o,G6⟩):=
 ⟨fun b o h=>hb.cell (p:=⟨b,o,G6⟩) h,fun b o h=>hb.frozen (p:=⟨b,o,G6⟩) h⟩
def mQ(fs:List DF):Prop:=∀f∈fs,f.n.length<=140737488355328/\f.s.length<=140737488355328/\f.t.length<=140737488355328
theorem AA0(n:List UInt8)(h:n.length<=140737488355328)(w:FX):
  G5 prog 65 #[S0 n] w fun e w'=>e=.returned (.bool (JF n))/\w'=w:=
 UG ⟨n.toArray⟩ w (by have:(AU n.toArray).size=n.length:=rfl;unfold maxLen;omega)
theorem AJ3(a:Option Addr)(cap:Nat)(w:FX):
  G5 prog 64 #[.agg #[FV a 0 cap]] w (R0 w (.bool true)):=by
 go_enter func64,ntmps64;go_wp2_with fail
 go_loopg [12] 1 (fun _ s12 wr=>s12=I0 0/\Hid (B0 w wr))
 case atStart=>exact⟨rfl,GH ((AB _ _).alloc (AA _) _)⟩
 case round=>
  obtain⟨rfl,hB⟩:=hrel;go_wp2_with fail;go_ret;exact⟨rfl,G9 hB⟩
theorem AJ4(b off cap n:Nat)(hn:16<n)(w:FX):
  G5 prog 64 #[.agg #[FV (G8 ⟨b,off,G6⟩) n cap]] w (R0 w (.bool false)):=by
 go_enter func64,ntmps64;go_wp2_with fail;go_ret;exact⟨rfl,(AB _ _).alloc (AA _) _⟩
theorem AJ5(b off cap:Nat)(fs:List DF)(w:FX)(hs:mQ fs)(hl:fs.length<=16)(hb:b<w.heap.size)(h:II w b off (I9 fs)):
  G5 prog 64 #[.agg #[FV (G8 ⟨b,off,G6⟩) fs.length cap]] w (R0 w (.bool (VH fs))):=by
 have H:=GH h;have HS:=GH hs;have NO:=GH (fun(k:Nat) (f:DF)=> @BF7 fs k f);have NR:=GH (fun(k:Nat) (f g:DF)=> @AU3 fs k f g);have YES:=GH (uP hl);have Z:=GH (AU1 fs);have SU:=GH (fun(k:Nat) (f:DF) (h:C04 fs k)=>AU2 (f:=f) h);have hb0:b≠w.heap.size:=by omega
 clear h hs;generalize VH fs=G at NO NR YES⊢;go_enter func64,ntmps64;go_wp2_with fail
 go_loopg [12] fs.length (fun kx s12 wr=>∃k:Nat,s12=I0 k/\k<=fs.length/\fs.length-k<=kx/\Hid (B0 w wr/\w.heap.size<wr.heap.size/\wr.cell? ⟨w.heap.size,0,G6⟩=G8 (FV (G8 ⟨b,off,G6⟩) fs.length cap))/\Hid (C04 fs k))
 case atStart=>exact⟨0,rfl,AZ _,by omega,GH ⟨(AB _ _).alloc (AA _) _,by simp,by simp⟩,Z⟩
 case round=>
  obtain⟨k,rfl,hk,hg,hB,hO⟩:=hrel;by_cases hlt:k<fs.length
  .obtain⟨f,hf⟩:∃f,fs[k]?=G8 f:=⟨_,AO hlt⟩;have HF:=GH hf;have r:=(G9 H).kept (G9 hB).1 hb;have e0:=r.c0 hf;have e1:=r.c1 hf;have e2:=r.c2 hf;have hsl:=G9 HS f (BA hf);have hbw:b<wr.heap.size:=AY hb (G9 hB).1.size;have h00:=(G9 hB).2.2;clear hf r
   cases hn:JF f.n with
   |false=>
    have HN:=GH hn;have CN:=fun W=>AA0 f.n hsl.1 W;rw[hn]at CN;clear hn;go_wp2_with fail;refine(CN _).mono ?_;rintro e w1 ⟨rfl,rfl⟩;clear CN;go_wp2_with fail;go_ret;exact⟨RV (G9 NO k f (G9 HF) (vP (G9 HN))).symm,(G9 hB).1.alloc (by have:=(G9 hB).1.size;omega) _⟩
   |true=>
    have HN:=GH hn;have CN:=fun W=>AA0 f.n hsl.1 W;rw[hn]at CN;clear hn;have HL:=GH hsl;have hsum:f.s.length+f.t.length<=9223372036854775807:=by omega
    have CS:=fun W=>bC f W hsum;obtain⟨L,hL⟩:∃L,f.s.length+f.t.length=L:=⟨_,rfl⟩;rw[hL]at CS;have HL2:=GH hL;have hLb:L<=9223372036854775807:=by omega
    clear hsl hsum hL;go_wp2_with fail;refine(CN _).mono ?_;rintro e w1 ⟨rfl,rfl⟩;clear CN;by_cases hbig:L<=1048576
    .have hok:=AJ2 (G9 HN) (by rw[G9 HL2];exact hbig);go_wp2_with fail;refine(CS _).mono ?_;rintro e w2 ⟨rfl,hb2⟩;clear CS;obtain⟨hc,hf⟩:=CI1 hb2;have hB2:B0 w w2:=(G9 hB).1.trans (LP hb2|>.mono (G9 hB).1.size);have h01:w2.cell? ⟨w.heap.size,0,G6⟩=G8 (FV (G8 ⟨b,off,G6⟩) fs.length cap):=by
      rw[hc _ _ (by have:=(G9 hB).2.1;simp;omega),((AB wr.heap.size wr).alloc (AA _) _).cell (p:=⟨w.heap.size,0,G6⟩) (G9 hB).2.1];exact h00
     have hz:w2.cell? ⟨wr.heap.size,0,G6⟩=G8 (S0 f.n):=by
      rw[hc _ _ (by simp)];simp
     have hlt2:w.heap.size<w2.heap.size:=by have:=hb2.size;have:=(G9 hB).2.1;simp at*;omega
     clear hc hf hb2 h00 e0 e1 e2;rcases Nat.eq_zero_or_pos k with hk0|hk0
     .subst hk0;have OK2:=GH (G9 SU 0 f (G9 hO) (G9 HF) hok (fun g h=>absurd h (Nat.lt_irrefl 0)));go_wp2_with fail;go_region;go_wp2_with fail
      go_roundg (fs.length-1)
      case measure=>omega
      case rel=>exact⟨1,rfl,by omega,AA _,GH ⟨hB2.drew,hlt2,h01⟩,OK2⟩
     .obtain⟨m,rfl⟩:∃m,k=m+1:=⟨k-1,by omega⟩;obtain⟨g,hg⟩:∃g,fs[m]?=G8 g:=⟨_,AO (by omega)⟩;have r:=(G9 H).kept hB2 hb;have e0:=r.c0 hg;have HG:=GH hg;clear r hg;have hm1:(m:Int)<(fs.length:Int):=by omega
      cases hbl:bl g.n f.n with
      |true=>
       have OK2:=GH (G9 SU (m+1) f (G9 hO) (G9 HF) hok (fun g' _ h=>by
        rw[Nat.add_sub_cancel,G9 HG]at h
        cases h
        exact hbl))
       have hbl':Op.bytesLess g.n f.n=true:=hbl;clear hbl;go_wp2_with fail;go_region;go_wp2_with fail
       go_roundg (fs.length-(m+1+1))
       case measure=>omega
       case rel=>exact⟨m+1+1,rfl,by omega,AA _,GH ⟨hB2.drew,hlt2,h01⟩,OK2⟩
      |false=>
       have hbl':Op.bytesLess g.n f.n=false:=hbl;have GF:=(G9 NR (m+1) f g (G9 HF) (by simpa using G9 HG) (by omega) hbl).symm;have HGF:=GH GF;clear hbl GF;go_wp2_with fail;go_region;go_wp2_with fail;go_ret;exact⟨RV (G9 HGF),hB2.drew⟩
    .go_wp2_with fail;refine(CS _).mono ?_;rintro e w2 ⟨rfl,hb2⟩;have hB2:B0 w w2:=(G9 hB).1.trans (LP hb2|>.mono (G9 hB).1.size);clear CS hb2;go_wp2_with fail;go_ret;exact⟨RV (G9 NO k f (G9 HF) (A02 (by rw[G9 HL2];omega))).symm,hB2⟩
  .have hkk:k=fs.length:=by omega
   subst hkk;go_wp2_with fail;go_ret;exact⟨RV (G9 YES (G9 hO)).symm,(G9 hB).1⟩
theorem AY6:VH []=true:=MZ.2 ⟨by decide,by simp,List.Pairwise.nil⟩
theorem UM(v:FZ)(fs:List DF)(w:FX)(hv:IY w v fs)(hs:mQ fs):
  G5 prog 64 #[.agg #[v]] w (R0 w (.bool (VH fs))):=by
 rcases hv with⟨a,cap,rfl,rfl,_⟩|⟨b,off,cap,rfl,_,_,hb,_,hr⟩
 .rw[AY6];exact AJ3 a cap w
 .by_cases hl:fs.length<=16
  .exact AJ5 b off cap fs w hs hl hb hr
  .rw[C05 (by omega)];exact AJ4 b off cap fs.length (by omega) w
theorem P9(s:List UInt8)(w:FX)(hs:s.length<=281474976710656):
  G5 prog 63 #[S0 s] w (R0 w (S0 s)):=by
 have C:=fun W=>stringslite_Clone ⟨s.toArray⟩ W (show (AU s.toArray).size<=_ from hs);go_enter func63,ntmps63;go_wp2_with fail;refine(C _).mono ?_;rintro e w1 ⟨rfl,hb1⟩;go_wp2_with fail;go_ret;exact⟨rfl,hb1⟩
theorem AJ6:(prog.info? 63).map (fun i=>(i.zero,i.size,i.bytes))=G8 (G8 (.agg #[.string ⟨#[]⟩,.string ⟨#[]⟩,.string ⟨#[]⟩]),3,48):=by kernel_rfl
theorem UN:∃i0,prog.info? 63=G8 i0/\i0.zero=G8 (.agg #[.string ⟨#[]⟩,.string ⟨#[]⟩,.string ⟨#[]⟩])/\i0.size=3/\i0.bytes=48:=by
 obtain⟨i0,h,e⟩:=Option.map_eq_some_iff.1 AJ6;simp only[Prod.mk.injEq]at e;exact⟨i0,h,e⟩
theorem jS(a:Addr)(cap:Nat)(fs:List DF)(w:FX)(hl:fs.length<=1000000)(hc:∀j u,(I9 fs)[j]?=G8 u->w.cell? (a.add j)=G8 u):
  G5 prog 23 #[FV (G8 a) fs.length cap] w fun e w'=>∃v',e=.returned v'/\YH w' w.heap.size v' fs/\B0 w w':=by
 have q22:∀ (w:FX) (a:Option Addr) (n c n' c':Nat),(binOp .eql 43 (FV a n c) (FV G6 n' c')).run prog w=.ok (.bool a.isNone) w:=fun w a n c n' c'=>ES w _ _ a n c n' c' underlying43;have H:Hid (∀j u,(I9 fs)[j]?=G8 u->w.cell? (a.add j)=G8 u):=hc;clear hc;obtain⟨i0,hi0,hz0,hz1,hz2⟩:=UN;go_enter func23,ntmps23;go_wp2_with (at_builtin;refine wpList_append_own _ rfl _ _ 43 rfl w.heap.size 63 i0 _ 3 48 underlying43 hi0 hz0 hz1 hz2 rfl (by decide) _ _ _ rfl (World.ownsRow_made w #[] 0 (AA _) (AZ _) (by simp)) a fs.length cap (I9 fs) rfl ?qc1 ?qc2 ?qc3 ?qc4 ?qc5 ?qc6 ?_)
 case qc1=>exact H8 fs
 case qc2=>
  intro j u hj;exact Lib.cell?_alloc_some _ (H.out j u hj)
 case qc3=>exact YG fs
 case qc4=>simp only[maxLen];omega
 case qc5=>omega
 case qc6=>simp
 intro v' w1 hown hgrow hnil
 go_wp2
 go_ret;refine⟨v',rfl,YH.LD (by simpa using hown),?_⟩;exact((AB _ w).alloc (AA _) _).grown hgrow (by simp) (by intro k hk;simp[Value.ownBlock]at hk;omega)
theorem AJ7(n c:Nat)(w:FX):
  G5 prog 23 #[FV G6 n c] w fun e w'=>e=.returned (N0)/\w'=w:=by
 have q22:∀ (w:FX) (a:Option Addr) (n c n' c':Nat),(binOp .eql 43 (FV a n c) (FV G6 n' c')).run prog w=.ok (.bool a.isNone) w:=fun w a n c n' c'=>ES w _ _ a n c n' c' underlying43;go_enter func23,ntmps23
 go_wp2
 go_ret;exact⟨rfl,rfl⟩
theorem AJ8(v:FZ)(fs:List DF)(w:FX)(hv:IY w v fs)(hl:fs.length<=1000000):
  G5 prog 23 #[v] w fun e w'=>∃v',e=.returned v'/\YH w' w.heap.size v' fs/\B0 w w':=by
 rcases hv with⟨a,cap,rfl,rfl,_⟩|⟨b,off,cap,rfl,_,_,hb,_,hr⟩
 .cases a with
  |none=>exact(AJ7 0 cap w).mono fun e w' ⟨he,hw⟩=>⟨_,he,.inl ⟨rfl,rfl⟩,by rw[hw];exact AB _ _⟩
  |some a=>exact jS a cap [] w (by simp) (fun j u h=>by simp[I9]at h)
 .exact jS ⟨b,off,G6⟩ cap fs w hl (fun j u h=>by rw[BM];exact hr j u h)
theorem qR{a:Addr}(h:w.cell? a=G8 v):w.setCell a v=w:=by
 obtain⟨heap,tape,drawn,os,output⟩:=w;simp only[World.setCell,World.cell?]at*
 congr 1
 apply Array.ext_getElem?
 intro k;rw[Array.getElem?_modify];by_cases hk:a.block=k
 .subst hk;simp only[if_true]
  cases ho:heap[a.block]? with
  |none=>rfl
  |some o=>
   rw[ho]at h
   cases o with
   |cells c e fz=>
    simp only at h;by_cases hs:a.spot.isSome=true
    .simp[hs]at h
    .simp only[hs]at h;simp[hs];have hlt:a.off<c.size:=(AL.1 (by simpa using h)).1;have hv:c[a.off]=v:=(AL.1 (by simpa using h)).2;rw[<-hv];simp[Array.setIfInBounds,hlt]
   |_=>simp at h
 .simp[hk]
theorem QF(h:B0 w W)(h':B0 W V):B0 w V:=h.trans (h'.mono h.size)
theorem SY(v:FZ)(fs:List DF)(w:FX)(hv:IY w v fs)(hs:mQ fs)(hl:fs.length<=16):
  G5 prog 68 #[.agg #[v]] w fun e w'=>∃v',e=.returned (.agg #[v'])/\YH w' w.heap.size v' fs/\B0 w w':=by
 have V:∃a n c,v=FV a n c:=by
  rcases hv with⟨a,cap,rfl,_,_⟩|⟨b,off,cap,rfl,_⟩
  .exact⟨_,_,_,rfl⟩
  .exact⟨_,_,_,rfl⟩
 have HV:=GH hv;have HS:=GH hs;obtain⟨a,n,c,rfl⟩:=V;clear hv hs;go_enter func68,ntmps68;go_wp2_with fail;refine(AJ8 _ fs _ ((G9 HV).next (((AB _ _).alloc (AA _) _).alloc (by simp) _)) (by omega)).mono ?_;rintro e w1 ⟨v',rfl,ho,hb1⟩;have hB1:B0 w w1:=LP (LP hb1);have c1:w1.cell? ⟨w.heap.size+1,0,G6⟩=G8 (N0):=by
  rw[hb1.cell (p:=⟨w.heap.size+1,0,G6⟩) (by simp)];simp
 have f1:w1.frozen? ⟨w.heap.size+1,0,G6⟩=false:=by
  rw[hb1.frozen (p:=⟨w.heap.size+1,0,G6⟩) (by simp)];simp
 have hz:w.heap.size+1<w1.heap.size:=by have:=hb1.size;simp at this;omega
 have hs2:((w.alloc (Obj.cells #[Value.slice a n c] 45)).alloc (Obj.cells #[N0] 45)).heap.size=w.heap.size+2:=by simp
 rw[hs2]at ho;clear hb1 hs2;rcases ho with⟨rfl,rfl⟩|⟨g,cap,rfl,hg,ho⟩
 .go_wp2_with fail
  go_loopg [11] 1 (fun _ s wr=>s=I0 0/\wr=w1)
  case atStart=>exact⟨rfl,rfl⟩
  case round=>
   obtain⟨rfl,rfl⟩:=hrel;go_wp2_with fail;exact bodyPost_ret (v:=.agg #[N0]) (by simp[results,results68,go_sem,c1]) rfl ⟨_,rfl,.inl ⟨rfl,rfl⟩,hB1.setCell (by simp) _⟩
 .have HO:=GH ho;have hgl:=ho.lt;clear ho;go_wp2_with fail
  go_loopg [11] fs.length (fun kx s wr=>∃k:Nat,s=I0 k/\k<=fs.length/\fs.length-k<=kx/\Hid (B0 w1 wr))
  case atStart=>exact⟨0,rfl,AZ _,by omega,GH (AB _ _)⟩
  case round=>
   obtain⟨k,rfl,hk,hkx,hB⟩:=hrel;by_cases hlt:k<fs.length
   .obtain⟨f,hf⟩:∃f,fs[k]?=G8 f:=⟨_,AO hlt⟩;have o:=(G9 HO).next (G9 hB);have RG:=o.lt;have e0:=o.c0 hf;have e1:=o.c1 hf;have e2:=o.c2 hf;have f0:=o.frozen (k*3);have f1:=o.frozen (k*3+1);have f2:=o.frozen (k*3+2);have hsl:=G9 HS f (BA hf);clear hf o;obtain⟨fn,fss,ft⟩:=f;have k0:=fun W=>P9 fn W (by have:=hsl.1;simp at this;omega);have k1:=fun W=>P9 fss W (by have:=hsl.2.1;simp at this;omega);have k2:=fun W=>P9 ft W (by have:=hsl.2.2;simp at this;omega);simp only at e0 e1 e2;clear hsl;go_wp2_with fail;have d0:∀d os,(Sort.grow (redrawn wr d) os).cell? ⟨g,k*3,G6⟩=G8 (S0 fn):=fun d os=>cell_regrown e0 d os;have d1:∀d os,(Sort.grow (redrawn wr d) os).cell? ⟨g,k*3+1,G6⟩=G8 (S0 fss):=fun d os=>cell_regrown e1 d os;have d2:∀d os,(Sort.grow (redrawn wr d) os).cell? ⟨g,k*3+2,G6⟩=G8 (S0 ft):=fun d os=>cell_regrown e2 d os;have g0:∀d os,(Sort.grow (redrawn wr d) os).frozen? ⟨g,k*3,G6⟩=false:=fun d os=>by rw[(below_regrown wr d os).frozen (p:=⟨g,k*3,G6⟩) RG];exact f0
    have g1:∀d os,(Sort.grow (redrawn wr d) os).frozen? ⟨g,k*3+1,G6⟩=false:=fun d os=>by rw[(below_regrown wr d os).frozen (p:=⟨g,k*3+1,G6⟩) RG];exact f1
    have g2:∀d os,(Sort.grow (redrawn wr d) os).frozen? ⟨g,k*3+2,G6⟩=false:=fun d os=>by rw[(below_regrown wr d os).frozen (p:=⟨g,k*3+2,G6⟩) RG];exact f2
    have s0:∀d os,(Sort.grow (redrawn wr d) os).setCell ⟨g,k*3,G6⟩ (S0 fn)=Sort.grow (redrawn wr d) os:=fun d os=>qR (d0 d os);have s1:∀d os,(Sort.grow (redrawn wr d) os).setCell ⟨g,k*3+1,G6⟩ (S0 fss)=Sort.grow (redrawn wr d) os:=fun d os=>qR (d1 d os);have s2:∀d os,(Sort.grow (redrawn wr d) os).setCell ⟨g,k*3+2,G6⟩ (S0 ft)=Sort.grow (redrawn wr d) os:=fun d os=>qR (d2 d os);have c0:=fun d os=>Calls.regrown_of (w:=wr) (d:=d) (os:=os) (k0 _);have c1':=fun d os=>Calls.regrown_of (w:=wr) (d:=d) (os:=os) (k1 _);have c2:=fun d os=>Calls.regrown_of (w:=wr) (d:=d) (os:=os) (k2 _);clear k0 k1 k2 e0 e1 e2 f0 f1 f2;refine wp_region_quiet_below (by kernel_rfl) (by kernel_rfl) ?_
    repeat (first|go_big_quiet_step (first|with_reducible exact c0 _ _|with_reducible exact c1' _ _|with_reducible exact c2 _ _)|quiet_step (first|with_reducible exact c0 _ _|with_reducible exact c1' _ _|with_reducible exact c2 _ _))
    refine wpQuiet_nil ?_;intro _ hw';obtain⟨⟨dq,osq⟩,hw''⟩:=hw';subst hw'';have hb2:=QF (G9 hB) (below_regrown wr dq osq);clear c0 c1' c2 s0 s1 s2 d0 d1 d2 g0 g1 g2;go_wp2_with fail
    go_roundg (fs.length-(k+1))
    case measure=>omega
    case rel=>exact⟨k+1,rfl,by omega,AA _,GH hb2⟩
   .have c2:wr.cell? ⟨w.heap.size+1,0,G6⟩=G8 (N0):=by
     rw[(G9 hB).cell (p:=⟨w.heap.size+1,0,G6⟩) hz];exact c1
    have f2:wr.frozen? ⟨w.heap.size+1,0,G6⟩=false:=by
     rw[(G9 hB).frozen (p:=⟨w.heap.size+1,0,G6⟩) hz];exact f1
    have hgw:g≠w.heap.size+1:=by omega
    go_wp2_with fail;exact bodyPost_ret (v:=.agg #[FV (G8 ⟨g,0,G6⟩) fs.length cap]) (by simp[results,results68,go_sem,c2]) rfl
     ⟨_,rfl,.inr ⟨g,cap,rfl,by omega,((G9 HO).next (G9 hB)).other hgw _⟩,(QF hB1 (G9 hB)).setCell (by simp) _⟩
theorem XC{j:Nat}(v:FZ):w.grownBy (w.setCell ⟨g,j,G6⟩ v) (G8 g):=⟨rfl,rfl,rfl,by simp[World.setCell],fun k _ hne=>Below.heap_setCell w ⟨g,j,G6⟩ v k (fun e=>hne (by rw[e]))⟩
theorem AJ9{r:Option Nat}(h:w.grownBy w' r):w.grownBy w'.drew r:=⟨h.os,h.tape,h.output,h.size,h.block⟩
theorem TB{w'':FX}(h:w.grownBy w' (G8 g))(h':w'.grownBy w'' (G8 g)):w.grownBy w'' (G8 g):=
 ⟨h'.os.trans h.os,h'.tape.trans h.tape,h'.output.trans h.output,BP h.size h'.size,fun k hk hne=>(h'.block k (AY hk h.size) hne).trans (h.block k hk hne)⟩
theorem vS(h:B0 w w'):w.grownBy w' (G8 g):=⟨h.os,h.tape,h.output,h.size,fun k hk _=>h.block k hk⟩
theorem qU(l m:List UInt8):(AU l.toArray)++(AU m.toArray)=⟨(l++m).toArray⟩:=by
 have h:((AU l.toArray)++(AU m.toArray)).data.toList=l++m:=by simp[ByteArray.data_append]
 exact congrArg (fun l:List UInt8=>AU l.toArray) h
theorem AY7(l:List UInt8)(d:Nat):(AU l.toArray).extract 0 d=⟨(l.take d).toArray⟩:=by
 apply ByteArray.ext
 apply Array.toList_inj.1
 have h:=Lib.extract_toList (AU l.toArray) 0 d;rw[Lib.toList_data]at h;refine h.trans ?_;show (l.drop 0).take (d-0)=_;simp
theorem dW(g cap k:Nat)(fs:List DF)(f:DF)(n:Nat)(w:FX)(ho:Own w g cap fs)(hk:fs[k]?=G8 f)(hn:n<=f.s.length+f.t.length)(hf:f.s.length+f.t.length<=1048576):
  G5 prog 73 #[.pointer (G8 ⟨g,k*3,G6⟩),I0 n] w fun e w'=>
   e=.returned (.tuple #[])/\Own w' g cap (fs.set k ⟨f.n,(f.s++f.t).take n,[]⟩)/\w.grownBy w' (G8 g):=by
 have e1:=ho.c1 hk;have e2:=ho.c2 hk;have f1:=ho.frozen (k*3+1);have f2:=ho.frozen (k*3+2);have HO:=GH ho;have HK:=GH hk;clear ho hk;obtain⟨fn,fss,ft⟩:=f;simp only at*;have hn1:(n:Int)<=(fss.length:Int)+(ft.length:Int):=by omega
 go_enter func73,ntmps73;go_wp2_with fail;go_region;go_wp2_with fail
 go_end0
 refine⟨rfl,?_,?_⟩
 .rw[qU,AY7];have h1:=(G9 HO).s1 (G9 HK) ((fss++ft).take n);have h2:=h1.s2 (f:=⟨fn,(fss++ft).take n,ft⟩) (by rw[List.getElem?_set_self (AV.1 (G9 HK)).1]) [];rw[List.set_set]at h2;exact h2
 .exact AJ9 (TB (XC _) (XC _))
theorem o8(g cap k:Nat)(fs:List DF)(f:DF)(x:List UInt8)(w:FX)(ho:Own w g cap fs)(hk:fs[k]?=G8 f)(hx:x.length<=1048576)(hf:f.t.length<=1048576):
  G5 prog 70 #[.pointer (G8 ⟨g,k*3,G6⟩),S0 x] w fun e w'=>
   e=.returned (.tuple #[])/\Own w' g cap (fs.set k ⟨f.n,f.s,f.t++x⟩)/\w.grownBy w' (G8 g):=by
 have e2:=ho.c2 hk;have f2:=ho.frozen (k*3+2);have HO:=GH ho;have HK:=GH hk;have hg:=ho.lt;clear ho hk;obtain⟨fn,fss,ft⟩:=f;simp only at*;have C:=fun W=>P9 x W (by omega);have hlen:¬9223372036854775807<ft.length+x.length:=by omega
 go_enter func70,ntmps70;go_wp2_with fail
 go_region_with (first|(go_at_call 63;refine(C _).mono ?_;rintro e w1 ⟨rfl,hb1⟩;have e3:w1.cell? ⟨g,k*3+2,G6⟩=G8 (S0 ft):=(hb1.cell (p:=⟨g,k*3+2,G6⟩) hg).trans e2;have f3:w1.frozen? ⟨g,k*3+2,G6⟩=false:=(hb1.frozen (p:=⟨g,k*3+2,G6⟩) hg).trans f2))
 all_goals go_wp2_with fail
 all_goals
  have hb:B0 w w1:=((AB _ w).drew).trans hb1
  go_end0
  refine⟨rfl,?_,TB (vS hb) (XC _)⟩;rw[qU];exact((G9 HO).next hb).s2 (G9 HK) (ft++x)
theorem QL{t:TypeId}{fz:Nat×Nat}:∀ (vs:List FZ) (o:Nat) (w:FX) (l:List FZ),w.heap[g]?=G8 (FW l.toArray t fz)->o+vs.length<=l.length->
  (w.setCells g o vs).heap[g]?=G8 (FW (l.take o++vs++l.drop (o+vs.length)).toArray t fz)
 |[],o,w,l,h,_=>by simpa [World.setCells]using h
 |v::r,o,w,l,h,hl=>by
  have h1:(w.setCell ⟨g,o,G6⟩ v).heap[g]?=G8 (FW (l.set o v).toArray t fz):=by rw[GY v h];simp
  rw[World.setCells,QL r (o+1) _ _ h1 (by simp at hl⊢;omega)];have ho:o<l.length:=by simp at hl;omega
  have e1:(l.set o v).take (o+1)=l.take o++[v]:=by
   rw[List.take_set,List.take_succ_eq_append_getElem ho,List.set_append_right _ _ (by simp;omega)];simp[Nat.min_eq_left (Nat.le_of_lt ho)]
  have e2:(l.set o v).drop (o+1+r.length)=l.drop (o+(r.length+1)):=by
   rw[List.drop_set_of_lt (by omega)];congr 1;omega
  rw[e1,e2];simp
theorem LX:∀ (vs:List FZ) (o:Nat) (w:FX),w.grownBy (w.setCells g o vs) (G8 g)
 |[],_,_=>⟨rfl,rfl,rfl,AA _,fun _ _ _=>rfl⟩
 |v::r,o,_=>TB (XC v) (LX r (o+1) _)
theorem Own.splice{pre tl:List DF}(h:Own W g cap (pre++tl))(new:List DF)(hfit:pre.length+new.length<=cap):Own (W.setCells g (pre.length*3) (I9 new)) g cap (pre++new):=by
 obtain⟨rest,h1,h2,h3⟩:=h;have hlen:(I9 (pre++tl)++rest).length=cap*3:=by rw[AP,H8];exact h2
 refine⟨(I9 (pre++tl)++rest).drop (pre.length*3+(I9 new).length),?_,?_,h3⟩
 .rw[QL (I9 new) (pre.length*3) W _ h1 (by rw[hlen,H8];omega),JV pre new]
  congr 3
  have e:I9 (pre++tl)++rest=I9 pre++(I9 tl++rest):=by rw[JV,BZ]
  rw[e,<-H8 pre,List.take_left]
 .rw[List.length_drop,hlen,H8,AP];omega
theorem Own.spare(h:Own W g cap fs)(vs:List FZ)(o:Nat)(ho:fs.length*3<=o)(hfit:o+vs.length<=cap*3):Own (W.setCells g o vs) g cap fs:=by
 obtain⟨rest,h1,h2,h3⟩:=h;have hlen:(I9 fs++rest).length=cap*3:=by rw[AP,H8];exact h2
 have hc:=H8 fs;refine⟨rest.take (o-fs.length*3)++vs++(I9 fs++rest).drop (o+vs.length),?_,?_,h3⟩
 .rw[QL vs o W _ h1 (by rw[hlen];omega)]
  congr 2
  rw[List.take_append,BO (by omega),hc];simp only[BZ]
 .simp only[AP,List.length_take,List.length_drop,hc];omega
theorem Own.vK{A B:List DF}{y:DF}(h:Own W g cap (A++y::B))(x:DF):Own (W.setCells g (A.length*3) (JH x)) g cap (A++x::B):=by
 obtain⟨rest,h1,h2,h3⟩:=h;have hlen:(I9 (A++y::B)++rest).length=cap*3:=by rw[AP,H8];exact h2
 refine⟨rest,?_,by simpa using h2,h3⟩;have hA:=H8 A;rw[QL (JH x) (A.length*3) W _ h1 (by rw[hlen];simp[JH]at h2⊢;omega)];have e:I9 (A++y::B)++rest=I9 A++(JH y++(I9 B++rest)):=by simp[JV,I9]
 have e':I9 (A++x::B)++rest=I9 A++(JH x++(I9 B++rest)):=by simp[JV,I9]
 rw[e,e'];have hx3:(JH x).length=3:=rfl;have hy3:(JH y).length=3:=rfl
 congr 2
 rw[hx3,<-hA,List.take_left,show (I9 A).length+3=(I9 A++JH y).length by rw[AP,hy3],<-BZ (I9 A) (JH y),List.drop_left,BZ]
def AY8(fs:List DF)(name:List UInt8)(E:Int):Prop:=(VH fs=false/\E=3)\/(LV fs/\(∃A B,Gap fs A B name)/\E=7)
theorem jT(fs:List DF)(name:List UInt8):(∃E,AY8 fs name E)\/(LV fs/\∃A f B,There fs A f B name):=by
 cases hg:VH fs with
 |false=>exact .inl ⟨3,.inl ⟨hg,rfl⟩⟩
 |true=>
  have g:=MZ.1 hg;rcases A77 name fs g.asc with h|h
  .exact .inr ⟨g,h⟩
  .exact .inl ⟨7,.inr ⟨g,h,rfl⟩⟩
theorem J4(hv:IY w v fs):∃a n c,v=FV a n c:=by
 rcases hv with⟨a,cap,rfl,_,_⟩|⟨b,off,cap,rfl,_⟩
 .exact⟨_,_,_,rfl⟩
 .exact⟨_,_,_,rfl⟩
theorem jU(v:FZ)(fs:List DF)(name:List UInt8)(E:Int)(w:FX)(hv:IY w v fs)(hs:mQ fs)(h:AY8 fs name E):
  G5 prog 62 #[.agg #[v],.string ⟨name.toArray⟩] w fun e w'=>e=.returned (.tuple #[.int .i64 0,.int .i64 E])/\Below w.heap.size w w':=by
 obtain⟨a,n,c,rfl⟩:=J4 hv;have HV:=GH hv;have CG:=fun W (h:Below w.heap.size w W)=>UM _ fs W (hv.next h) hs;rcases h with⟨hg,rfl⟩|⟨g,⟨A,B,G⟩,rfl⟩
 .rw[hg]at CG;clear hg hv hs;go_enter func62,ntmps62;go_wp2_with fail;refine(CG _ ((AB _ _).alloc (AA _) _)).mono ?_;rintro e w1 ⟨rfl,hb1⟩;have hbz:=LP hb1;clear CG;go_wp2_with fail
  go_ret2
  exact⟨rfl,hbz⟩
 .rw[MZ.2 g]at CG;have CF:=fun W (h:Below w.heap.size w W)=>A99 _ fs A B name W (hv.next h) g.few G;clear hv hs g G;go_enter func62,ntmps62;go_wp2_with fail;refine(CG _ ((AB _ _).alloc (AA _) _)).mono ?_;rintro e w1 ⟨rfl,hb1⟩;have hbz:=LP hb1;have c1:w1.cell? ⟨w.heap.size,0,G6⟩=G8 (FV a n c):=by rw[hb1.cell (p:=⟨w.heap.size,0,G6⟩) (by simp)];simp
  clear CG hb1;go_wp2_with fail;refine(CF _ hbz).mono ?_;rintro e w2 ⟨rfl,hb2⟩;have hbx:=QF hbz hb2;clear CF;go_wp2_with fail
  go_ret2
  exact⟨rfl,hbx⟩
theorem TY(v:FZ)(fs A B:List DF)(f:DF)(name:List UInt8)(w:FX)(hv:IY w v fs)(hs:mQ fs)(g:LV fs)(T:There fs A f B name):
  G5 prog 62 #[.agg #[v],.string ⟨name.toArray⟩] w fun e w'=>e=.returned (.tuple #[.int .i64 A.length,.int .i64 0])/\Below w.heap.size w w':=by
 obtain⟨a,n,c,rfl⟩:=J4 hv;have CG:=fun W (h:Below w.heap.size w W)=>UM _ fs W (hv.next h) hs;rw[MZ.2 g]at CG;have CF:=fun W (h:Below w.heap.size w W)=>nZ _ fs A B f name W (hv.next h) g.few T;clear hv hs g T;go_enter func62,ntmps62;go_wp2_with fail;refine(CG _ ((AB _ _).alloc (AA _) _)).mono ?_;rintro e w1 ⟨rfl,hb1⟩;have hbz:=LP hb1;have c1:w1.cell? ⟨w.heap.size,0,G6⟩=G8 (FV a n c):=by rw[hb1.cell (p:=⟨w.heap.size,0,G6⟩) (by simp)];simp
 clear CG hb1;go_wp2_with fail;refine(CF _ hbz).mono ?_;rintro e w2 ⟨rfl,hb2⟩;have hbx:=QF hbz hb2;clear CF;go_wp2_with fail
 go_ret2
 exact⟨rfl,hbx⟩
theorem XD{A B:List DF}{name:List UInt8}(hv:IY w v fs)(T:There fs A f B name):
  ∃b off cap,v=FV (G8 ⟨b,off,G6⟩) fs.length cap/\b<w.heap.size/\II w b off (I9 fs)/\fs[A.length]?=G8 f/\A.length<fs.length:=by
 have hk:fs[A.length]?=G8 f:=by rw[T.eq];simp
 rcases hv with⟨a,cap,rfl,rfl,_⟩|⟨b,off,cap,rfl,_,_,hb,_,hr⟩
 .simp at hk
 .exact⟨b,off,cap,rfl,hb,hr,hk,(AV.1 hk).1⟩
theorem A03(v:FZ)(fs:List DF)(name:List UInt8)(E:Int)(w:FX)(hv:IY w v fs)(hs:mQ fs)(h:AY8 fs name E):
  G5 prog 39 #[.agg #[v],.string ⟨name.toArray⟩] w fun e w'=>e=.returned (.tuple #[.string ⟨#[]⟩,.int .i64 E])/\Below w.heap.size w w':=by
 obtain⟨a,n,c,rfl⟩:=J4 hv;have C:=fun W (hW:Below w.heap.size w W)=>jU _ fs name E W (hv.next hW) hs h;have hne:(E !=0)=true:=by rcases h with⟨_,rfl⟩|⟨_,_,rfl⟩<;>decide
 clear hv hs h;go_enter func39,ntmps39;go_wp2_with fail;refine(C _ ((AB _ _).alloc (AA _) _)).mono ?_;rintro e w1 ⟨rfl,hb1⟩;have hbz:=LP hb1;clear C;go_wp2_with fail
 go_ret2
 exact⟨rfl,hbz⟩
theorem oC(v:FZ)(fs A B:List DF)(f:DF)(name:List UInt8)(w:FX)(hv:IY w v fs)(hs:mQ fs)(g:LV fs)(T:There fs A f B name):
  G5 prog 39 #[.agg #[v],.string ⟨name.toArray⟩] w fun e w'=>e=.returned (.tuple #[.string ⟨(f.s++f.t).toArray⟩,.int .i64 0])/\Below w.heap.size w w':=by
 have C:=fun W (hW:Below w.heap.size w W)=>TY _ fs A B f name W (hv.next hW) hs g T;obtain⟨b,off,cap,rfl,hb,hr,hk,hlt⟩:=XD hv T;have hfl:=NZ (T.ok g);have HR:=GH hr;have HK:=GH hk;have hb0:b≠w.heap.size:=by omega
 have vT:(A.length:Int)<(fs.length:Int):=by omega
 clear hv hs g T hr hk;go_enter func39,ntmps39;go_wp2_with fail;refine(C _ ((AB _ _).alloc (AA _) _)).mono ?_;rintro e w1 ⟨rfl,hb1⟩;have hbz:=LP hb1;have c1:w1.cell? ⟨w.heap.size,0,G6⟩=G8 (FV (G8 ⟨b,off,G6⟩) fs.length cap):=by rw[hb1.cell (p:=⟨w.heap.size,0,G6⟩) (by simp)];simp
 have r:=(G9 HR).kept hbz hb;have e0:=r.c0 (G9 HK);have e1:=r.c1 (G9 HK);have e2:=r.c2 (G9 HK);obtain⟨fn,fss,ft⟩:=f;simp only at*;have k1:=fun W=>P9 fss W (by omega);have k2:=fun W=>P9 ft W (by omega);have hlen:¬9223372036854775807<fss.length+ft.length:=by omega
 clear C hb1 r;go_wp2_with fail;have a1:(w1.alloc (Obj.cells #[Value.string ⟨fn.toArray⟩,Value.string ⟨fss.toArray⟩,Value.string ⟨ft.toArray⟩] 63)).cell? ⟨w1.heap.size,1,G6⟩=G8 (.string ⟨fss.toArray⟩):=by simp
 have a2:(w1.alloc (Obj.cells #[Value.string ⟨fn.toArray⟩,Value.string ⟨fss.toArray⟩,Value.string ⟨ft.toArray⟩] 63)).cell? ⟨w1.heap.size,2,G6⟩=G8 (.string ⟨ft.toArray⟩):=by simp
 have hbw:=hbz.alloc hbz.size (Obj.cells #[Value.string ⟨fn.toArray⟩,Value.string ⟨fss.toArray⟩,Value.string ⟨ft.toArray⟩] 63);generalize w1.alloc (Obj.cells #[Value.string ⟨fn.toArray⟩,Value.string ⟨fss.toArray⟩,Value.string ⟨ft.toArray⟩] 63)=W at a1 a2 hbw⊢;have d1:∀d os,(Sort.grow (redrawn W d) os).cell? ⟨w1.heap.size,1,G6⟩=G8 (.string ⟨fss.toArray⟩):=fun d os=>cell_regrown a1 d os;have d2:∀d os,(Sort.grow (redrawn W d) os).cell? ⟨w1.heap.size,2,G6⟩=G8 (.string ⟨ft.toArray⟩):=fun d os=>cell_regrown a2 d os;have c1':=fun d os=>Calls.regrown_of (w:=W) (d:=d) (os:=os) (k1 _);have c2:=fun d os=>Calls.regrown_of (w:=W) (d:=d) (os:=os) (k2 _);clear k1 k2 a1 a2 e0 e1 e2 c1;refine wp_region_quiet_below (by kernel_rfl) (by kernel_rfl) ?_
 repeat (first|go_big_quiet_step (first|with_reducible exact c1' _ _|with_reducible exact c2 _ _)|quiet_step (first|with_reducible exact c1' _ _|with_reducible exact c2 _ _))
 refine wpQuiet_nil ?_;intro _ hw';obtain⟨⟨dq,osq⟩,hw''⟩:=hw';subst hw'';have hb2:=QF hbw (below_regrown W dq osq);clear c1' c2 d1 d2;go_wp2_with fail
 go_ret2
 exact⟨by rw[<-qU];rfl,hb2⟩
structure Q8(w W:FX)(v:FZ):Prop where
 below:B0 w W
 size:w.heap.size+2<=W.heap.size
 cd:W.cell? ⟨w.heap.size,0,G6⟩=G8 v
 cr:W.cell? ⟨w.heap.size+1,0,G6⟩=G8 (N0)
 fr:W.frozen? ⟨w.heap.size+1,0,G6⟩=false
theorem Q8.next(h:Q8 w W v)(hb:B0 W V):Q8 w V v:=
 ⟨QF h.below hb,BP h.size hb.size,by rw[hb.cell (p:=⟨w.heap.size,0,G6⟩) (by have:=h.size;show w.heap.size<_;omega)];exact h.cd,
  by rw[hb.cell (p:=⟨w.heap.size+1,0,G6⟩) (by have:=h.size;show w.heap.size+1<_;omega)];exact h.cr,by rw[hb.frozen (p:=⟨w.heap.size+1,0,G6⟩) (by have:=h.size;show w.heap.size+1<_;omega)];exact h.fr⟩
theorem Q8.grown(h:Q8 w W v)(hg:W.grownBy V (G8 g))(hl:w.heap.size+2<=g):Q8 w V v:=by
 have hs:=h.size;have b0:V.heap[w.heap.size]?=W.heap[w.heap.size]? :=hg.block _ (by omega) (fun e=>by cases e;omega);have b1:V.heap[w.heap.size+1]?=W.heap[w.heap.size+1]? :=hg.block _ (by omega) (fun e=>by cases e;omega);exact⟨h.below.grown hg (by omega) (fun k e=>by cases e;omega),BP h.size hg.size,(World.cell?_of_block b0).trans h.cd,(World.cell?_of_block b1).trans h.cr,(World.frozen?_of_block b1).trans h.fr⟩
theorem Q8.start(w:FX)(v:FZ)(t t':TypeId):Q8 w ((w.alloc (FW #[v] t)).alloc (FW #[N0] t')) v:=
 ⟨((AB _ _).alloc (AA _) _).alloc (by simp) _,by simp,by simp,by simp,by simp⟩
theorem Q8.alloc(h:Q8 w W v)(o:Obj):Q8 w (W.alloc o) v:=h.next ((AB _ _).alloc (AA _) o)
theorem UO(h:Below W.drew.heap.size W.drew V):B0 W V:=((AB _ W).drew).trans h
theorem CU2(v:FZ)(fs:List DF)(name:List UInt8)(E:Int)(w:FX)(hv:IY w v fs)(hs:mQ fs)(h:AY8 fs name E):
  G5 prog 143 #[.agg #[v],S0 name] w (R0 w (.tuple #[.agg #[N0],I0 E])):=by
 obtain⟨a,n0,c,rfl⟩:=J4 hv;have C:=fun W (hW:B0 w W)=>jU _ fs name E W (hv.next hW) hs h;have hne:(E !=0)=true:=by rcases h with⟨_,rfl⟩|⟨_,_,rfl⟩<;>decide
 clear hv hs h;go_enter func143,ntmps143;go_wp2_with fail;refine(C _ (((AB _ _).alloc (AA _) _).alloc (by simp) _)).mono ?_;rintro e w1 ⟨rfl,hb1⟩;have hbz:=LP (LP hb1);have c1:w1.cell? ⟨w.heap.size+1,0,G6⟩=G8 (N0):=by rw[hb1.cell (p:=⟨w.heap.size+1,0,G6⟩) (by simp)];simp
 have f1:w1.frozen? ⟨w.heap.size+1,0,G6⟩=false:=by rw[hb1.frozen (p:=⟨w.heap.size+1,0,G6⟩) (by simp)];simp
 clear C hb1;go_wp2_with fail;exact bodyPost_ret (v:=.tuple #[.agg #[N0],I0 E]) (by simp[results,results143,go_sem,c1]) rfl ⟨rfl,hbz.setCell (by simp) _⟩
theorem AY9(v:FZ)(fs:List DF)(name:List UInt8)(E:Int)(w:FX)(hv:IY w v fs)(hs:mQ fs)(h:AY8 fs name E):
  G5 prog 142 #[.agg #[v],S0 name] w (R0 w (.tuple #[.agg #[N0],I0 E])):=by
 obtain⟨a,n0,c,rfl⟩:=J4 hv;have C:=fun W (hW:B0 w W)=>jU _ fs name E W (hv.next hW) hs h;have hne:(E !=0)=true:=by rcases h with⟨_,rfl⟩|⟨_,_,rfl⟩<;>decide
 clear hv hs h;go_enter func142,ntmps142;go_wp2_with fail;refine(C _ (((AB _ _).alloc (AA _) _).alloc (by simp) _)).mono ?_;rintro e w1 ⟨rfl,hb1⟩;have hbz:=LP (LP hb1);have c1:w1.cell? ⟨w.heap.size+1,0,G6⟩=G8 (N0):=by rw[hb1.cell (p:=⟨w.heap.size+1,0,G6⟩) (by simp)];simp
 have f1:w1.frozen? ⟨w.heap.size+1,0,G6⟩=false:=by rw[hb1.frozen (p:=⟨w.heap.size+1,0,G6⟩) (by simp)];simp
 clear C hb1;go_wp2_with fail;exact bodyPost_ret (v:=.tuple #[.agg #[N0],I0 E]) (by simp[results,results142,go_sem,c1]) rfl ⟨rfl,hbz.setCell (by simp) _⟩
theorem YI{B:Nat}(h:YH W B v fs){k:Nat}(hk:k<fs.length):∃g cap,v=FV (G8 ⟨g,0,G6⟩) fs.length cap/\B<=g/\Own W g cap fs:=by
 rcases h with⟨rfl,rfl⟩|h
 .simp at hk
 .exact h
theorem YJ(v:FZ)(fs A B:List DF)(f:DF)(name:List UInt8)(w:FX)(hv:IY w v fs)(hs:mQ fs)(g:LV fs)(T:There fs A f B name):
  G5 prog 143 #[.agg #[v],S0 name] w fun e w'=>∃v',e=.returned (.tuple #[.agg #[v'],I0 0])/\YH w' w.heap.size v' (A++⟨f.n,f.s++f.t,[]⟩::B)/\B0 w w':=by
 have C:=fun W (hW:B0 w W)=>TY _ fs A B f name W (hv.next hW) hs g T;have CC:=fun W (hW:B0 w W)=>SY _ fs W (hv.next hW) hs g.few;obtain⟨b,off,cap,rfl,hb,hr,hk,hlt⟩:=XD hv T;have hfl:=NZ (T.ok g);have HR:=GH hr;have HK:=GH hk;have HT:=GH T.eq;have hb0:b≠w.heap.size:=by omega
 have vT:(A.length:Int)<(fs.length:Int):=by omega
 have CS:=fun W=>bC f W (by omega);have CT:=fun(g c:Nat) (W:FX) (ho:Own W g c fs)=>dW g c A.length fs f (f.s.length+f.t.length) W ho hk (by omega) hfl;have hset:fs.set A.length ⟨f.n,(f.s++f.t).take (f.s.length+f.t.length),[]⟩=A++⟨f.n,f.s++f.t,[]⟩::B:=by rw[T.eq];simp[BO]
 have hsl:fs.length=(A++⟨f.n,f.s++f.t,[]⟩::B).length:=by rw[T.eq];simp
 rw[hset]at CT;obtain⟨fs',BX1⟩:∃x,A++⟨f.n,f.s++f.t,[]⟩::B=x:=⟨_,rfl⟩;rw[BX1]at CT hsl⊢;have HSL:=GH hsl;obtain⟨L,hL⟩:∃L,f.s.length+f.t.length=L:=⟨_,rfl⟩;rw[hL]at CS hfl CT;clear hv hs g T hr hk hset BX1 hsl hL HT;go_enter func143,ntmps143;go_wp2_with fail;have X:=Q8.start w (FV (G8 ⟨b,off,G6⟩) fs.length cap) 45 45;generalize (w.alloc (FW #[FV (G8 ⟨b,off,G6⟩) fs.length cap] 45)).alloc (FW #[N0] 45)=w0 at*;refine(C _ X.below).mono ?_;rintro e w1 ⟨rfl,hb1⟩;have X1:=X.next hb1;have HX:=GH X1;have cd:=X1.cd;have r:=(G9 HR).kept X1.below hb;have e0:=r.c0 (G9 HK);have e1:=r.c1 (G9 HK);have e2:=r.c2 (G9 HK);clear C hb1 r X X1;go_wp2_with fail;refine(CC _ (G9 HX).below).mono ?_;rintro e w2 ⟨v',rfl,ho,hb2⟩;obtain⟨g,cap2,rfl,hg,ho⟩:=YI ho hlt;have hgl:=ho.lt;have hg2:w.heap.size+2<=g:=by have:=(G9 HX).size;omega
 have X2:=((G9 HX).next hb2).alloc (FW #[FV (G8 ⟨g,0,G6⟩) fs.length cap2] 45);have ho2:=ho.alloc (FW #[FV (G8 ⟨g,0,G6⟩) fs.length cap2] 45);have ca:(w2.alloc (FW #[FV (G8 ⟨g,0,G6⟩) fs.length cap2] 45)).cell? ⟨w2.heap.size,0,G6⟩=G8 (FV (G8 ⟨g,0,G6⟩) fs.length cap2):=by simp
 have haz:w2.heap.size<(w2.alloc (FW #[FV (G8 ⟨g,0,G6⟩) fs.length cap2] 45)).heap.size:=by simp
 clear CC hb2 ho HX cd e0 e1 e2;go_wp2_with fail;generalize w2.alloc (FW #[FV (G8 ⟨g,0,G6⟩) fs.length cap2] 45)=W at*;have HX:=GH X2;have HO:=GH ho2;have cd:=X2.cd;have r:=(G9 HR).kept X2.below hb;have e0:=r.c0 (G9 HK);have e1:=r.c1 (G9 HK);have e2:=r.c2 (G9 HK);clear r X2 ho2
 go_region_with (first
  |(go_at_call 67;refine(CS _).mono ?_;rintro e w3 ⟨rfl,hb3⟩;have ca3:w3.cell? ⟨w2.heap.size,0,G6⟩=G8 (FV (G8 ⟨g,0,G6⟩) fs.length cap2):=(hb3.cell (p:=⟨w2.heap.size,0,G6⟩) haz).trans ca)
  |(go_at_call 73;refine(CT g cap2 w3 ((G9 HO).next (UO hb3))).mono ?_;rintro e w4 ⟨rfl,ho4,hg4⟩))
 all_goals
  have X4:=((G9 HX).next (UO hb3)).grown hg4 hg2;have ca4:w4.cell? ⟨w2.heap.size,0,G6⟩=G8 (FV (G8 ⟨g,0,G6⟩) fs.length cap2):=hg4.cell ca3 (fun e=>by have e3:w2.heap.size=g:=BQ e;omega);have cr:=X4.cr;have fr:=X4.fr;have HB:=GH X4.below;have HO4:=GH ho4;clear X4 ho4 hg4;clear CS CT;go_wp2_with fail;refine bodyPost_ret (v:=.tuple #[.agg #[FV (G8 ⟨g,0,G6⟩) fs.length cap2],I0 0]) (by simp[results,results143,go_sem,cr]) rfl ⟨_,rfl,.inr ⟨g,cap2,by rw[G9 HSL],by omega,(G9 HO4).other (by show g≠w.heap.size+1;omega) _⟩,(G9 HB).setCell (by simp) _⟩
theorem vU(v:FZ)(fs A B:List DF)(f:DF)(name:List UInt8)(n:Nat)(w:FX)(hv:IY w v fs)(hs:mQ fs)(g:LV fs)(T:There fs A f B name)(hn:n<=f.s.length+f.t.length):
  G5 prog 42 #[.agg #[v],S0 name,I0 n] w fun e w'=>∃v',e=.returned (.tuple #[.agg #[v'],I0 0])/\YH w' w.heap.size v' (A++⟨f.n,(f.s++f.t).take n,[]⟩::B)/\B0 w w':=by
 have C:=fun W (hW:B0 w W)=>TY _ fs A B f name W (hv.next hW) hs g T;have CC:=fun W (hW:B0 w W)=>SY _ fs W (hv.next hW) hs g.few;obtain⟨b,off,cap,rfl,hb,hr,hk,hlt⟩:=XD hv T;have hfl:=NZ (T.ok g);have HR:=GH hr;have HK:=GH hk;have HT:=GH T.eq;have hb0:b≠w.heap.size:=by omega
 have vT:(A.length:Int)<(fs.length:Int):=by omega
 have CS:=fun W=>bC f W (by omega);have CT:=fun(g c:Nat) (W:FX) (ho:Own W g c fs)=>dW g c A.length fs f n W ho hk (by omega) hfl;have hset:fs.set A.length ⟨f.n,(f.s++f.t).take n,[]⟩=A++⟨f.n,(f.s++f.t).take n,[]⟩::B:=by rw[T.eq];simp
 have hsl:fs.length=(A++⟨f.n,(f.s++f.t).take n,[]⟩::B).length:=by rw[T.eq];simp
 rw[hset]at CT;obtain⟨fs',BX1⟩:∃x,A++⟨f.n,(f.s++f.t).take n,[]⟩::B=x:=⟨_,rfl⟩;rw[BX1]at CT hsl⊢;have HSL:=GH hsl;obtain⟨L,hL⟩:∃L,f.s.length+f.t.length=L:=⟨_,rfl⟩;rw[hL]at CS hfl hn;have hn0:¬ ((n:Int)<0):=by omega
 have hn1:¬ ((L:Int)<(n:Int)):=by omega
 clear hv hs g T hr hk hset BX1 hsl hL HT;go_enter func42,ntmps42;go_wp2_with fail;have X:=Q8.start w (FV (G8 ⟨b,off,G6⟩) fs.length cap) 45 45;generalize (w.alloc (FW #[FV (G8 ⟨b,off,G6⟩) fs.length cap] 45)).alloc (FW #[N0] 45)=w0 at*;refine(C _ X.below).mono ?_;rintro e w1 ⟨rfl,hb1⟩;have X1:=X.next hb1;have HX:=GH X1;have cd:=X1.cd;have r:=(G9 HR).kept X1.below hb;have e0:=r.c0 (G9 HK);have e1:=r.c1 (G9 HK);have e2:=r.c2 (G9 HK);clear C hb1 r X X1;go_wp2_with fail;refine(CS _).mono ?_;rintro e wx ⟨rfl,hbx⟩;have X1:=(G9 HX).next hbx;clear HX;have HX:=GH X1;have cdx:=X1.cd;clear hbx X1;go_wp2_with fail;refine(CC _ (G9 HX).below).mono ?_;rintro e w2 ⟨v',rfl,ho,hb2⟩;obtain⟨g,cap2,rfl,hg,ho⟩:=YI ho hlt;have hgl:=ho.lt;have hg2:w.heap.size+2<=g:=by have:=(G9 HX).size;omega
 have X2:=((G9 HX).next hb2).alloc (FW #[FV (G8 ⟨g,0,G6⟩) fs.length cap2] 45);have ho2:=ho.alloc (FW #[FV (G8 ⟨g,0,G6⟩) fs.length cap2] 45);have ca:(w2.alloc (FW #[FV (G8 ⟨g,0,G6⟩) fs.length cap2] 45)).cell? ⟨w2.heap.size,0,G6⟩=G8 (FV (G8 ⟨g,0,G6⟩) fs.length cap2):=by simp
 have haz:w2.heap.size<(w2.alloc (FW #[FV (G8 ⟨g,0,G6⟩) fs.length cap2] 45)).heap.size:=by simp
 clear CC hb2 ho HX cd e0 e1 e2 cdx;go_wp2_with fail;generalize w2.alloc (FW #[FV (G8 ⟨g,0,G6⟩) fs.length cap2] 45)=W at*;have HX:=GH X2;have HO:=GH ho2;have cd:=X2.cd;have r:=(G9 HR).kept X2.below hb;have e0:=r.c0 (G9 HK);have e1:=r.c1 (G9 HK);have e2:=r.c2 (G9 HK);clear r X2 ho2;refine(CT g cap2 W (G9 HO)).mono ?_;rintro e w4 ⟨rfl,ho4,hg4⟩
 all_goals
  have X4:=(G9 HX).grown hg4 hg2;have ca4:w4.cell? ⟨w2.heap.size,0,G6⟩=G8 (FV (G8 ⟨g,0,G6⟩) fs.length cap2):=hg4.cell ca (fun e=>by have e3:w2.heap.size=g:=BQ e;omega);have cr:=X4.cr;have fr:=X4.fr;have HB:=GH X4.below;have HO4:=GH ho4;clear X4 ho4 hg4;clear CS CT;go_wp2_with fail;refine bodyPost_ret (v:=.tuple #[.agg #[FV (G8 ⟨g,0,G6⟩) fs.length cap2],I0 0]) (by simp[results,results42,go_sem,cr]) rfl ⟨_,rfl,.inr ⟨g,cap2,by rw[G9 HSL],by omega,(G9 HO4).other (by show g≠w.heap.size+1;omega) _⟩,(G9 HB).setCell (by simp) _⟩
def jV:List FZ:=[.string ⟨#[]⟩,.string ⟨#[]⟩,.string ⟨#[]⟩]
theorem AK0(w:FX)(ty:TypeId)(b o c:Nat)(hc:∀j,j<3->(w.cell? ⟨b,o+j,G6⟩).isSome=true)(hf:∀j,j<3->w.frozen? ⟨b,o+j,G6⟩=false):
  (Builtin.clear_ #[43] ty #[FV (G8 ⟨b,o,G6⟩) 1 c]).run prog w=.ok (.tuple #[]) (w.setCells b o jV):=by
 have hzc:(BJ (Value.agg #[.string ⟨#[]⟩,.string ⟨#[]⟩,.string ⟨#[]⟩]).cells 1).toList=jV:=by kernel_rfl
 have hst:=run_storeCells_cells (P:=prog) b o jV 0 w (by simpa [jV]using hc) (by simpa [jV]using hf) (by simp[jV,Value.oneCell']);simp only[Nat.add_zero]at hst;simp[Builtin.clear_,run_underlying underlying43,hzc,hst]
theorem Own.some(h:Own W g cap fs){j:Nat}(hj:j<cap*3):(W.cell? ⟨g,j,G6⟩).isSome=true:=by
 obtain⟨rest,h1,h2,_⟩:=h;have hl:j<(I9 fs++rest).length:=by rw[AP,H8,h2];exact hj
 rw[AP]at hl;simp[World.cell?,h1,hl]
theorem A04(g cap:Nat)(A B:List DF)(f:DF)(n:Nat)(w:FX)(ho:Own w g cap (A++f::B))(hn:n=A.length+B.length+1)(hsm:n<=1000):
  G5 prog 185 #[FV (G8 ⟨g,0,G6⟩) n cap,I0 A.length,I0 (A.length+1:Nat)] w fun e w'=>
   e=.returned (FV (G8 ⟨g,0,G6⟩) (A.length+B.length) cap)/\Own w' g cap (A++B)/\w.grownBy w' (G8 g):=by
 obtain⟨i0,hi0,hz0,hz1,hz2⟩:=UN;have hle:=ho.le;have hcl:=ho.capLe;simp only[maxLen]at hcl;rw[AP,BH]at hle;have hrow:=ho.row;obtain⟨AD,hAD,hsrc⟩:∃AD:Addr,(if cap=A.length+1 then G8 (⟨g,0,G6⟩:Addr)else G8 ⟨g,(A.length+1)*3,G6⟩)=G8 AD/\Hid (∀t u,(I9 B)[t]?=G8 u->w.drew.cell? (AD.add t)=G8 u):=by
  by_cases h:cap=A.length+1
  .refine⟨⟨g,0,G6⟩,by simp[h],fun t u hu=>?_⟩;have h0:B=[]:=C9 (by omega);rw[h0]at hu;simp[I9]at hu
  .refine⟨⟨g,(A.length+1)*3,G6⟩,by simp[h],fun t u hu=>?_⟩;rw[BM];have:=hrow ((A.length+1)*3+t) u (by
    rw[JV,BD (by rw[H8];omega),H8,I9,BD (by simp[JH];omega)];simp only[JH,BH,EZ];rw[<-hu];congr 1;omega)
   rw[BK]at this;exact this
 have s1:Hid ((I9 B).length=B.length*3):=H8 B;have s2:Hid (∀u∈I9 B,u.oneCell'=true):=YG B;have s3:Hid (∀t,t<(I9 B).length->(w.drew.cell? ⟨g,0+A.length*3+t,G6⟩).isSome=true/\w.drew.frozen? ⟨g,0+A.length*3+t,G6⟩=false):=by
  intro t ht;rw[H8]at ht;exact⟨ho.some (by omega),ho.frozen _⟩
 obtain⟨W1,hW1⟩:∃W1,W1=w.drew.setCells g (0+A.length*3) (I9 B):=⟨_,rfl⟩;have ho1:Own W1 g cap (A++B):=by rw[hW1,BK];exact ho.drew.splice B (by omega)
 have hg1:w.grownBy W1 (G8 g):=by rw[hW1];have:=LX (g:=g) (I9 B) (0+A.length*3) w.drew;exact⟨this.os,this.tape,this.output,this.size,this.block⟩
 have CS4:∀ty c,(Builtin.clear_ #[43] ty #[FV (G8 ⟨g,(A.length+B.length)*3,G6⟩) 1 c]).run prog W1=.ok (.tuple #[]) (W1.setCells g ((A.length+B.length)*3) jV):=fun ty c=>
  AK0 W1 ty g _ c (fun j hj=>ho1.some (by omega)) (fun j hj=>ho1.frozen _)
 have FIN:Hid (Own (W1.setCells g ((A.length+B.length)*3) jV) g cap (A++B)/\w.grownBy (W1.setCells g ((A.length+B.length)*3) jV) (G8 g)):=
  ⟨ho1.spare jV _ (by rw[AP];omega) (by simp[jV];omega),TB hg1 (LX _ _ _)⟩
 have hW:Hid (W1=w.drew.setCells g (0+A.length*3) (I9 B)):=hW1;have hic:A.length<=cap:=by omega
 have hjc:A.length+1<=cap:=by omega
 have hne:¬ (cap=A.length+B.length):=by omega
 have hb1:(0:Int)<=(A.length:Int)+1:=by omega
 have hb2:(A.length:Int)<=(A.length:Int)+(B.length:Int):=by omega
 have hb3:(0:Int)<=(A.length:Int)+(B.length:Int):=by omega
 have hs1:A.length+B.length+1-(A.length+B.length)=1:=by omega
 clear hW1 ho1 hg1 hrow ho;subst hn;go_enter func185,ntmps185;go_wp2_with fail
 go_region_law (refine step_append_room rfl (.tmp 22) (.tmp 25) 43 rfl 63 i0 3 underlying43 hi0 hz1 g 0 A.length cap (by simp[Act.eval,Act.put]) AD B.length (cap-(A.length+1)) (I9 B) (by simp[Act.eval,Act.put]) s1.out hsrc.out s2.out (by omega) s3.out ?_;rw[<-hW.out])
 go_wp2
 go_ret;exact⟨rfl,FIN.out⟩
theorem vV(v:FZ)(fs A B:List DF)(f:DF)(name:List UInt8)(w:FX)(hv:IY w v fs)(hs:mQ fs)(g:LV fs)(T:There fs A f B name):
  G5 prog 142 #[.agg #[v],S0 name] w fun e w'=>∃v',e=.returned (.tuple #[.agg #[v'],I0 0])/\YH w' w.heap.size v' (A++B)/\B0 w w':=by
 have C:=fun W (hW:B0 w W)=>TY _ fs A B f name W (hv.next hW) hs g T;have CC:=fun W (hW:B0 w W)=>SY _ fs W (hv.next hW) hs g.few;obtain⟨b,off,cap,rfl,hb,hr,hk,hlt⟩:=XD hv T;have hb0:b≠w.heap.size:=by omega
 have hsm:=g.few;have hlen:fs.length=A.length+B.length+1:=by rw[T.eq];simp;omega
 have CD:=fun(q c:Nat) (W:FX) (ho:Own W q c fs)=>A04 q c A B f fs.length W (by rw[<-T.eq];exact ho) hlen (by omega);have HL:=GH hlen;clear hv hs g T hr hk hlen;go_enter func142,ntmps142;go_wp2_with fail;have X:=Q8.start w (FV (G8 ⟨b,off,G6⟩) fs.length cap) 45 45;generalize (w.alloc (FW #[FV (G8 ⟨b,off,G6⟩) fs.length cap] 45)).alloc (FW #[N0] 45)=w0 at*;refine(C _ X.below).mono ?_;rintro e w1 ⟨rfl,hb1⟩;have X1:=X.next hb1;have HX:=GH X1;have cd:=X1.cd;clear C hb1 X X1;go_wp2_with fail;refine(CC _ (G9 HX).below).mono ?_;rintro e w2 ⟨v',rfl,ho,hb2⟩;obtain⟨q,cap2,rfl,hq,ho⟩:=YI ho hlt;have hql:=ho.lt;have hq2:w.heap.size+2<=q:=by have:=(G9 HX).size;omega
 have X2:=((G9 HX).next hb2).alloc (FW #[FV (G8 ⟨q,0,G6⟩) fs.length cap2] 45);have ho2:=ho.alloc (FW #[FV (G8 ⟨q,0,G6⟩) fs.length cap2] 45);have ca:(w2.alloc (FW #[FV (G8 ⟨q,0,G6⟩) fs.length cap2] 45)).cell? ⟨w2.heap.size,0,G6⟩=G8 (FV (G8 ⟨q,0,G6⟩) fs.length cap2):=by simp
 have fa:(w2.alloc (FW #[FV (G8 ⟨q,0,G6⟩) fs.length cap2] 45)).frozen? ⟨w2.heap.size,0,G6⟩=false:=by simp
 have hz2:w.heap.size+2<=w2.heap.size:=by omega
 have haz:w2.heap.size<(w2.alloc (FW #[FV (G8 ⟨q,0,G6⟩) fs.length cap2] 45)).heap.size:=by simp
 clear CC hb2 ho HX cd;go_wp2_with fail;generalize w2.alloc (FW #[FV (G8 ⟨q,0,G6⟩) fs.length cap2] 45)=W at*;refine(CD q cap2 _ ho2).mono ?_;rintro e w4 ⟨rfl,ho4,hg4⟩;have X4:=X2.grown hg4 hq2;have ca4:w4.cell? ⟨w2.heap.size,0,G6⟩=G8 (FV (G8 ⟨q,0,G6⟩) fs.length cap2):=hg4.cell ca (fun e=>by have e3:w2.heap.size=q:=BQ e;omega);have fa4:w4.frozen? ⟨w2.heap.size,0,G6⟩=false:=(World.frozen?_of_block (hg4.block w2.heap.size haz (fun e=>by have e3:w2.heap.size=q:=BQ e;omega))).trans fa;have cr:=X4.cr;have fr:=X4.fr;have HB:=GH X4.below;have HO4:=GH ho4;clear X4 ho4 hg4 X2 ho2 CD ca fa;go_wp2_with fail;exact bodyPost_ret (v:=.tuple #[.agg #[FV (G8 ⟨q,0,G6⟩) (A.length+B.length) cap2],I0 0]) (by simp[results,results142,go_sem,cr]) rfl
  ⟨_,rfl,.inr ⟨q,cap2,by rw[AP],by omega,((G9 HO4).other (by show q≠w2.heap.size;omega) _).other (by show q≠w.heap.size+1;omega) _⟩,((G9 HB).setCell (by show w.heap.size<=w2.heap.size;omega) _).setCell (by simp) _⟩
theorem bF(w:FX)(ty:TypeId)(b o dLen dCap:Nat)(a:Addr)(sLen sCap:Nat)(cs:List FZ)(hn:cs.length=Nat.min sLen dLen*3)
  (hsrc:∀j v,cs[j]?=G8 v->w.cell? (a.add j)=G8 v) (hc:∀j,j<cs.length->(w.cell? ⟨b,o+j,G6⟩).isSome=true) (hf:∀j,j<cs.length->w.frozen? ⟨b,o+j,G6⟩=false) (h1:∀v∈cs,v.oneCell'=true):
  (EC #[43,43] ty #[FV (G8 ⟨b,o,G6⟩) dLen dCap,FV (G8 a) sLen sCap]).run prog w=.ok (goInt (Nat.min sLen dLen)) (w.setCells b o cs):=by
 have hl:=run_loadCells_list (P:=prog) w a cs hsrc;have hst:=run_storeCells_cells (P:=prog) b o cs 0 w (by simpa using hc) (by simpa using hf) h1;obtain⟨i0,hi0,hz0,hz1,hz2⟩:=UN;simp[EC,run_underlying underlying43,Builtin.lenOf,Builtin.firstCells,sizeOf,typeInfo,hi0,hz1,<-hn,hl,hst]
theorem vW(w:FX){o:Oper}{a:Act}{K:Act->FX->Prop}{Q:Exit->Act->FX->Prop}(d s:Operand)(t t':TypeId)
  (ho:o.op=.call {callee:=.builtin .copy,args:=#[d,s],argTypes:=#[t,t']}) (v u:FZ) (hd:a.eval d=v) (hs:a.eval s=u) {v':FZ} {w':FX}
  (hr:(EC #[t,t'] o.type #[v,u]).run prog w=.ok v' w') (h:K (a.put o.dst v') w'):o.wp prog a w K Q:=by
 unfold Oper.wp execOp;simp only[ho,resolve,invoke,builtin,Sem.run_bind,Sem.run_pure,Result.andThen_ok,List.map_toArray,List.map_cons,List.map_nil,hd,hs,hr];exact h
theorem WC(w:FX){ops:Array Oper}{rest:List Oper}{o:Oper}{a:Act}{Q:Exit->Act->FX->Prop}(hgd:o.guard=G6)(d s:Operand)(t t':TypeId)
  (ho:o.op=.call {callee:=.builtin .copy,args:=#[d,s],argTypes:=#[t,t']}) (v u:FZ) (hd:a.eval d=v) (hs:a.eval s=u) {v':FZ} {w':FX}
  (hr:(EC #[t,t'] o.type #[v,u]).run prog w=.ok v' w') (h:wpList prog ops Q rest (a.put o.dst v') w'):wpList prog ops Q (o::rest) a w:=
 wpList_plain hgd fun _ hK=>vW w d s t t' ho v u hd hs hr (hK _ _ h)
theorem YZ{ops:Array Oper}{o:Oper}{a:Act}{w:FX}{K:Act->FX->Prop}{Q:Exit->Act->FX->Prop}{E:Prop}
  (hg:o.guard=G6) (d x:Operand) (dT sT:TypeId) (hop:o.op=Op.call {callee:=Callee.builtin Builtin.copy,args:=#[d,x],argTypes:=#[dT,sT]})
  (v u:FZ) (hd:a.eval d=v) (hx:a.eval x=u) {v':FZ} {w':FX} (hr:(EC #[dT,sT] o.type #[v,u]).run prog w=.ok v' w') (hK:K (a.put o.dst v') w'):
  if Region.wanted o (yielded ops a.tmps)=true then Oper.wp prog o a w K Q else E:=by
 have hw:Region.wanted o (yielded ops a.tmps)=true:=by simp[Region.wanted,hg]
 rw[if_pos hw];unfold Oper.wp;simp[execOp,hop,resolve,invoke,builtin,hd,hx,hr,Result.andThen];exact hK
def One(W:FX)(b:Nat)(x:DF):Prop:=W.heap[b]?=G8 (FW (JH x).toArray 63 (0,0))
theorem One.row{b:Nat}{x:DF}(h:One W b x):∀j v,(JH x)[j]?=G8 v->W.cell? ⟨b,0+j,G6⟩=G8 v:=by
 intro j v hj;unfold One at h;have:(JH x).toArray[j]?=G8 v:=by simpa using hj
 simp[World.cell?,h,hj]
theorem YK(x:DF):∀u∈JH x,u.oneCell'=true:=by
 intro u h;simp[JH]at h;rcases h with rfl|rfl|rfl<;>rfl
theorem A05(v:FZ)(A:List DF)(x:DF)(B b:Nat)(w:FX)(ho:YH w B v A)(hB:B<=w.heap.size)(hl:A.length<=16)(h1:One w b x):
  G5 prog 69 #[v,I0 A.length,FV (G8 ⟨b,0,G6⟩) 1 1] w fun e w'=>
   ∃v',e=.returned v'/\YH w' B v' (A++[x])/\w.grownBy w' v.ownBlock:=by
 obtain⟨i0,hi0,hz0,hz1,hz2⟩:=UN;have hrow:=ho.row;have HR:=GH hrow;have H1:=GH h1.row;have V:∃a c,v=FV a A.length c/\A.length<=c:=by
  rcases ho with⟨rfl,rfl⟩|⟨g,cap,rfl,_,h⟩
  .exact⟨G6,0,rfl,AA _⟩
  .exact⟨_,cap,rfl,h.le⟩
 obtain⟨a,c,rfl,hc⟩:=V;clear ho hrow h1;rcases Nat.lt_or_ge A.length c with hcl|hcl
 .have hne:¬c=A.length:=by omega
  go_enter func69,ntmps69;go_wp2_with (at_builtin;refine wpList_append_own _ rfl _ _ 43 rfl B 63 i0 _ 3 48 underlying43 hi0 hz0 hz1 hz2 rfl (by decide) _ A.length (I9 A) rfl (G9 HR) ⟨b,0,G6⟩ 1 1 (JH x) rfl (by rfl) ?qc2 (YK x) ?qc4 ?qc5 hB ?_)
  case qc2=>
   intro j u hj;rw[BM];exact G9 H1 j u hj
  case qc4=>simp only[maxLen];omega
  case qc5=>omega
  intro v' w1 hown hgrow _
  go_wp2
  go_ret;exact⟨v',rfl,YH.LD (by rw[AP,JV];simpa [I9]using hown),hgrow⟩
 .obtain rfl:c=A.length:=by omega
  go_enter func69,ntmps69;go_wp2_with (at_builtin;refine wpList_append_own _ rfl _ _ 43 rfl B 63 i0 _ 3 48 underlying43 hi0 hz0 hz1 hz2 rfl (by decide) _ A.length (I9 A) rfl (G9 HR) ⟨b,0,G6⟩ 1 1 (JH x) rfl (by rfl) ?qc2 (YK x) ?qc4 ?qc5 hB ?_)
  case qc2=>
   intro j u hj;rw[BM];exact G9 H1 j u hj
  case qc4=>simp only[maxLen];omega
  case qc5=>omega
  intro v' w1 hown hgrow _
  go_wp2
  go_ret;exact⟨v',rfl,YH.LD (by rw[AP,JV];simpa [I9]using hown),hgrow⟩
theorem qV(g cap:Nat)(A R:List DF)(y x:DF)(n b:Nat)(w:FX)(ho:Own w g cap (A++y::R))(hn:n=A.length+R.length+1)(hsm:n<=16)(hroom:n+1<=cap)(h1:One w b x)(hbg:b≠g):
  G5 prog 69 #[FV (G8 ⟨g,0,G6⟩) n cap,I0 A.length,FV (G8 ⟨b,0,G6⟩) 1 1] w fun e w'=>
   e=.returned (FV (G8 ⟨g,0,G6⟩) (n+1) cap)/\Own w' g cap (A++x::y::R)/\w.grownBy w' (G8 g):=by
 have hcl:=ho.capLe;simp only[maxLen]at hcl;have hrow:=ho.row;have AZ0:w.shape? g=G8 (63,cap*3):=by
  obtain⟨rest,q1,q2,_⟩:=ho;rw[AP,BH]at q2;simp[World.shape?,q1,H8,q2]
 have AZ1:w.shape? b=G8 (63,3):=by unfold One at h1;simp[World.shape?,h1,JH]
 have hfb:∀j,w.frozen? ⟨b,j,G6⟩=false:=fun j=>by unfold One at h1;simp[World.frozen?,h1]
 have hov:∀lb cb,(callFunc 108 #[FV (G8 ⟨b,0,G6⟩) 1 1,FV (G8 ⟨g,(A.length+1)*3,G6⟩) lb cb]).run prog w=.ok (.value (.bool false)) w:=fun lb cb=>by
  rw[run_callFunc_extern func108 (by kernel_rfl) (by kernel_rfl) (by kernel_rfl) (e:=Extern.SlicesOverlaps.overlaps #[43,43] #[4]) (by kernel_rfl),
   Lib.run_overlaps_apart w 43 4 63 underlying43 3 sizeOf63 ⟨b,0,G6⟩ ⟨g,(A.length+1)*3,G6⟩ 1 1 lb cb hbg 63 63 3 (cap*3) AZ1 AZ0 (by omega) (hfb 0) (hfb 3)]
  rfl
 obtain⟨W1,hW1⟩:∃W1,W1=w.drew.setCells g ((A.length+1)*3) (I9 (y::R)):=⟨_,rfl⟩;have ho1:Own W1 g cap (A++y::y::R):=by
  have h:Own w.drew g cap ((A++[y])++R):=by rw[BZ];exact ho
  have:=h.splice (y::R) (by simp;omega);rw[hW1];simpa using this
 have hg1:w.grownBy W1 (G8 g):=by rw[hW1];have:=LX (g:=g) (I9 (y::R)) ((A.length+1)*3) w.drew;exact⟨this.os,this.tape,this.output,this.size,this.block⟩
 have hcp1:∀ty dc sc,(EC #[43,43] ty #[FV (G8 ⟨g,(A.length+1)*3,G6⟩) (n-A.length) dc,FV (G8 ⟨g,A.length*3,G6⟩) (n+1-A.length) sc]).run prog w.drew=.ok (goInt (Nat.min (n+1-A.length) (n-A.length))) W1:=fun ty dc sc=>by
  rw[hW1];exact bF w.drew ty g _ _ dc ⟨g,A.length*3,G6⟩ _ sc (I9 (y::R)) (by rw[H8];simp only[Nat.min_def,BH];split<;>omega)
   (fun j v hj=>by
    rw[BM];have:=hrow (A.length*3+j) v (by rw[JV,BD (by rw[H8];omega),H8,FH];exact hj);rw[BK]at this;exact this)
   (fun j hj=>by rw[H8]at hj;exact ho.some (by simp at hj;omega)) (fun j _=>ho.frozen _) (YG _)
 have hcp2:∀ty dc,(EC #[43,43] ty #[FV (G8 ⟨g,A.length*3,G6⟩) (n+1-A.length) dc,FV (G8 ⟨b,0,G6⟩) 1 1]).run prog W1=.ok (goInt (Nat.min 1 (n+1-A.length))) (W1.setCells g (A.length*3) (JH x)):=fun ty dc=>
  bF W1 ty g _ _ dc ⟨b,0,G6⟩ 1 1 (JH x) (by simp only[Nat.min_def,JH,BH,EZ];split<;>omega)
   (fun j v hj=>by
    rw[BM];have hb2:W1.heap[b]?=w.heap[b]? :=hg1.block b (by unfold One at h1;exact(AL.1 h1).1) (fun e=>hbg (BQ e));have h2:One W1 b x:=hb2.trans h1;exact h2.row j v hj)
   (fun j hj=>ho1.some (by simp[JH]at hj;omega)) (fun j _=>ho1.frozen _) (YK x)
 have FIN:Hid (Own (W1.setCells g (A.length*3) (JH x)) g cap (A++x::y::R)/\w.grownBy (W1.setCells g (A.length*3) (JH x)) (G8 g)):=
  ⟨ho1.vK x,TB hg1 (LX _ _ _)⟩
 have hin:A.length<n:=by omega
 have C27:(A.length:Int)<(n:Int):=by omega
 have hw1:IntKind.i64.wrap ((A.length:Int)+1)=(A.length:Int)+1:=by rw[IntKind.wrap_i64];omega
 have hb1:(0:Int)<=(A.length:Int)+1:=by omega
 have hb2:¬ (cap=A.length+1):=by omega
 have hb3:(A.length:Int)<=(n:Int)+1:=by omega
 have hb4:¬ (cap=A.length):=by omega
 have hb5:(A.length:Int)+1<=(n:Int)+1:=by omega
 have hb6:¬ ((cap:Int)<(n:Int)+1):=by omega
 have hz2:¬ ((A.length:Int)=(n:Int)):=by omega
 have htn:((A.length:Int)+1).toNat=A.length+1:=by omega
 clear hW1 ho1 hg1 hrow AZ0 AZ1 hfb ho h1 hn;go_enter func69,ntmps69;go_wp2_with (simp only[hov])
 go_region_law (refine YZ rfl (.tmp 73) (.tmp 76) 43 43 rfl (FV (G8 ⟨g,(A.length+1)*3,G6⟩) (n-A.length) (cap-(A.length+1))) (FV (G8 ⟨g,A.length*3,G6⟩) (n+1-A.length) (cap-A.length)) (by simp[Act.eval,Act.put]) (by simp[Act.eval,Act.put]) (hcp1 _ _ _) ?_)
 go_wp2_with (at_builtin;refine WC _ rfl _ _ 43 43 rfl _ _ rfl rfl (hcp2 _ _) ?_);go_ret;exact⟨rfl,FIN.out⟩
theorem A06(k:Nat):(BJ (Value.agg #[.string ⟨#[]⟩,.string ⟨#[]⟩,.string ⟨#[]⟩]).cells k).size=k*3:=by
 simp[BJ,Value.cells]
theorem vX(g cap:Nat)(A R:List DF)(y x:DF)(n b:Nat)(w:FX)(ho:Own w g cap (A++y::R))(hn:n=A.length+R.length+1)(hsm:n<=16)(hroom:cap<n+1)(h1:One w b x):
  G5 prog 69 #[FV (G8 ⟨g,0,G6⟩) n cap,I0 A.length,FV (G8 ⟨b,0,G6⟩) 1 1] w fun e w'=>
   ∃cap',e=.returned (FV (G8 ⟨w.heap.size,0,G6⟩) (n+1) cap')/\Own w' w.heap.size cap' (A++x::y::R)/\B0 w w':=by
 have hcap:cap=n:=by have:=ho.le;simp at this;omega
 obtain⟨i0,hi0,hz0,hz1,hz2⟩:=UN;have hrow:=ho.row;have hgw:=ho.lt;have hbw:b<w.heap.size:=by unfold One at h1;exact(AL.1 h1).1
 have hold:(Builtin.firstCells i0.size A.length (FV (G8 ⟨g,0,G6⟩) A.length cap)).run prog w.drew=.ok (I9 A).toArray w.drew:=by
  rw[hz1];exact run_firstCells_some w.drew 3 A.length ⟨g,0,G6⟩ A.length cap (I9 A) (H8 A) (fun j v hj=>by
   rw[BM];exact hrow j v (by rw[JV,BN (AV.1 hj).1];exact hj))
 obtain⟨G,hG⟩:∃G,G=grownCap w (n+1) cap 63:=⟨_,rfl⟩;have hGn:n+1<=G:=by rw[hG];exact grownCap_ge w _ _ _
 have hGm:G<=maxLen:=by rw[hG];exact grownCap_le_maxLen w (n+1) cap _ (by unfold maxLen;omega)
 have hG63:G<=9223372036854775807:=by have:=hGm;unfold maxLen at this;omega
 obtain⟨ROW,hROW⟩:∃ROW:Array FZ,ROW=(I9 A).toArray++BJ (Value.agg #[.string ⟨#[]⟩,.string ⟨#[]⟩,.string ⟨#[]⟩]).cells (n+1-A.length)++BJ (Value.agg #[.string ⟨#[]⟩,.string ⟨#[]⟩,.string ⟨#[]⟩]).cells (G-(n+1)):=⟨_,rfl⟩;obtain⟨W1,hW1⟩:∃W1,W1=w.drew.alloc (FW ROW 63):=⟨_,rfl⟩;have hik:A.length+(n+1-A.length)=n+1:=by omega
 have hrz:∀ty,(Builtin.append_ #[43,3] ty #[FV (G8 ⟨g,0,G6⟩) A.length cap,I0 ((n:Int)+1-(A.length:Int))]).run prog w=
   .ok (FV (G8 ⟨w.heap.size,0,G6⟩) (n+1) G) W1:=fun ty=>by
  have h:=Lib.run_append_grow_zeros w 43 3 ty 63 i0 _ .i64 .i64 underlying43 underlying3 hi0 hz0 (G8 ⟨g,0,G6⟩) A.length cap (I9 A) hold (n+1-A.length) (by omega) (by omega) (by omega) (by omega) (by rw[hz2];omega) (by rw[hz2,hik];exact growslice_fits hroom (by omega));rw[hik,<-hG,<-hROW,<-hW1]at h;rw[show (n:Int)+1-(A.length:Int)=((n+1-A.length:Nat):Int) by omega];exact h
 have ho1:Own W1 w.heap.size G A:=by
  refine⟨(BJ (Value.agg #[.string ⟨#[]⟩,.string ⟨#[]⟩,.string ⟨#[]⟩]).cells (n+1-A.length)++BJ (Value.agg #[.string ⟨#[]⟩,.string ⟨#[]⟩,.string ⟨#[]⟩]).cells (G-(n+1))).toList,?_,?_,hGm⟩
  .rw[hW1,hROW];have:=heap_alloc_new w.drew (FW ((I9 A).toArray++BJ (Value.agg #[.string ⟨#[]⟩,.string ⟨#[]⟩,.string ⟨#[]⟩]).cells (n+1-A.length)++BJ (Value.agg #[.string ⟨#[]⟩,.string ⟨#[]⟩,.string ⟨#[]⟩]).cells (G-(n+1))) 63);refine Eq.trans this ?_
   congr 2
   apply Array.toList_inj.1
   simp
  .simp only[Array.length_toList,Array.size_append,A06];omega
 have hB1:B0 w W1:=by rw[hW1];exact((AB _ w).drew).alloc (AA _) _
 obtain⟨W2,hW2⟩:∃W2,W2=W1.setCells w.heap.size (A.length*3) (JH x):=⟨_,rfl⟩;have ho2:Own W2 w.heap.size G (A++[x]):=by
  have h:Own W1 w.heap.size G (A++[]):=by rw[DV];exact ho1
  have:=h.splice [x] (by simp;omega);rw[hW2];simpa [I9]using this
 have hg2:W1.grownBy W2 (G8 w.heap.size):=by rw[hW2];exact LX _ _ _
 have hB2:B0 w W2:=hB1.grown hg2 hB1.size (fun k e=>by cases e;exact AA _);have hcpA:∀ty dc,(EC #[43,43] ty #[FV (G8 ⟨w.heap.size,A.length*3,G6⟩) (n+1-A.length) dc,FV (G8 ⟨b,0,G6⟩) 1 1]).run prog W1=.ok (goInt (Nat.min 1 (n+1-A.length))) W2:=fun ty dc=>by
  rw[hW2];exact bF W1 ty w.heap.size _ _ dc ⟨b,0,G6⟩ 1 1 (JH x) (by simp only[Nat.min_def,JH,BH,EZ];split<;>omega)
   (fun j v hj=>by rw[BM];exact(show One W1 b x from(hB1.block b hbw).trans h1).row j v hj)
   (fun j hj=>ho1.some (by simp[JH]at hj;omega)) (fun j _=>ho1.frozen _) (YK x)
 obtain⟨W3,hW3⟩:∃W3,W3=W2.drew.setCells w.heap.size ((A.length+1)*3) (I9 (y::R)):=⟨_,rfl⟩;have hcpB:∀ty dc sc,(EC #[43,43] ty #[FV (G8 ⟨w.heap.size,(A.length+1)*3,G6⟩) (n-A.length) dc,FV (G8 ⟨g,A.length*3,G6⟩) (n-A.length) sc]).run prog W2.drew=.ok (goInt (Nat.min (n-A.length) (n-A.length))) W3:=fun ty dc sc=>by
  rw[hW3];exact bF W2.drew ty w.heap.size _ _ dc ⟨g,A.length*3,G6⟩ _ sc (I9 (y::R)) (by rw[H8];simp only[Nat.min_self,BH];omega)
   (fun j v hj=>by
    rw[BM];have:=hrow (A.length*3+j) v (by rw[JV,BD (by rw[H8];omega),H8,FH];exact hj);rw[BK]at this;exact(hB2.cell (p:=⟨g,A.length*3+j,G6⟩) hgw).trans this)
   (fun j hj=>by rw[H8]at hj;exact ho2.drew.some (by simp at hj;omega)) (fun j _=>ho2.drew.frozen _) (YG _)
 have FIN:Hid (Own W3 w.heap.size G (A++x::y::R)/\B0 w W3):=by
  refine⟨?_,?_⟩
  .have h:Own W2.drew w.heap.size G ((A++[x])++[]):=by rw[DV];exact ho2
   have:=h.splice (y::R) (by simp;omega);rw[hW3];simpa using this
  .rw[hW3];exact hB2.drew.grown (LX _ _ _) hB2.size (fun k e=>by cases e;exact AA _)
 have hin:A.length<n:=by omega
 have C27:(A.length:Int)<(n:Int):=by omega
 have hw1:IntKind.i64.wrap ((A.length:Int)+1)=(A.length:Int)+1:=by rw[IntKind.wrap_i64];omega
 have hb1:(0:Int)<=(A.length:Int)+1:=by omega
 have hb2:¬ (G=A.length+1):=by omega
 have hb3:(A.length:Int)<=(n:Int)+1:=by omega
 have hb4:¬ (n=A.length):=by omega
 have hb5:(A.length:Int)+1<=(n:Int)+1:=by omega
 have hb6:¬ (G=A.length):=by omega
 have hb7:(A.length:Int)<=(n:Int):=by omega
 have hz3:¬ ((A.length:Int)=(n:Int)):=by omega
 have htn:((A.length:Int)+1).toNat=A.length+1:=by omega
 subst hcap;clear hn hROW hW1 hW2 hW3 hG hrow ho h1 ho1 ho2 hB1 hB2 hg2 hold hik;go_enter func69,ntmps69;go_wp2_with (first
  |(at_builtin;refine Lib.wpList_append_run _ rfl _ _ _ _ rfl _ _ rfl rfl _ _ (hrz _) ?_)
  |(at_builtin;refine WC _ rfl _ _ 43 43 rfl _ _ rfl rfl (hcpA _ _) ?_))
 go_region_law (refine YZ rfl (.tmp 50) (.tmp 53) 43 43 rfl (FV (G8 ⟨w.heap.size,(A.length+1)*3,G6⟩) (cap-A.length) (G-(A.length+1))) (FV (G8 ⟨g,A.length*3,G6⟩) (cap-A.length) (cap-A.length)) (by simp[Act.eval,Act.put]) (by simp[Act.eval,Act.put]) (hcpB _ _ _) ?_)
 go_wp2
 go_ret;exact⟨G,rfl,FIN.out⟩
