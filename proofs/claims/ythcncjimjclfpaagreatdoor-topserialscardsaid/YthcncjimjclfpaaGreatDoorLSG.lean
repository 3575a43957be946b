/-
  Part.
-/
import Derived.Test.YthcncjimjclfpaaGreatDoorLSB
import Derived.Deep.RegionHeld3
import Derived.Lib.JoinLaws
import Derived.Lib.AppendZerosOnto
import Derived.Lib.Overlaps
set_option maxRecDepth 20000
set_option maxHeartbeats 8000000
namespace Go.Proofs.YthcncjimjclfpaaGreatDoor
open Go.RowKit Go.Proofs.Tryz
open _root_.Nat renaming le_refl->A8,lt_of_lt_of_le->AX,zero_le->AY,zero_add->BI,le_trans->BM,add_sub_cancel_left->FB
open Go.RowKit.Below renaming refl->AA
open _root_.Array renaming getElem?_eq_some_iff->AB
open _root_.List renaming getElem?_eq_getElem->AL,length_append->AO,getElem?_eq_some_iff->AU,mem_of_getElem?->AZ,getElem?_append_right->BA,length_cons->BG,getElem?_append_left->BK,take_of_length_le->BL,append_assoc->BQ,eq_nil_of_length_eq_zero->BR,append_nil->DL,length_nil->ES
open _root_.ByteArray renaming mk->AQ
open Go.Builtin renaming zeroCells->BH,copy_->DW
open Go.Addr renaming add_lit->BJ
open _root_.Option.some renaming inj->BN
open Go.Lib renaming run_eql_slice_nil->EN,compareBytes->EO
open Go.Value renaming slice->FQ
open Go.Obj renaming cells->FT
open Go renaming World->FU,Value->FV,Calls->FW
open _root_.Option renaming none->FX,some->FZ
variable{w W V w':FU}{f:DF}{v:FV}{g cap:Nat}{fs:List DF}
theorem LM{o:Obj}{w1:FU}(h:Below (w.alloc o).heap.size (w.alloc o) w1):B0 w w1:=
 ((AA _ _).alloc (A8 _) _).trans (h.mono (by simp))
theorem bC(f:DF)(w:FU)(h:f.s.length+f.t.length<=9223372036854775807):
  FW prog 80 #[BI7 f] w (R0 w (I0 ((f.s.length+f.t.length:Nat):Int))):=by
 unfold BI7;go_enter func80,ntmps80
 go_wp2
 go_ret;exact⟨rfl,(AA _ _).alloc (A8 _) _⟩
theorem AB8(f:DF)(name:List UInt8)(w:FU):
  FW prog 114 #[BI7 f,S0 name] w (R0 w (I0 (EO f.n name))):=by
 unfold BI7;go_enter func114,ntmps114;go_wp2_with fail;refine(strings_Compare _ _ _).mono ?_;rintro e w1 ⟨rfl,rfl⟩;go_wp2_with fail;go_ret;exact⟨rfl,(AA _ _).alloc (A8 _) _⟩
def bD(R:List DF)(name:List UInt8):Bool:=match R with
 |[]=>false
 |f::_=>decide (f.n=name)
theorem AZ2(A R:List DF)(name:List UInt8)(lo:∀a∈A,bl a.n name=true)(hi:∀a∈R,bl a.n name=false)(i:Nat)(h:i<A.length+R.length):∃y,(A++R)[i]?=FZ y/\bl y.n name=decide (i<A.length):=by
 by_cases h1:i<A.length
 .refine⟨A[i],by rw[BK h1,AL h1],?_⟩;rw[lo _ (List.getElem_mem h1)];simp[h1]
 .have h2:i-A.length<R.length:=by omega
  refine⟨R[i-A.length],by rw[BA (by omega),AL h2],?_⟩;rw[hi _ (List.getElem_mem h2)];simp[h1]
theorem C35(b off cap:Nat)(A R:List DF)(name:List UInt8)(w:FU)(hcap:A.length+R.length<=16)(hb:b<w.heap.size)(h:IE w b off (H7 (A++R)))
  (lo:∀a∈A,bl a.n name=true) (hi:∀a∈R,bl a.n name=false):
  FW prog 113 #[FQ (FZ ⟨b,off,FX⟩) (A.length+R.length) cap,S0 name,.func (.func 114) #[] #[]] w fun e w'=>
   e=.returned (.tuple #[I0 A.length,.bool (bD R name)])/\B0 w w':=by
 have H:=G6 h;have SG:=G6 (AZ2 A R name lo hi);obtain⟨fin,hfin⟩:∃x,bD R name=x:=⟨_,rfl⟩;have HF:=G6 hfin;rw[hfin];clear h hfin lo hi;go_enter func113,ntmps113;go_wp2_with fail
 go_loopg [9,10] (A.length+R.length) (fun kx s9 s10 wr=>∃lo hi:Nat,s9=I0 lo/\s10=I0 hi/\lo<=A.length/\A.length<=hi/\hi<=A.length+R.length/\hi-lo<=kx/\Hid (B0 w wr))
 case atStart=>exact⟨0,A.length+R.length,rfl,rfl,AY _,by omega,A8 _,by omega,G6 (AA _ _)⟩
 case round=>
  obtain⟨lo,hi,rfl,rfl,h1,h2,h3,hg,hB⟩:=hrel;by_cases hlt:lo<hi
  .obtain⟨y,hy,hyn⟩:=G5 SG ((lo+hi)/2) (by omega);have HY:=G6 hyn;have r:=(G5 H).kept (G5 hB) hb;have e0:=r.c0 hy;have e1:=r.c1 hy;have e2:=r.c2 hy;clear hyn hy r;have hc:=A90 y.n name;rw[G5 HY]at hc;have CM:=fun W=>AB8 y name W;generalize EO y.n name=cv at hc CM;by_cases hm:(lo+hi)/2<A.length
   .have hn:cv<0:=by simpa [hm]using hc
    clear hc;go_wp2_with fail;refine(CM _).mono ?_;rintro e w1 ⟨rfl,hb1⟩;have hB2:B0 w w1:=(G5 hB).trans (hb1.mono (G5 hB).size);clear CM;go_wp2_with fail
    go_roundg (hi-((lo+hi)/2+1))
    case measure=>omega
    case rel=>exact⟨(lo+hi)/2+1,hi,by rw[show ((lo:Int)+(hi:Int))/2+1=(((lo+hi)/2+1:Nat):Int) by omega],rfl,by omega,h2,h3,A8 _,G6 hB2⟩
   .have hn:¬cv<0:=by simpa [hm]using hc
    clear hc;go_wp2_with fail;refine(CM _).mono ?_;rintro e w1 ⟨rfl,hb1⟩;have hB2:B0 w w1:=(G5 hB).trans (hb1.mono (G5 hB).size);clear CM;go_wp2_with fail
    go_roundg ((lo+hi)/2-lo)
    case measure=>omega
    case rel=>exact⟨lo,(lo+hi)/2,rfl,by rw[show ((lo:Int)+(hi:Int))/2=(((lo+hi)/2:Nat):Int) by omega],h1,by omega,by omega,A8 _,G6 hB2⟩
  .obtain rfl:lo=A.length:=by omega
   obtain rfl:hi=A.length:=by omega
   cases R with
   |nil=>
    go_wp2_with fail
    go_ret2
    exact⟨by rw[<-G5 HF];rfl,G5 hB⟩
   |cons f R=>
    have r:=(G5 H).kept (G5 hB) hb;have hy:(A++f::R)[A.length]?=FZ f:=by simp
    have e0:=r.c0 hy;have e1:=r.c1 hy;have e2:=r.c2 hy;clear hy r;have hc:=iD f.n name;have CM:=fun W=>AB8 f name W;have hf:fin=decide (f.n=name):=(G5 HF).symm;rw[<-hc]at hf;clear hc HF;generalize EO f.n name=cv at hf CM;subst hf;simp only[BG];go_wp2_with fail;refine(CM _).mono ?_;rintro e w1 ⟨rfl,hb1⟩;have hB2:B0 w w1:=(G5 hB).trans (hb1.mono (G5 hB).size);clear CM;go_wp2_with fail
    go_ret2
    exact⟨by rfl,hB2⟩
theorem BJ0(a:Option Addr)(cap:Nat)(name:List UInt8)(w:FU):
  FW prog 113 #[FQ a 0 cap,S0 name,.func (.func 114) #[] #[]] w fun e w'=>
   e=.returned (.tuple #[I0 0,.bool false])/\B0 w w':=by
 go_enter func113,ntmps113;go_wp2_with fail
 go_loopg [9,10] 1 (fun _ s9 s10 wr=>s9=I0 0/\s10=I0 0/\Hid (B0 w wr))
 case atStart=>exact⟨rfl,rfl,G6 (AA _ _)⟩
 case round=>
  obtain⟨rfl,rfl,hB⟩:=hrel;go_wp2_with fail
  go_ret2
  exact⟨rfl,G5 hB⟩
theorem oH(v:FV)(fs A R:List DF)(name:List UInt8)(w:FU)(hv:IQ w v fs)(hl:fs.length<=16)(he:fs=A++R)(lo:∀a∈A,bl a.n name=true)(hi:∀a∈R,bl a.n name=false):
  FW prog 79 #[.agg #[v],S0 name] w (R0 w (.tuple #[I0 A.length,.bool (bD R name)])):=by
 have C:∀W:FU,B0 w W->FW prog 113 #[v,S0 name,.func (.func 114) #[] #[]] W fun e w'=>
   e=.returned (.tuple #[I0 A.length,.bool (bD R name)])/\B0 W w':=fun W hW=>by
  rcases hv with⟨a,cap,rfl,h0,_⟩|⟨b,off,cap,rfl,_,_,hb,_,hr⟩
  .rw[h0]at he;obtain⟨rfl,rfl⟩:A=[]/\R=[]:=by
    have:=congrArg List.length he;simp at this;exact⟨BR (by omega),BR (by omega)⟩
   exact BJ0 a cap name W
  .subst he;rw[AO];exact C35 b off cap A R name W (by simpa using hl) (AX hb hW.size) (hr.kept hW hb) lo hi
 have C':=G6 C;have V:∃a n c,v=FQ a n c:=by
  rcases hv with⟨a,cap,rfl,_,_⟩|⟨b,off,cap,rfl,_⟩
  .exact⟨_,_,_,rfl⟩
  .exact⟨_,_,_,rfl⟩
 obtain⟨a,n,c,rfl⟩:=V;clear C hv hl he lo hi;generalize bD R name=hd at C'⊢;go_enter func79,ntmps79;go_wp2_with fail;refine(G5 C' _ ((AA _ _).alloc (A8 _) _)).mono ?_;rintro e w1 ⟨rfl,hb1⟩;have hbz:=LM hb1;go_wp2_with fail
 go_ret2
 exact⟨rfl,hbz⟩
theorem oI(v:FV)(fs A B:List DF)(f:DF)(name:List UInt8)(w:FU)(hv:IQ w v fs)(hl:fs.length<=16)(T:There fs A f B name):
  FW prog 79 #[.agg #[v],S0 name] w (R0 w (.tuple #[I0 A.length,.bool true])):=by
 have:=oH v fs A (f::B) name w hv hl T.eq T.lo (fun a ha=>by
  rcases List.mem_cons.1 ha with rfl|h
  .rw[T.nm];exact O9 _
  .exact OD (T.hi a h))
 rwa[show bD (f::B) name=true from by simp[bD,T.nm]]at this
theorem AB9(v:FV)(fs A B:List DF)(name:List UInt8)(w:FU)(hv:IQ w v fs)(hl:fs.length<=16)(G:Gap fs A B name):
  FW prog 79 #[.agg #[v],S0 name] w (R0 w (.tuple #[I0 A.length,.bool false])):=by
 have:=oH v fs A B name w hv hl G.eq G.lo (fun a ha=>OD (G.hi a ha));rwa[show bD B name=false from by
  cases B with
  |nil=>rfl
  |cons f B=>have:=WS (G.hi f (by simp));simp[bD,this.symm]]at this
theorem wB(h1:IZ f.n=false):QO f=false:=by simp[QO,h1]
theorem A13(h:1048576<f.s.length+f.t.length):QO f=false:=by simp[QO];intro _;omega
theorem AK9(h1:IZ f.n=true)(h:f.s.length+f.t.length<=1048576):QO f=true:=by simp[QO,h1,h]
theorem CI7{w1:FU}(hb:B0 W w1):(∀b o,b<W.heap.size->w1.cell? ⟨b,o,FX⟩=W.cell? ⟨b,o,FX⟩)/\(∀b o,b<W.heap.size->w1.frozen? ⟨b,o,FX⟩=W.frozen? ⟨b,o,FX⟩):=
 ⟨fun b o h=>hb.cell (p:=⟨b,o,FX⟩) h,fun b o h=>hb.frozen (p:=⟨b,o,FX⟩) h⟩
def nJ(fs:List DF):Prop:=∀f∈fs,f.n.length<=140737488355328/\f.s.length<=140737488355328/\f.t.length<=140737488355328
theorem AC0(n:List UInt8)(h:n.length<=140737488355328)(w:FU):
  FW prog 78 #[S0 n] w fun e w'=>e=.returned (.bool (IZ n))/\w'=w:=
 U6 ⟨n.toArray⟩ w (by have:(AQ n.toArray).size=n.length:=rfl;unfold maxLen;omega)
theorem AL0(a:Option Addr)(cap:Nat)(w:FU):
  FW prog 77 #[.agg #[FQ a 0 cap]] w (R0 w (.bool true)):=by
 go_enter func77,ntmps77;go_wp2_with fail
 go_loopg [12] 1 (fun _ s12 wr=>s12=I0 0/\Hid (B0 w wr))
 case atStart=>exact⟨rfl,G6 ((AA _ _).alloc (A8 _) _)⟩
 case round=>
  obtain⟨rfl,hB⟩:=hrel;go_wp2_with fail;go_ret;exact⟨rfl,G5 hB⟩
theorem AL1(b off cap n:Nat)(hn:16<n)(w:FU):
  FW prog 77 #[.agg #[FQ (FZ ⟨b,off,FX⟩) n cap]] w (R0 w (.bool false)):=by
 go_enter func77,ntmps77;go_wp2_with fail;go_ret;exact⟨rfl,(AA _ _).alloc (A8 _) _⟩
theorem AL2(b off cap:Nat)(fs:List DF)(w:FU)(hs:nJ fs)(hl:fs.length<=16)(hb:b<w.heap.size)(h:IE w b off (H7 fs)):
  FW prog 77 #[.agg #[FQ (FZ ⟨b,off,FX⟩) fs.length cap]] w (R0 w (.bool (VB fs))):=by
 have H:=G6 h;have HS:=G6 hs;have NO:=G6 (fun(k:Nat) (f:DF)=> @BG8 fs k f);have NR:=G6 (fun(k:Nat) (f g:DF)=> @AV0 fs k f g);have YES:=G6 (uX hl);have Z:=G6 (AU8 fs);have SU:=G6 (fun(k:Nat) (f:DF) (h:C20 fs k)=>AU9 (f:=f) h);have hb0:b≠w.heap.size:=by omega
 clear h hs;generalize VB fs=G at NO NR YES⊢;go_enter func77,ntmps77;go_wp2_with fail
 go_loopg [12] fs.length (fun kx s12 wr=>∃k:Nat,s12=I0 k/\k<=fs.length/\fs.length-k<=kx/\Hid (B0 w wr/\w.heap.size<wr.heap.size/\wr.cell? ⟨w.heap.size,0,FX⟩=FZ (FQ (FZ ⟨b,off,FX⟩) fs.length cap))/\Hid (C20 fs k))
 case atStart=>exact⟨0,rfl,AY _,by omega,G6 ⟨(AA _ _).alloc (A8 _) _,by simp,by simp⟩,Z⟩
 case round=>
  obtain⟨k,rfl,hk,hg,hB,hO⟩:=hrel;by_cases hlt:k<fs.length
  .obtain⟨f,hf⟩:∃f,fs[k]?=FZ f:=⟨_,AL hlt⟩;have HF:=G6 hf;have r:=(G5 H).kept (G5 hB).1 hb;have e0:=r.c0 hf;have e1:=r.c1 hf;have e2:=r.c2 hf;have hsl:=G5 HS f (AZ hf);have hbw:b<wr.heap.size:=AX hb (G5 hB).1.size;have h00:=(G5 hB).2.2;clear hf r
   cases hn:IZ f.n with
   |false=>
    have HN:=G6 hn;have CN:=fun W=>AC0 f.n hsl.1 W;rw[hn]at CN;clear hn;go_wp2_with fail;refine(CN _).mono ?_;rintro e w1 ⟨rfl,rfl⟩;clear CN;go_wp2_with fail;go_ret;exact⟨RN (G5 NO k f (G5 HF) (wB (G5 HN))).symm,(G5 hB).1.alloc (by have:=(G5 hB).1.size;omega) _⟩
   |true=>
    have HN:=G6 hn;have CN:=fun W=>AC0 f.n hsl.1 W;rw[hn]at CN;clear hn;have HL:=G6 hsl;have hsum:f.s.length+f.t.length<=9223372036854775807:=by omega
    have CS:=fun W=>bC f W hsum;obtain⟨L,hL⟩:∃L,f.s.length+f.t.length=L:=⟨_,rfl⟩;rw[hL]at CS;have HL2:=G6 hL;have hLb:L<=9223372036854775807:=by omega
    clear hsl hsum hL;go_wp2_with fail;refine(CN _).mono ?_;rintro e w1 ⟨rfl,rfl⟩;clear CN;by_cases hbig:L<=1048576
    .have hok:=AK9 (G5 HN) (by rw[G5 HL2];exact hbig);go_wp2_with fail;refine(CS _).mono ?_;rintro e w2 ⟨rfl,hb2⟩;clear CS;obtain⟨hc,hf⟩:=CI7 hb2;have hB2:B0 w w2:=(G5 hB).1.trans (LM hb2|>.mono (G5 hB).1.size);have h01:w2.cell? ⟨w.heap.size,0,FX⟩=FZ (FQ (FZ ⟨b,off,FX⟩) fs.length cap):=by
      rw[hc _ _ (by have:=(G5 hB).2.1;simp;omega),((AA wr.heap.size wr).alloc (A8 _) _).cell (p:=⟨w.heap.size,0,FX⟩) (G5 hB).2.1];exact h00
     have hz:w2.cell? ⟨wr.heap.size,0,FX⟩=FZ (S0 f.n):=by
      rw[hc _ _ (by simp)];simp
     have hlt2:w.heap.size<w2.heap.size:=by have:=hb2.size;have:=(G5 hB).2.1;simp at*;omega
     clear hc hf hb2 h00 e0 e1 e2;rcases Nat.eq_zero_or_pos k with hk0|hk0
     .subst hk0;have OK2:=G6 (G5 SU 0 f (G5 hO) (G5 HF) hok (fun g h=>absurd h (Nat.lt_irrefl 0)));go_wp2_with fail;go_region;go_wp2_with fail
      go_roundg (fs.length-1)
      case measure=>omega
      case rel=>exact⟨1,rfl,by omega,A8 _,G6 ⟨hB2.drew,hlt2,h01⟩,OK2⟩
     .obtain⟨m,rfl⟩:∃m,k=m+1:=⟨k-1,by omega⟩;obtain⟨g,hg⟩:∃g,fs[m]?=FZ g:=⟨_,AL (by omega)⟩;have r:=(G5 H).kept hB2 hb;have e0:=r.c0 hg;have HG:=G6 hg;clear r hg;have hm1:(m:Int)<(fs.length:Int):=by omega
      cases hbl:bl g.n f.n with
      |true=>
       have OK2:=G6 (G5 SU (m+1) f (G5 hO) (G5 HF) hok (fun g' _ h=>by
        rw[Nat.add_sub_cancel,G5 HG]at h
        cases h
        exact hbl))
       have hbl':Op.bytesLess g.n f.n=true:=hbl;clear hbl;go_wp2_with fail;go_region;go_wp2_with fail
       go_roundg (fs.length-(m+1+1))
       case measure=>omega
       case rel=>exact⟨m+1+1,rfl,by omega,A8 _,G6 ⟨hB2.drew,hlt2,h01⟩,OK2⟩
      |false=>
       have hbl':Op.bytesLess g.n f.n=false:=hbl;have GF:=(G5 NR (m+1) f g (G5 HF) (by simpa using G5 HG) (by omega) hbl).symm;have HGF:=G6 GF;clear hbl GF;go_wp2_with fail;go_region;go_wp2_with fail;go_ret;exact⟨RN (G5 HGF),hB2.drew⟩
    .go_wp2_with fail;refine(CS _).mono ?_;rintro e w2 ⟨rfl,hb2⟩;have hB2:B0 w w2:=(G5 hB).1.trans (LM hb2|>.mono (G5 hB).1.size);clear CS hb2;go_wp2_with fail;go_ret;exact⟨RN (G5 NO k f (G5 HF) (A13 (by rw[G5 HL2];omega))).symm,hB2⟩
  .have hkk:k=fs.length:=by omega
   subst hkk;go_wp2_with fail;go_ret;exact⟨RN (G5 YES (G5 hO)).symm,(G5 hB).1⟩
theorem AZ3:VB []=true:=MW.2 ⟨by decide,by simp,List.Pairwise.nil⟩
theorem UF(v:FV)(fs:List DF)(w:FU)(hv:IQ w v fs)(hs:nJ fs):
  FW prog 77 #[.agg #[v]] w (R0 w (.bool (VB fs))):=by
 rcases hv with⟨a,cap,rfl,rfl,_⟩|⟨b,off,cap,rfl,_,_,hb,_,hr⟩
 .rw[AZ3];exact AL0 a cap w
 .by_cases hl:fs.length<=16
  .exact AL2 b off cap fs w hs hl hb hr
  .rw[C21 (by omega)];exact AL1 b off cap fs.length (by omega) w
theorem OU(s:List UInt8)(w:FU)(hs:s.length<=281474976710656):
  FW prog 40 #[S0 s] w (R0 w (S0 s)):=by
 have C:=fun W=>stringslite_Clone ⟨s.toArray⟩ W (show (AQ s.toArray).size<=_ from hs);go_enter func40,ntmps40;go_wp2_with fail;refine(C _).mono ?_;rintro e w1 ⟨rfl,hb1⟩;go_wp2_with fail;go_ret;exact⟨rfl,hb1⟩
theorem AL3:(prog.info? 90).map (fun i=>(i.zero,i.size,i.bytes))=FZ (FZ (.agg #[.string ⟨#[]⟩,.string ⟨#[]⟩,.string ⟨#[]⟩]),3,48):=by kernel_rfl
theorem UG:∃i0,prog.info? 90=FZ i0/\i0.zero=FZ (.agg #[.string ⟨#[]⟩,.string ⟨#[]⟩,.string ⟨#[]⟩])/\i0.size=3/\i0.bytes=48:=by
 obtain⟨i0,h,e⟩:=Option.map_eq_some_iff.1 AL3;simp only[Prod.mk.injEq]at e;exact⟨i0,h,e⟩
theorem kD(a:Addr)(cap:Nat)(fs:List DF)(w:FU)(hl:fs.length<=1000000)(hc:∀j u,(H7 fs)[j]?=FZ u->w.cell? (a.add j)=FZ u):
  FW prog 23 #[FQ (FZ a) fs.length cap] w fun e w'=>∃v',e=.returned v'/\YO w' w.heap.size v' fs/\B0 w w':=by
 have q22:∀ (w:FU) (a:Option Addr) (n c n' c':Nat),(binOp .eql 52 (FQ a n c) (FQ FX n' c')).run prog w=.ok (.bool a.isNone) w:=fun w a n c n' c'=>EN w _ _ a n c n' c' underlying52;have H:Hid (∀j u,(H7 fs)[j]?=FZ u->w.cell? (a.add j)=FZ u):=hc;clear hc;obtain⟨i0,hi0,hz0,hz1,hz2⟩:=UG;go_enter func23,ntmps23;go_wp2_with (at_builtin;refine wpList_append_own _ rfl _ _ 52 rfl w.heap.size 90 i0 _ 3 48 underlying52 hi0 hz0 hz1 hz2 rfl (by decide) _ _ _ rfl (World.ownsRow_made w #[] 0 (A8 _) (AY _) (by simp)) a fs.length cap (H7 fs) rfl ?qc1 ?qc2 ?qc3 ?qc4 ?qc5 ?qc6 ?_)
 case qc1=>exact GY fs
 case qc2=>
  intro j u hj;exact Lib.cell?_alloc_some _ (H.out j u hj)
 case qc3=>exact YN fs
 case qc4=>simp only[maxLen];omega
 case qc5=>omega
 case qc6=>simp
 intro v' w1 hown hgrow hnil
 go_wp2
 go_ret;refine⟨v',rfl,YO.LD (by simpa using hown),?_⟩;exact((AA _ w).alloc (A8 _) _).grown hgrow (by simp) (by intro k hk;simp[Value.ownBlock]at hk;omega)
theorem AL4(n c:Nat)(w:FU):
  FW prog 23 #[FQ FX n c] w fun e w'=>e=.returned (N0)/\w'=w:=by
 have q22:∀ (w:FU) (a:Option Addr) (n c n' c':Nat),(binOp .eql 52 (FQ a n c) (FQ FX n' c')).run prog w=.ok (.bool a.isNone) w:=fun w a n c n' c'=>EN w _ _ a n c n' c' underlying52;go_enter func23,ntmps23
 go_wp2
 go_ret;exact⟨rfl,rfl⟩
theorem AL5(v:FV)(fs:List DF)(w:FU)(hv:IQ w v fs)(hl:fs.length<=1000000):
  FW prog 23 #[v] w fun e w'=>∃v',e=.returned v'/\YO w' w.heap.size v' fs/\B0 w w':=by
 rcases hv with⟨a,cap,rfl,rfl,_⟩|⟨b,off,cap,rfl,_,_,hb,_,hr⟩
 .cases a with
  |none=>exact(AL4 0 cap w).mono fun e w' ⟨he,hw⟩=>⟨_,he,.inl ⟨rfl,rfl⟩,by rw[hw];exact AA _ _⟩
  |some a=>exact kD a cap [] w (by simp) (fun j u h=>by simp[H7]at h)
 .exact kD ⟨b,off,FX⟩ cap fs w hl (fun j u h=>by rw[BJ];exact hr j u h)
theorem rD{a:Addr}(h:w.cell? a=FZ v):w.setCell a v=w:=by
 obtain⟨heap,tape,drawn,os,output⟩:=w;simp only[World.setCell,World.cell?]at*
 congr 1
 apply Array.ext_getElem?
 intro k;rw[Array.getElem?_modify];by_cases hk:a.block=k
 .subst hk;simp only[if_true]
  cases ho:heap[a.block]? with
  |none=>rfl
  |some o=>
   rw[ho]at h
   cases o with
   |cells c e fz=>
    simp only at h;by_cases hs:a.spot.isSome=true
    .simp[hs]at h
    .simp only[hs]at h;simp[hs];have hlt:a.off<c.size:=(AB.1 (by simpa using h)).1;have hv:c[a.off]=v:=(AB.1 (by simpa using h)).2;rw[<-hv];simp[Array.setIfInBounds,hlt]
   |_=>simp at h
 .simp[hk]
theorem QD(h:B0 w W)(h':B0 W V):B0 w V:=h.trans (h'.mono h.size)
theorem SH(v:FV)(fs:List DF)(w:FU)(hv:IQ w v fs)(hs:nJ fs)(hl:fs.length<=16):
  FW prog 81 #[.agg #[v]] w fun e w'=>∃v',e=.returned (.agg #[v'])/\YO w' w.heap.size v' fs/\B0 w w':=by
 have V:∃a n c,v=FQ a n c:=by
  rcases hv with⟨a,cap,rfl,_,_⟩|⟨b,off,cap,rfl,_⟩
  .exact⟨_,_,_,rfl⟩
  .exact⟨_,_,_,rfl⟩
 have HV:=G6 hv;have HS:=G6 hs;obtain⟨a,n,c,rfl⟩:=V;clear hv hs;go_enter func81,ntmps81;go_wp2_with fail;refine(AL5 _ fs _ ((G5 HV).next (((AA _ _).alloc (A8 _) _).alloc (by simp) _)) (by omega)).mono ?_;rintro e w1 ⟨v',rfl,ho,hb1⟩;have hB1:B0 w w1:=LM (LM hb1);have c1:w1.cell? ⟨w.heap.size+1,0,FX⟩=FZ (N0):=by
  rw[hb1.cell (p:=⟨w.heap.size+1,0,FX⟩) (by simp)];simp
 have f1:w1.frozen? ⟨w.heap.size+1,0,FX⟩=false:=by
  rw[hb1.frozen (p:=⟨w.heap.size+1,0,FX⟩) (by simp)];simp
 have hz:w.heap.size+1<w1.heap.size:=by have:=hb1.size;simp at this;omega
 have hs2:((w.alloc (Obj.cells #[Value.slice a n c] 54)).alloc (Obj.cells #[N0] 54)).heap.size=w.heap.size+2:=by simp
 rw[hs2]at ho;clear hb1 hs2;rcases ho with⟨rfl,rfl⟩|⟨g,cap,rfl,hg,ho⟩
 .go_wp2_with fail
  go_loopg [11] 1 (fun _ s wr=>s=I0 0/\wr=w1)
  case atStart=>exact⟨rfl,rfl⟩
  case round=>
   obtain⟨rfl,rfl⟩:=hrel;go_wp2_with fail;exact bodyPost_ret (v:=.agg #[N0]) (by simp[results,results81,go_sem,c1]) rfl ⟨_,rfl,.inl ⟨rfl,rfl⟩,hB1.setCell (by simp) _⟩
 .have HO:=G6 ho;have hgl:=ho.lt;clear ho;go_wp2_with fail
  go_loopg [11] fs.length (fun kx s wr=>∃k:Nat,s=I0 k/\k<=fs.length/\fs.length-k<=kx/\Hid (B0 w1 wr))
  case atStart=>exact⟨0,rfl,AY _,by omega,G6 (AA _ _)⟩
  case round=>
   obtain⟨k,rfl,hk,hkx,hB⟩:=hrel;by_cases hlt:k<fs.length
   .obtain⟨f,hf⟩:∃f,fs[k]?=FZ f:=⟨_,AL hlt⟩;have o:=(G5 HO).next (G5 hB);have QX:=o.lt;have e0:=o.c0 hf;have e1:=o.c1 hf;have e2:=o.c2 hf;have f0:=o.frozen (k*3);have f1:=o.frozen (k*3+1);have f2:=o.frozen (k*3+2);have hsl:=G5 HS f (AZ hf);clear hf o;obtain⟨fn,fss,ft⟩:=f;have k0:=fun W=>OU fn W (by have:=hsl.1;simp at this;omega);have k1:=fun W=>OU fss W (by have:=hsl.2.1;simp at this;omega);have k2:=fun W=>OU ft W (by have:=hsl.2.2;simp at this;omega);simp only at e0 e1 e2;clear hsl;go_wp2_with fail;have d0:∀d os,(Sort.grow (redrawn wr d) os).cell? ⟨g,k*3,FX⟩=FZ (S0 fn):=fun d os=>cell_regrown e0 d os;have d1:∀d os,(Sort.grow (redrawn wr d) os).cell? ⟨g,k*3+1,FX⟩=FZ (S0 fss):=fun d os=>cell_regrown e1 d os;have d2:∀d os,(Sort.grow (redrawn wr d) os).cell? ⟨g,k*3+2,FX⟩=FZ (S0 ft):=fun d os=>cell_regrown e2 d os;have g0:∀d os,(Sort.grow (redrawn wr d) os).frozen? ⟨g,k*3,FX⟩=false:=fun d os=>by rw[(below_regrown wr d os).frozen (p:=⟨g,k*3,FX⟩) QX];exact f0
    have g1:∀d os,(Sort.grow (redrawn wr d) os).frozen? ⟨g,k*3+1,FX⟩=false:=fun d os=>by rw[(below_regrown wr d os).frozen (p:=⟨g,k*3+1,FX⟩) QX];exact f1
    have g2:∀d os,(Sort.grow (redrawn wr d) os).frozen? ⟨g,k*3+2,FX⟩=false:=fun d os=>by rw[(below_regrown wr d os).frozen (p:=⟨g,k*3+2,FX⟩) QX];exact f2
    have s0:∀d os,(Sort.grow (redrawn wr d) os).setCell ⟨g,k*3,FX⟩ (S0 fn)=Sort.grow (redrawn wr d) os:=fun d os=>rD (d0 d os);have s1:∀d os,(Sort.grow (redrawn wr d) os).setCell ⟨g,k*3+1,FX⟩ (S0 fss)=Sort.grow (redrawn wr d) os:=fun d os=>rD (d1 d os);have s2:∀d os,(Sort.grow (redrawn wr d) os).setCell ⟨g,k*3+2,FX⟩ (S0 ft)=Sort.grow (redrawn wr d) os:=fun d os=>rD (d2 d os);have c0:=fun d os=>Calls.regrown_of (w:=wr) (d:=d) (os:=os) (k0 _);have c1':=fun d os=>Calls.regrown_of (w:=wr) (d:=d) (os:=os) (k1 _);have c2:=fun d os=>Calls.regrown_of (w:=wr) (d:=d) (os:=os) (k2 _);clear k0 k1 k2 e0 e1 e2 f0 f1 f2;refine wp_region_quiet_below (by kernel_rfl) (by kernel_rfl) ?_
    repeat (first|go_big_quiet_step (first|with_reducible exact c0 _ _|with_reducible exact c1' _ _|with_reducible exact c2 _ _)|quiet_step (first|with_reducible exact c0 _ _|with_reducible exact c1' _ _|with_reducible exact c2 _ _))
    refine wpQuiet_nil ?_;intro _ hw';obtain⟨⟨dq,osq⟩,hw''⟩:=hw';subst hw'';have hb2:=QD (G5 hB) (below_regrown wr dq osq);clear c0 c1' c2 s0 s1 s2 d0 d1 d2 g0 g1 g2;go_wp2_with fail
    go_roundg (fs.length-(k+1))
    case measure=>omega
    case rel=>exact⟨k+1,rfl,by omega,A8 _,G6 hb2⟩
   .have c2:wr.cell? ⟨w.heap.size+1,0,FX⟩=FZ (N0):=by
     rw[(G5 hB).cell (p:=⟨w.heap.size+1,0,FX⟩) hz];exact c1
    have f2:wr.frozen? ⟨w.heap.size+1,0,FX⟩=false:=by
     rw[(G5 hB).frozen (p:=⟨w.heap.size+1,0,FX⟩) hz];exact f1
    have hgw:g≠w.heap.size+1:=by omega
    go_wp2_with fail;exact bodyPost_ret (v:=.agg #[FQ (FZ ⟨g,0,FX⟩) fs.length cap]) (by simp[results,results81,go_sem,c2]) rfl
     ⟨_,rfl,.inr ⟨g,cap,rfl,by omega,((G5 HO).next (G5 hB)).other hgw _⟩,(QD hB1 (G5 hB)).setCell (by simp) _⟩
theorem XD{j:Nat}(v:FV):w.grownBy (w.setCell ⟨g,j,FX⟩ v) (FZ g):=⟨rfl,rfl,rfl,by simp[World.setCell],fun k _ hne=>Below.heap_setCell w ⟨g,j,FX⟩ v k (fun e=>hne (by rw[e]))⟩
theorem AL6{r:Option Nat}(h:w.grownBy w' r):w.grownBy w'.drew r:=⟨h.os,h.tape,h.output,h.size,h.block⟩
theorem SK{w'':FU}(h:w.grownBy w' (FZ g))(h':w'.grownBy w'' (FZ g)):w.grownBy w'' (FZ g):=
 ⟨h'.os.trans h.os,h'.tape.trans h.tape,h'.output.trans h.output,BM h.size h'.size,fun k hk hne=>(h'.block k (AX hk h.size) hne).trans (h.block k hk hne)⟩
theorem wC(h:B0 w w'):w.grownBy w' (FZ g):=⟨h.os,h.tape,h.output,h.size,fun k hk _=>h.block k hk⟩
theorem rE(l m:List UInt8):(AQ l.toArray)++(AQ m.toArray)=⟨(l++m).toArray⟩:=by
 have h:((AQ l.toArray)++(AQ m.toArray)).data.toList=l++m:=by simp[ByteArray.data_append]
 exact congrArg (fun l:List UInt8=>AQ l.toArray) h
theorem AZ4(l:List UInt8)(d:Nat):(AQ l.toArray).extract 0 d=⟨(l.take d).toArray⟩:=by
 apply ByteArray.ext
 apply Array.toList_inj.1
 have h:=Lib.extract_toList (AQ l.toArray) 0 d;rw[Lib.toList_data]at h;refine h.trans ?_;show (l.drop 0).take (d-0)=_;simp
theorem eG(g cap k:Nat)(fs:List DF)(f:DF)(n:Nat)(w:FU)(ho:Own w g cap fs)(hk:fs[k]?=FZ f)(hn:n<=f.s.length+f.t.length)(hf:f.s.length+f.t.length<=1048576):
  FW prog 86 #[.pointer (FZ ⟨g,k*3,FX⟩),I0 n] w fun e w'=>
   e=.returned (.tuple #[])/\Own w' g cap (fs.set k ⟨f.n,(f.s++f.t).take n,[]⟩)/\w.grownBy w' (FZ g):=by
 have e1:=ho.c1 hk;have e2:=ho.c2 hk;have f1:=ho.frozen (k*3+1);have f2:=ho.frozen (k*3+2);have HO:=G6 ho;have HK:=G6 hk;clear ho hk;obtain⟨fn,fss,ft⟩:=f;simp only at*;have hn1:(n:Int)<=(fss.length:Int)+(ft.length:Int):=by omega
 go_enter func86,ntmps86;go_wp2_with fail;go_region;go_wp2_with fail
 go_end0
 refine⟨rfl,?_,?_⟩
 .rw[rE,AZ4];have h1:=(G5 HO).s1 (G5 HK) ((fss++ft).take n);have h2:=h1.s2 (f:=⟨fn,(fss++ft).take n,ft⟩) (by rw[List.getElem?_set_self (AU.1 (G5 HK)).1]) [];rw[List.set_set]at h2;exact h2
 .exact AL6 (SK (XD _) (XD _))
theorem oJ(g cap k:Nat)(fs:List DF)(f:DF)(x:List UInt8)(w:FU)(ho:Own w g cap fs)(hk:fs[k]?=FZ f)(hx:x.length<=1048576)(hf:f.t.length<=1048576):
  FW prog 83 #[.pointer (FZ ⟨g,k*3,FX⟩),S0 x] w fun e w'=>
   e=.returned (.tuple #[])/\Own w' g cap (fs.set k ⟨f.n,f.s,f.t++x⟩)/\w.grownBy w' (FZ g):=by
 have e2:=ho.c2 hk;have f2:=ho.frozen (k*3+2);have HO:=G6 ho;have HK:=G6 hk;have hg:=ho.lt;clear ho hk;obtain⟨fn,fss,ft⟩:=f;simp only at*;have C:=fun W=>OU x W (by omega);have hlen:¬9223372036854775807<ft.length+x.length:=by omega
 go_enter func83,ntmps83;go_wp2_with fail
 go_region_with (first|(go_at_call 40;refine(C _).mono ?_;rintro e w1 ⟨rfl,hb1⟩;have e3:w1.cell? ⟨g,k*3+2,FX⟩=FZ (S0 ft):=(hb1.cell (p:=⟨g,k*3+2,FX⟩) hg).trans e2;have f3:w1.frozen? ⟨g,k*3+2,FX⟩=false:=(hb1.frozen (p:=⟨g,k*3+2,FX⟩) hg).trans f2))
 all_goals go_wp2_with fail
 all_goals
  have hb:B0 w w1:=((AA _ w).drew).trans hb1
  go_end0
  refine⟨rfl,?_,SK (wC hb) (XD _)⟩;rw[rE];exact((G5 HO).next hb).s2 (G5 HK) (ft++x)
theorem QI{t:TypeId}{fz:Nat×Nat}:∀ (vs:List FV) (o:Nat) (w:FU) (l:List FV),w.heap[g]?=FZ (FT l.toArray t fz)->o+vs.length<=l.length->
  (w.setCells g o vs).heap[g]?=FZ (FT (l.take o++vs++l.drop (o+vs.length)).toArray t fz)
 |[],o,w,l,h,_=>by simpa [World.setCells]using h
 |v::r,o,w,l,h,hl=>by
  have h1:(w.setCell ⟨g,o,FX⟩ v).heap[g]?=FZ (FT (l.set o v).toArray t fz):=by rw[GL v h];simp
  rw[World.setCells,QI r (o+1) _ _ h1 (by simp at hl⊢;omega)];have ho:o<l.length:=by simp at hl;omega
  have e1:(l.set o v).take (o+1)=l.take o++[v]:=by
   rw[List.take_set,List.take_succ_eq_append_getElem ho,List.set_append_right _ _ (by simp;omega)];simp[Nat.min_eq_left (Nat.le_of_lt ho)]
  have e2:(l.set o v).drop (o+1+r.length)=l.drop (o+(r.length+1)):=by
   rw[List.drop_set_of_lt (by omega)];congr 1;omega
  rw[e1,e2];simp
theorem LX:∀ (vs:List FV) (o:Nat) (w:FU),w.grownBy (w.setCells g o vs) (FZ g)
 |[],_,_=>⟨rfl,rfl,rfl,A8 _,fun _ _ _=>rfl⟩
 |v::r,o,_=>SK (XD v) (LX r (o+1) _)
theorem Own.splice{pre tl:List DF}(h:Own W g cap (pre++tl))(new:List DF)(hfit:pre.length+new.length<=cap):Own (W.setCells g (pre.length*3) (H7 new)) g cap (pre++new):=by
 obtain⟨rest,h1,h2,h3⟩:=h;have hlen:(H7 (pre++tl)++rest).length=cap*3:=by rw[AO,GY];exact h2
 refine⟨(H7 (pre++tl)++rest).drop (pre.length*3+(H7 new).length),?_,?_,h3⟩
 .rw[QI (H7 new) (pre.length*3) W _ h1 (by rw[hlen,GY];omega),JM pre new]
  congr 3
  have e:H7 (pre++tl)++rest=H7 pre++(H7 tl++rest):=by rw[JM,BQ]
  rw[e,<-GY pre,List.take_left]
 .rw[List.length_drop,hlen,GY,AO];omega
theorem Own.spare(h:Own W g cap fs)(vs:List FV)(o:Nat)(ho:fs.length*3<=o)(hfit:o+vs.length<=cap*3):Own (W.setCells g o vs) g cap fs:=by
 obtain⟨rest,h1,h2,h3⟩:=h;have hlen:(H7 fs++rest).length=cap*3:=by rw[AO,GY];exact h2
 have hc:=GY fs;refine⟨rest.take (o-fs.length*3)++vs++(H7 fs++rest).drop (o+vs.length),?_,?_,h3⟩
 .rw[QI vs o W _ h1 (by rw[hlen];omega)]
  congr 2
  rw[List.take_append,BL (by omega),hc];simp only[BQ]
 .simp only[AO,List.length_take,List.length_drop,hc];omega
theorem Own.vX{A B:List DF}{y:DF}(h:Own W g cap (A++y::B))(x:DF):Own (W.setCells g (A.length*3) (JB x)) g cap (A++x::B):=by
 obtain⟨rest,h1,h2,h3⟩:=h;have hlen:(H7 (A++y::B)++rest).length=cap*3:=by rw[AO,GY];exact h2
 refine⟨rest,?_,by simpa using h2,h3⟩;have hA:=GY A;rw[QI (JB x) (A.length*3) W _ h1 (by rw[hlen];simp[JB]at h2⊢;omega)];have e:H7 (A++y::B)++rest=H7 A++(JB y++(H7 B++rest)):=by simp[JM,H7]
 have e':H7 (A++x::B)++rest=H7 A++(JB x++(H7 B++rest)):=by simp[JM,H7]
 rw[e,e'];have hx3:(JB x).length=3:=rfl;have hy3:(JB y).length=3:=rfl
 congr 2
 rw[hx3,<-hA,List.take_left,show (H7 A).length+3=(H7 A++JB y).length by rw[AO,hy3],<-BQ (H7 A) (JB y),List.drop_left,BQ]
def AZ5(fs:List DF)(name:List UInt8)(E:Int):Prop:=(VB fs=false/\E=3)\/(LW fs/\(∃A B,Gap fs A B name)/\E=7)
theorem kE(fs:List DF)(name:List UInt8):(∃E,AZ5 fs name E)\/(LW fs/\∃A f B,There fs A f B name):=by
 cases hg:VB fs with
 |false=>exact .inl ⟨3,.inl ⟨hg,rfl⟩⟩
 |true=>
  have g:=MW.1 hg;rcases A91 name fs g.asc with h|h
  .exact .inr ⟨g,h⟩
  .exact .inl ⟨7,.inr ⟨g,h,rfl⟩⟩
theorem IW(hv:IQ w v fs):∃a n c,v=FQ a n c:=by
 rcases hv with⟨a,cap,rfl,_,_⟩|⟨b,off,cap,rfl,_⟩
 .exact⟨_,_,_,rfl⟩
 .exact⟨_,_,_,rfl⟩
theorem kF(v:FV)(fs:List DF)(name:List UInt8)(E:Int)(w:FU)(hv:IQ w v fs)(hs:nJ fs)(h:AZ5 fs name E):
  FW prog 76 #[.agg #[v],.string ⟨name.toArray⟩] w fun e w'=>e=.returned (.tuple #[.int .i64 0,.int .i64 E])/\Below w.heap.size w w':=by
 obtain⟨a,n,c,rfl⟩:=IW hv;have HV:=G6 hv;have CG:=fun W (h:Below w.heap.size w W)=>UF _ fs W (hv.next h) hs;rcases h with⟨hg,rfl⟩|⟨g,⟨A,B,G⟩,rfl⟩
 .rw[hg]at CG;clear hg hv hs;go_enter func76,ntmps76;go_wp2_with fail;refine(CG _ ((AA _ _).alloc (A8 _) _)).mono ?_;rintro e w1 ⟨rfl,hb1⟩;have hbz:=LM hb1;clear CG;go_wp2_with fail
  go_ret2
  exact⟨rfl,hbz⟩
 .rw[MW.2 g]at CG;have CF:=fun W (h:Below w.heap.size w W)=>AB9 _ fs A B name W (hv.next h) g.few G;clear hv hs g G;go_enter func76,ntmps76;go_wp2_with fail;refine(CG _ ((AA _ _).alloc (A8 _) _)).mono ?_;rintro e w1 ⟨rfl,hb1⟩;have hbz:=LM hb1;have c1:w1.cell? ⟨w.heap.size,0,FX⟩=FZ (FQ a n c):=by rw[hb1.cell (p:=⟨w.heap.size,0,FX⟩) (by simp)];simp
  clear CG hb1;go_wp2_with fail;refine(CF _ hbz).mono ?_;rintro e w2 ⟨rfl,hb2⟩;have hbx:=QD hbz hb2;clear CF;go_wp2_with fail
  go_ret2
  exact⟨rfl,hbx⟩
theorem TM(v:FV)(fs A B:List DF)(f:DF)(name:List UInt8)(w:FU)(hv:IQ w v fs)(hs:nJ fs)(g:LW fs)(T:There fs A f B name):
  FW prog 76 #[.agg #[v],.string ⟨name.toArray⟩] w fun e w'=>e=.returned (.tuple #[.int .i64 A.length,.int .i64 0])/\Below w.heap.size w w':=by
 obtain⟨a,n,c,rfl⟩:=IW hv;have CG:=fun W (h:Below w.heap.size w W)=>UF _ fs W (hv.next h) hs;rw[MW.2 g]at CG;have CF:=fun W (h:Below w.heap.size w W)=>oI _ fs A B f name W (hv.next h) g.few T;clear hv hs g T;go_enter func76,ntmps76;go_wp2_with fail;refine(CG _ ((AA _ _).alloc (A8 _) _)).mono ?_;rintro e w1 ⟨rfl,hb1⟩;have hbz:=LM hb1;have c1:w1.cell? ⟨w.heap.size,0,FX⟩=FZ (FQ a n c):=by rw[hb1.cell (p:=⟨w.heap.size,0,FX⟩) (by simp)];simp
 clear CG hb1;go_wp2_with fail;refine(CF _ hbz).mono ?_;rintro e w2 ⟨rfl,hb2⟩;have hbx:=QD hbz hb2;clear CF;go_wp2_with fail
 go_ret2
 exact⟨rfl,hbx⟩
theorem XE{A B:List DF}{name:List UInt8}(hv:IQ w v fs)(T:There fs A f B name):
  ∃b off cap,v=FQ (FZ ⟨b,off,FX⟩) fs.length cap/\b<w.heap.size/\IE w b off (H7 fs)/\fs[A.length]?=FZ f/\A.length<fs.length:=by
 have hk:fs[A.length]?=FZ f:=by rw[T.eq];simp
 rcases hv with⟨a,cap,rfl,rfl,_⟩|⟨b,off,cap,rfl,_,_,hb,_,hr⟩
 .simp at hk
 .exact⟨b,off,cap,rfl,hb,hr,hk,(AU.1 hk).1⟩
theorem A14(v:FV)(fs:List DF)(name:List UInt8)(E:Int)(w:FU)(hv:IQ w v fs)(hs:nJ fs)(h:AZ5 fs name E):
  FW prog 54 #[.agg #[v],.string ⟨name.toArray⟩] w fun e w'=>e=.returned (.tuple #[.string ⟨#[]⟩,.int .i64 E])/\Below w.heap.size w w':=by
 obtain⟨a,n,c,rfl⟩:=IW hv;have C:=fun W (hW:Below w.heap.size w W)=>kF _ fs name E W (hv.next hW) hs h;have hne:(E !=0)=true:=by rcases h with⟨_,rfl⟩|⟨_,_,rfl⟩<;>decide
 clear hv hs h;go_enter func54,ntmps54;go_wp2_with fail;refine(C _ ((AA _ _).alloc (A8 _) _)).mono ?_;rintro e w1 ⟨rfl,hb1⟩;have hbz:=LM hb1;clear C;go_wp2_with fail
 go_ret2
 exact⟨rfl,hbz⟩
theorem oK(v:FV)(fs A B:List DF)(f:DF)(name:List UInt8)(w:FU)(hv:IQ w v fs)(hs:nJ fs)(g:LW fs)(T:There fs A f B name):
  FW prog 54 #[.agg #[v],.string ⟨name.toArray⟩] w fun e w'=>e=.returned (.tuple #[.string ⟨(f.s++f.t).toArray⟩,.int .i64 0])/\Below w.heap.size w w':=by
 have C:=fun W (hW:Below w.heap.size w W)=>TM _ fs A B f name W (hv.next hW) hs g T;obtain⟨b,off,cap,rfl,hb,hr,hk,hlt⟩:=XE hv T;have hfl:=NQ (T.ok g);have HR:=G6 hr;have HK:=G6 hk;have hb0:b≠w.heap.size:=by omega
 have CF8:(A.length:Int)<(fs.length:Int):=by omega
 clear hv hs g T hr hk;go_enter func54,ntmps54;go_wp2_with fail;refine(C _ ((AA _ _).alloc (A8 _) _)).mono ?_;rintro e w1 ⟨rfl,hb1⟩;have hbz:=LM hb1;have c1:w1.cell? ⟨w.heap.size,0,FX⟩=FZ (FQ (FZ ⟨b,off,FX⟩) fs.length cap):=by rw[hb1.cell (p:=⟨w.heap.size,0,FX⟩) (by simp)];simp
 have r:=(G5 HR).kept hbz hb;have e0:=r.c0 (G5 HK);have e1:=r.c1 (G5 HK);have e2:=r.c2 (G5 HK);obtain⟨fn,fss,ft⟩:=f;simp only at*;have k1:=fun W=>OU fss W (by omega);have k2:=fun W=>OU ft W (by omega);have hlen:¬9223372036854775807<fss.length+ft.length:=by omega
 clear C hb1 r;go_wp2_with fail;have a1:(w1.alloc (Obj.cells #[Value.string ⟨fn.toArray⟩,Value.string ⟨fss.toArray⟩,Value.string ⟨ft.toArray⟩] 90)).cell? ⟨w1.heap.size,1,FX⟩=FZ (.string ⟨fss.toArray⟩):=by simp
 have a2:(w1.alloc (Obj.cells #[Value.string ⟨fn.toArray⟩,Value.string ⟨fss.toArray⟩,Value.string ⟨ft.toArray⟩] 90)).cell? ⟨w1.heap.size,2,FX⟩=FZ (.string ⟨ft.toArray⟩):=by simp
 have hbw:=hbz.alloc hbz.size (Obj.cells #[Value.string ⟨fn.toArray⟩,Value.string ⟨fss.toArray⟩,Value.string ⟨ft.toArray⟩] 90);generalize w1.alloc (Obj.cells #[Value.string ⟨fn.toArray⟩,Value.string ⟨fss.toArray⟩,Value.string ⟨ft.toArray⟩] 90)=W at a1 a2 hbw⊢;have d1:∀d os,(Sort.grow (redrawn W d) os).cell? ⟨w1.heap.size,1,FX⟩=FZ (.string ⟨fss.toArray⟩):=fun d os=>cell_regrown a1 d os;have d2:∀d os,(Sort.grow (redrawn W d) os).cell? ⟨w1.heap.size,2,FX⟩=FZ (.string ⟨ft.toArray⟩):=fun d os=>cell_regrown a2 d os;have c1':=fun d os=>Calls.regrown_of (w:=W) (d:=d) (os:=os) (k1 _);have c2:=fun d os=>Calls.regrown_of (w:=W) (d:=d) (os:=os) (k2 _);clear k1 k2 a1 a2 e0 e1 e2 c1;refine wp_region_quiet_below (by kernel_rfl) (by kernel_rfl) ?_
 repeat (first|go_big_quiet_step (first|with_reducible exact c1' _ _|with_reducible exact c2 _ _)|quiet_step (first|with_reducible exact c1' _ _|with_reducible exact c2 _ _))
 refine wpQuiet_nil ?_;intro _ hw';obtain⟨⟨dq,osq⟩,hw''⟩:=hw';subst hw'';have hb2:=QD hbw (below_regrown W dq osq);clear c1' c2 d1 d2;go_wp2_with fail
 go_ret2
 exact⟨by rw[<-rE];rfl,hb2⟩
structure PW(w W:FU)(v:FV):Prop where
 below:B0 w W
 size:w.heap.size+2<=W.heap.size
 cd:W.cell? ⟨w.heap.size,0,FX⟩=FZ v
 cr:W.cell? ⟨w.heap.size+1,0,FX⟩=FZ (N0)
 fr:W.frozen? ⟨w.heap.size+1,0,FX⟩=false
theorem PW.next(h:PW w W v)(hb:B0 W V):PW w V v:=
 ⟨QD h.below hb,BM h.size hb.size,by rw[hb.cell (p:=⟨w.heap.size,0,FX⟩) (by have:=h.size;show w.heap.size<_;omega)];exact h.cd,
  by rw[hb.cell (p:=⟨w.heap.size+1,0,FX⟩) (by have:=h.size;show w.heap.size+1<_;omega)];exact h.cr,by rw[hb.frozen (p:=⟨w.heap.size+1,0,FX⟩) (by have:=h.size;show w.heap.size+1<_;omega)];exact h.fr⟩
theorem PW.grown(h:PW w W v)(hg:W.grownBy V (FZ g))(hl:w.heap.size+2<=g):PW w V v:=by
 have hs:=h.size;have b0:V.heap[w.heap.size]?=W.heap[w.heap.size]? :=hg.block _ (by omega) (fun e=>by cases e;omega);have b1:V.heap[w.heap.size+1]?=W.heap[w.heap.size+1]? :=hg.block _ (by omega) (fun e=>by cases e;omega);exact⟨h.below.grown hg (by omega) (fun k e=>by cases e;omega),BM h.size hg.size,(World.cell?_of_block b0).trans h.cd,(World.cell?_of_block b1).trans h.cr,(World.frozen?_of_block b1).trans h.fr⟩
theorem PW.start(w:FU)(v:FV)(t t':TypeId):PW w ((w.alloc (FT #[v] t)).alloc (FT #[N0] t')) v:=
 ⟨((AA _ _).alloc (A8 _) _).alloc (by simp) _,by simp,by simp,by simp,by simp⟩
theorem PW.alloc(h:PW w W v)(o:Obj):PW w (W.alloc o) v:=h.next ((AA _ _).alloc (A8 _) o)
theorem UH(h:Below W.drew.heap.size W.drew V):B0 W V:=((AA _ W).drew).trans h
theorem CU3(v:FV)(fs:List DF)(name:List UInt8)(E:Int)(w:FU)(hv:IQ w v fs)(hs:nJ fs)(h:AZ5 fs name E):
  FW prog 146 #[.agg #[v],S0 name] w (R0 w (.tuple #[.agg #[N0],I0 E])):=by
 obtain⟨a,n0,c,rfl⟩:=IW hv;have C:=fun W (hW:B0 w W)=>kF _ fs name E W (hv.next hW) hs h;have hne:(E !=0)=true:=by rcases h with⟨_,rfl⟩|⟨_,_,rfl⟩<;>decide
 clear hv hs h;go_enter func146,ntmps146;go_wp2_with fail;refine(C _ (((AA _ _).alloc (A8 _) _).alloc (by simp) _)).mono ?_;rintro e w1 ⟨rfl,hb1⟩;have hbz:=LM (LM hb1);have c1:w1.cell? ⟨w.heap.size+1,0,FX⟩=FZ (N0):=by rw[hb1.cell (p:=⟨w.heap.size+1,0,FX⟩) (by simp)];simp
 have f1:w1.frozen? ⟨w.heap.size+1,0,FX⟩=false:=by rw[hb1.frozen (p:=⟨w.heap.size+1,0,FX⟩) (by simp)];simp
 clear C hb1;go_wp2_with fail;exact bodyPost_ret (v:=.tuple #[.agg #[N0],I0 E]) (by simp[results,results146,go_sem,c1]) rfl ⟨rfl,hbz.setCell (by simp) _⟩
theorem AZ6(v:FV)(fs:List DF)(name:List UInt8)(E:Int)(w:FU)(hv:IQ w v fs)(hs:nJ fs)(h:AZ5 fs name E):
  FW prog 145 #[.agg #[v],S0 name] w (R0 w (.tuple #[.agg #[N0],I0 E])):=by
 obtain⟨a,n0,c,rfl⟩:=IW hv;have C:=fun W (hW:B0 w W)=>kF _ fs name E W (hv.next hW) hs h;have hne:(E !=0)=true:=by rcases h with⟨_,rfl⟩|⟨_,_,rfl⟩<;>decide
 clear hv hs h;go_enter func145,ntmps145;go_wp2_with fail;refine(C _ (((AA _ _).alloc (A8 _) _).alloc (by simp) _)).mono ?_;rintro e w1 ⟨rfl,hb1⟩;have hbz:=LM (LM hb1);have c1:w1.cell? ⟨w.heap.size+1,0,FX⟩=FZ (N0):=by rw[hb1.cell (p:=⟨w.heap.size+1,0,FX⟩) (by simp)];simp
 have f1:w1.frozen? ⟨w.heap.size+1,0,FX⟩=false:=by rw[hb1.frozen (p:=⟨w.heap.size+1,0,FX⟩) (by simp)];simp
 clear C hb1;go_wp2_with fail;exact bodyPost_ret (v:=.tuple #[.agg #[N0],I0 E]) (by simp[results,results145,go_sem,c1]) rfl ⟨rfl,hbz.setCell (by simp) _⟩
theorem YP{B:Nat}(h:YO W B v fs){k:Nat}(hk:k<fs.length):∃g cap,v=FQ (FZ ⟨g,0,FX⟩) fs.length cap/\B<=g/\Own W g cap fs:=by
 rcases h with⟨rfl,rfl⟩|h
 .simp at hk
 .exact h
theorem YQ(v:FV)(fs A B:List DF)(f:DF)(name:List UInt8)(w:FU)(hv:IQ w v fs)(hs:nJ fs)(g:LW fs)(T:There fs A f B name):
  FW prog 146 #[.agg #[v],S0 name] w fun e w'=>∃v',e=.returned (.tuple #[.agg #[v'],I0 0])/\YO w' w.heap.size v' (A++⟨f.n,f.s++f.t,[]⟩::B)/\B0 w w':=by
 have C:=fun W (hW:B0 w W)=>TM _ fs A B f name W (hv.next hW) hs g T;have CC:=fun W (hW:B0 w W)=>SH _ fs W (hv.next hW) hs g.few;obtain⟨b,off,cap,rfl,hb,hr,hk,hlt⟩:=XE hv T;have hfl:=NQ (T.ok g);have HR:=G6 hr;have HK:=G6 hk;have HT:=G6 T.eq;have hb0:b≠w.heap.size:=by omega
 have CF8:(A.length:Int)<(fs.length:Int):=by omega
 have CS:=fun W=>bC f W (by omega);have CT:=fun(g c:Nat) (W:FU) (ho:Own W g c fs)=>eG g c A.length fs f (f.s.length+f.t.length) W ho hk (by omega) hfl;have hset:fs.set A.length ⟨f.n,(f.s++f.t).take (f.s.length+f.t.length),[]⟩=A++⟨f.n,f.s++f.t,[]⟩::B:=by rw[T.eq];simp[BL]
 have hsl:fs.length=(A++⟨f.n,f.s++f.t,[]⟩::B).length:=by rw[T.eq];simp
 rw[hset]at CT;obtain⟨fs',BY1⟩:∃x,A++⟨f.n,f.s++f.t,[]⟩::B=x:=⟨_,rfl⟩;rw[BY1]at CT hsl⊢;have HSL:=G6 hsl;obtain⟨L,hL⟩:∃L,f.s.length+f.t.length=L:=⟨_,rfl⟩;rw[hL]at CS hfl CT;clear hv hs g T hr hk hset BY1 hsl hL HT;go_enter func146,ntmps146;go_wp2_with fail;have X:=PW.start w (FQ (FZ ⟨b,off,FX⟩) fs.length cap) 54 54;generalize (w.alloc (FT #[FQ (FZ ⟨b,off,FX⟩) fs.length cap] 54)).alloc (FT #[N0] 54)=w0 at*;refine(C _ X.below).mono ?_;rintro e w1 ⟨rfl,hb1⟩;have X1:=X.next hb1;have HX:=G6 X1;have cd:=X1.cd;have r:=(G5 HR).kept X1.below hb;have e0:=r.c0 (G5 HK);have e1:=r.c1 (G5 HK);have e2:=r.c2 (G5 HK);clear C hb1 r X X1;go_wp2_with fail;refine(CC _ (G5 HX).below).mono ?_;rintro e w2 ⟨v',rfl,ho,hb2⟩;obtain⟨g,cap2,rfl,hg,ho⟩:=YP ho hlt;have hgl:=ho.lt;have hg2:w.heap.size+2<=g:=by have:=(G5 HX).size;omega
 have X2:=((G5 HX).next hb2).alloc (FT #[FQ (FZ ⟨g,0,FX⟩) fs.length cap2] 54);have ho2:=ho.alloc (FT #[FQ (FZ ⟨g,0,FX⟩) fs.length cap2] 54);have ca:(w2.alloc (FT #[FQ (FZ ⟨g,0,FX⟩) fs.length cap2] 54)).cell? ⟨w2.heap.size,0,FX⟩=FZ (FQ (FZ ⟨g,0,FX⟩) fs.length cap2):=by simp
 have haz:w2.heap.size<(w2.alloc (FT #[FQ (FZ ⟨g,0,FX⟩) fs.length cap2] 54)).heap.size:=by simp
 clear CC hb2 ho HX cd e0 e1 e2;go_wp2_with fail;generalize w2.alloc (FT #[FQ (FZ ⟨g,0,FX⟩) fs.length cap2] 54)=W at*;have HX:=G6 X2;have HO:=G6 ho2;have cd:=X2.cd;have r:=(G5 HR).kept X2.below hb;have e0:=r.c0 (G5 HK);have e1:=r.c1 (G5 HK);have e2:=r.c2 (G5 HK);clear r X2 ho2
 go_region_with (first
  |(go_at_call 80;refine(CS _).mono ?_;rintro e w3 ⟨rfl,hb3⟩;have ca3:w3.cell? ⟨w2.heap.size,0,FX⟩=FZ (FQ (FZ ⟨g,0,FX⟩) fs.length cap2):=(hb3.cell (p:=⟨w2.heap.size,0,FX⟩) haz).trans ca)
  |(go_at_call 86;refine(CT g cap2 w3 ((G5 HO).next (UH hb3))).mono ?_;rintro e w4 ⟨rfl,ho4,hg4⟩))
 all_goals
  have X4:=((G5 HX).next (UH hb3)).grown hg4 hg2;have ca4:w4.cell? ⟨w2.heap.size,0,FX⟩=FZ (FQ (FZ ⟨g,0,FX⟩) fs.length cap2):=hg4.cell ca3 (fun e=>by have e3:w2.heap.size=g:=BN e;omega);have cr:=X4.cr;have fr:=X4.fr;have HB:=G6 X4.below;have HO4:=G6 ho4;clear X4 ho4 hg4;clear CS CT;go_wp2_with fail;refine bodyPost_ret (v:=.tuple #[.agg #[FQ (FZ ⟨g,0,FX⟩) fs.length cap2],I0 0]) (by simp[results,results146,go_sem,cr]) rfl ⟨_,rfl,.inr ⟨g,cap2,by rw[G5 HSL],by omega,(G5 HO4).other (by show g≠w.heap.size+1;omega) _⟩,(G5 HB).setCell (by simp) _⟩
theorem wF(v:FV)(fs A B:List DF)(f:DF)(name:List UInt8)(n:Nat)(w:FU)(hv:IQ w v fs)(hs:nJ fs)(g:LW fs)(T:There fs A f B name)(hn:n<=f.s.length+f.t.length):
  FW prog 57 #[.agg #[v],S0 name,I0 n] w fun e w'=>∃v',e=.returned (.tuple #[.agg #[v'],I0 0])/\YO w' w.heap.size v' (A++⟨f.n,(f.s++f.t).take n,[]⟩::B)/\B0 w w':=by
 have C:=fun W (hW:B0 w W)=>TM _ fs A B f name W (hv.next hW) hs g T;have CC:=fun W (hW:B0 w W)=>SH _ fs W (hv.next hW) hs g.few;obtain⟨b,off,cap,rfl,hb,hr,hk,hlt⟩:=XE hv T;have hfl:=NQ (T.ok g);have HR:=G6 hr;have HK:=G6 hk;have HT:=G6 T.eq;have hb0:b≠w.heap.size:=by omega
 have CF8:(A.length:Int)<(fs.length:Int):=by omega
 have CS:=fun W=>bC f W (by omega);have CT:=fun(g c:Nat) (W:FU) (ho:Own W g c fs)=>eG g c A.length fs f n W ho hk (by omega) hfl;have hset:fs.set A.length ⟨f.n,(f.s++f.t).take n,[]⟩=A++⟨f.n,(f.s++f.t).take n,[]⟩::B:=by rw[T.eq];simp
 have hsl:fs.length=(A++⟨f.n,(f.s++f.t).take n,[]⟩::B).length:=by rw[T.eq];simp
 rw[hset]at CT;obtain⟨fs',BY1⟩:∃x,A++⟨f.n,(f.s++f.t).take n,[]⟩::B=x:=⟨_,rfl⟩;rw[BY1]at CT hsl⊢;have HSL:=G6 hsl;obtain⟨L,hL⟩:∃L,f.s.length+f.t.length=L:=⟨_,rfl⟩;rw[hL]at CS hfl hn;have hn0:¬ ((n:Int)<0):=by omega
 have hn1:¬ ((L:Int)<(n:Int)):=by omega
 clear hv hs g T hr hk hset BY1 hsl hL HT;go_enter func57,ntmps57;go_wp2_with fail;have X:=PW.start w (FQ (FZ ⟨b,off,FX⟩) fs.length cap) 54 54;generalize (w.alloc (FT #[FQ (FZ ⟨b,off,FX⟩) fs.length cap] 54)).alloc (FT #[N0] 54)=w0 at*;refine(C _ X.below).mono ?_;rintro e w1 ⟨rfl,hb1⟩;have X1:=X.next hb1;have HX:=G6 X1;have cd:=X1.cd;have r:=(G5 HR).kept X1.below hb;have e0:=r.c0 (G5 HK);have e1:=r.c1 (G5 HK);have e2:=r.c2 (G5 HK);clear C hb1 r X X1;go_wp2_with fail;refine(CS _).mono ?_;rintro e wx ⟨rfl,hbx⟩;have X1:=(G5 HX).next hbx;clear HX;have HX:=G6 X1;have cdx:=X1.cd;clear hbx X1;go_wp2_with fail;refine(CC _ (G5 HX).below).mono ?_;rintro e w2 ⟨v',rfl,ho,hb2⟩;obtain⟨g,cap2,rfl,hg,ho⟩:=YP ho hlt;have hgl:=ho.lt;have hg2:w.heap.size+2<=g:=by have:=(G5 HX).size;omega
 have X2:=((G5 HX).next hb2).alloc (FT #[FQ (FZ ⟨g,0,FX⟩) fs.length cap2] 54);have ho2:=ho.alloc (FT #[FQ (FZ ⟨g,0,FX⟩) fs.length cap2] 54);have ca:(w2.alloc (FT #[FQ (FZ ⟨g,0,FX⟩) fs.length cap2] 54)).cell? ⟨w2.heap.size,0,FX⟩=FZ (FQ (FZ ⟨g,0,FX⟩) fs.length cap2):=by simp
 have haz:w2.heap.size<(w2.alloc (FT #[FQ (FZ ⟨g,0,FX⟩) fs.length cap2] 54)).heap.size:=by simp
 clear CC hb2 ho HX cd e0 e1 e2 cdx;go_wp2_with fail;generalize w2.alloc (FT #[FQ (FZ ⟨g,0,FX⟩) fs.length cap2] 54)=W at*;have HX:=G6 X2;have HO:=G6 ho2;have cd:=X2.cd;have r:=(G5 HR).kept X2.below hb;have e0:=r.c0 (G5 HK);have e1:=r.c1 (G5 HK);have e2:=r.c2 (G5 HK);clear r X2 ho2;refine(CT g cap2 W (G5 HO)).mono ?_;rintro e w4 ⟨rfl,ho4,hg4⟩
 all_goals
  have X4:=(G5 HX).grown hg4 hg2;have ca4:w4.cell? ⟨w2.heap.size,0,FX⟩=FZ (FQ (FZ ⟨g,0,FX⟩) fs.length cap2):=hg4.cell ca (fun e=>by have e3:w2.heap.size=g:=BN e;omega);have cr:=X4.cr;have fr:=X4.fr;have HB:=G6 X4.below;have HO4:=G6 ho4;clear X4 ho4 hg4;clear CS CT;go_wp2_with fail;refine bodyPost_ret (v:=.tuple #[.agg #[FQ (FZ ⟨g,0,FX⟩) fs.length cap2],I0 0]) (by simp[results,results57,go_sem,cr]) rfl ⟨_,rfl,.inr ⟨g,cap2,by rw[G5 HSL],by omega,(G5 HO4).other (by show g≠w.heap.size+1;omega) _⟩,(G5 HB).setCell (by simp) _⟩
def kG:List FV:=[.string ⟨#[]⟩,.string ⟨#[]⟩,.string ⟨#[]⟩]
theorem AL7(w:FU)(ty:TypeId)(b o c:Nat)(hc:∀j,j<3->(w.cell? ⟨b,o+j,FX⟩).isSome=true)(hf:∀j,j<3->w.frozen? ⟨b,o+j,FX⟩=false):
  (Builtin.clear_ #[52] ty #[FQ (FZ ⟨b,o,FX⟩) 1 c]).run prog w=.ok (.tuple #[]) (w.setCells b o kG):=by
 have hzc:(BH (Value.agg #[.string ⟨#[]⟩,.string ⟨#[]⟩,.string ⟨#[]⟩]).cells 1).toList=kG:=by kernel_rfl
 have hst:=run_storeCells_cells (P:=prog) b o kG 0 w (by simpa [kG]using hc) (by simpa [kG]using hf) (by simp[kG,Value.oneCell']);simp only[Nat.add_zero]at hst;simp[Builtin.clear_,run_underlying underlying52,hzc,hst]
theorem Own.some(h:Own W g cap fs){j:Nat}(hj:j<cap*3):(W.cell? ⟨g,j,FX⟩).isSome=true:=by
 obtain⟨rest,h1,h2,_⟩:=h;have hl:j<(H7 fs++rest).length:=by rw[AO,GY,h2];exact hj
 rw[AO]at hl;simp[World.cell?,h1,hl]
theorem A15(g cap:Nat)(A B:List DF)(f:DF)(n:Nat)(w:FU)(ho:Own w g cap (A++f::B))(hn:n=A.length+B.length+1)(hsm:n<=1000):
  FW prog 187 #[FQ (FZ ⟨g,0,FX⟩) n cap,I0 A.length,I0 (A.length+1:Nat)] w fun e w'=>
   e=.returned (FQ (FZ ⟨g,0,FX⟩) (A.length+B.length) cap)/\Own w' g cap (A++B)/\w.grownBy w' (FZ g):=by
 obtain⟨i0,hi0,hz0,hz1,hz2⟩:=UG;have hle:=ho.le;have hcl:=ho.capLe;simp only[maxLen]at hcl;rw[AO,BG]at hle;have hrow:=ho.row;obtain⟨AD,hAD,hsrc⟩:∃AD:Addr,(if cap=A.length+1 then FZ (⟨g,0,FX⟩:Addr)else FZ ⟨g,(A.length+1)*3,FX⟩)=FZ AD/\Hid (∀t u,(H7 B)[t]?=FZ u->w.drew.cell? (AD.add t)=FZ u):=by
  by_cases h:cap=A.length+1
  .refine⟨⟨g,0,FX⟩,by simp[h],fun t u hu=>?_⟩;have h0:B=[]:=BR (by omega);rw[h0]at hu;simp[H7]at hu
  .refine⟨⟨g,(A.length+1)*3,FX⟩,by simp[h],fun t u hu=>?_⟩;rw[BJ];have:=hrow ((A.length+1)*3+t) u (by
    rw[JM,BA (by rw[GY];omega),GY,H7,BA (by simp[JB];omega)];simp only[JB,BG,ES];rw[<-hu];congr 1;omega)
   rw[BI]at this;exact this
 have s1:Hid ((H7 B).length=B.length*3):=GY B;have s2:Hid (∀u∈H7 B,u.oneCell'=true):=YN B;have s3:Hid (∀t,t<(H7 B).length->(w.drew.cell? ⟨g,0+A.length*3+t,FX⟩).isSome=true/\w.drew.frozen? ⟨g,0+A.length*3+t,FX⟩=false):=by
  intro t ht;rw[GY]at ht;exact⟨ho.some (by omega),ho.frozen _⟩
 obtain⟨W1,hW1⟩:∃W1,W1=w.drew.setCells g (0+A.length*3) (H7 B):=⟨_,rfl⟩;have ho1:Own W1 g cap (A++B):=by rw[hW1,BI];exact ho.drew.splice B (by omega)
 have hg1:w.grownBy W1 (FZ g):=by rw[hW1];have:=LX (g:=g) (H7 B) (0+A.length*3) w.drew;exact⟨this.os,this.tape,this.output,this.size,this.block⟩
 have CS2:∀ty c,(Builtin.clear_ #[52] ty #[FQ (FZ ⟨g,(A.length+B.length)*3,FX⟩) 1 c]).run prog W1=.ok (.tuple #[]) (W1.setCells g ((A.length+B.length)*3) kG):=fun ty c=>
  AL7 W1 ty g _ c (fun j hj=>ho1.some (by omega)) (fun j hj=>ho1.frozen _)
 have FIN:Hid (Own (W1.setCells g ((A.length+B.length)*3) kG) g cap (A++B)/\w.grownBy (W1.setCells g ((A.length+B.length)*3) kG) (FZ g)):=
  ⟨ho1.spare kG _ (by rw[AO];omega) (by simp[kG];omega),SK hg1 (LX _ _ _)⟩
 have hW:Hid (W1=w.drew.setCells g (0+A.length*3) (H7 B)):=hW1;have hic:A.length<=cap:=by omega
 have hjc:A.length+1<=cap:=by omega
 have hne:¬ (cap=A.length+B.length):=by omega
 have hb1:(0:Int)<=(A.length:Int)+1:=by omega
 have hb2:(A.length:Int)<=(A.length:Int)+(B.length:Int):=by omega
 have hb3:(0:Int)<=(A.length:Int)+(B.length:Int):=by omega
 have hs1:A.length+B.length+1-(A.length+B.length)=1:=by omega
 clear hW1 ho1 hg1 hrow ho;subst hn;go_enter func187,ntmps187;go_wp2_with fail
 go_region_law (refine step_append_room rfl (.tmp 22) (.tmp 25) 52 rfl 90 i0 3 underlying52 hi0 hz1 g 0 A.length cap (by simp[Act.eval,Act.put]) AD B.length (cap-(A.length+1)) (H7 B) (by simp[Act.eval,Act.put]) s1.out hsrc.out s2.out (by omega) s3.out ?_;rw[<-hW.out])
 go_wp2
 go_ret;exact⟨rfl,FIN.out⟩
theorem wG(v:FV)(fs A B:List DF)(f:DF)(name:List UInt8)(w:FU)(hv:IQ w v fs)(hs:nJ fs)(g:LW fs)(T:There fs A f B name):
  FW prog 145 #[.agg #[v],S0 name] w fun e w'=>∃v',e=.returned (.tuple #[.agg #[v'],I0 0])/\YO w' w.heap.size v' (A++B)/\B0 w w':=by
 have C:=fun W (hW:B0 w W)=>TM _ fs A B f name W (hv.next hW) hs g T;have CC:=fun W (hW:B0 w W)=>SH _ fs W (hv.next hW) hs g.few;obtain⟨b,off,cap,rfl,hb,hr,hk,hlt⟩:=XE hv T;have hb0:b≠w.heap.size:=by omega
 have hsm:=g.few;have hlen:fs.length=A.length+B.length+1:=by rw[T.eq];simp;omega
 have CD:=fun(q c:Nat) (W:FU) (ho:Own W q c fs)=>A15 q c A B f fs.length W (by rw[<-T.eq];exact ho) hlen (by omega);have HL:=G6 hlen;clear hv hs g T hr hk hlen;go_enter func145,ntmps145;go_wp2_with fail;have X:=PW.start w (FQ (FZ ⟨b,off,FX⟩) fs.length cap) 54 54;generalize (w.alloc (FT #[FQ (FZ ⟨b,off,FX⟩) fs.length cap] 54)).alloc (FT #[N0] 54)=w0 at*;refine(C _ X.below).mono ?_;rintro e w1 ⟨rfl,hb1⟩;have X1:=X.next hb1;have HX:=G6 X1;have cd:=X1.cd;clear C hb1 X X1;go_wp2_with fail;refine(CC _ (G5 HX).below).mono ?_;rintro e w2 ⟨v',rfl,ho,hb2⟩;obtain⟨q,cap2,rfl,hq,ho⟩:=YP ho hlt;have hql:=ho.lt;have hq2:w.heap.size+2<=q:=by have:=(G5 HX).size;omega
 have X2:=((G5 HX).next hb2).alloc (FT #[FQ (FZ ⟨q,0,FX⟩) fs.length cap2] 54);have ho2:=ho.alloc (FT #[FQ (FZ ⟨q,0,FX⟩) fs.length cap2] 54);have ca:(w2.alloc (FT #[FQ (FZ ⟨q,0,FX⟩) fs.length cap2] 54)).cell? ⟨w2.heap.size,0,FX⟩=FZ (FQ (FZ ⟨q,0,FX⟩) fs.length cap2):=by simp
 have fa:(w2.alloc (FT #[FQ (FZ ⟨q,0,FX⟩) fs.length cap2] 54)).frozen? ⟨w2.heap.size,0,FX⟩=false:=by simp
 have hz2:w.heap.size+2<=w2.heap.size:=by omega
 have haz:w2.heap.size<(w2.alloc (FT #[FQ (FZ ⟨q,0,FX⟩) fs.length cap2] 54)).heap.size:=by simp
 clear CC hb2 ho HX cd;go_wp2_with fail;generalize w2.alloc (FT #[FQ (FZ ⟨q,0,FX⟩) fs.length cap2] 54)=W at*;refine(CD q cap2 _ ho2).mono ?_;rintro e w4 ⟨rfl,ho4,hg4⟩;have X4:=X2.grown hg4 hq2;have ca4:w4.cell? ⟨w2.heap.size,0,FX⟩=FZ (FQ (FZ ⟨q,0,FX⟩) fs.length cap2):=hg4.cell ca (fun e=>by have e3:w2.heap.size=q:=BN e;omega);have fa4:w4.frozen? ⟨w2.heap.size,0,FX⟩=false:=(World.frozen?_of_block (hg4.block w2.heap.size haz (fun e=>by have e3:w2.heap.size=q:=BN e;omega))).trans fa;have cr:=X4.cr;have fr:=X4.fr;have HB:=G6 X4.below;have HO4:=G6 ho4;clear X4 ho4 hg4 X2 ho2 CD ca fa;go_wp2_with fail;exact bodyPost_ret (v:=.tuple #[.agg #[FQ (FZ ⟨q,0,FX⟩) (A.length+B.length) cap2],I0 0]) (by simp[results,results145,go_sem,cr]) rfl
  ⟨_,rfl,.inr ⟨q,cap2,by rw[AO],by omega,((G5 HO4).other (by show q≠w2.heap.size;omega) _).other (by show q≠w.heap.size+1;omega) _⟩,((G5 HB).setCell (by show w.heap.size<=w2.heap.size;omega) _).setCell (by simp) _⟩
theorem bF(w:FU)(ty:TypeId)(b o dLen dCap:Nat)(a:Addr)(sLen sCap:Nat)(cs:List FV)(hn:cs.length=Nat.min sLen dLen*3)
  (hsrc:∀j v,cs[j]?=FZ v->w.cell? (a.add j)=FZ v) (hc:∀j,j<cs.length->(w.cell? ⟨b,o+j,FX⟩).isSome=true) (hf:∀j,j<cs.length->w.frozen? ⟨b,o+j,FX⟩=false) (h1:∀v∈cs,v.oneCell'=true):
  (DW #[52,52] ty #[FQ (FZ ⟨b,o,FX⟩) dLen dCap,FQ (FZ a) sLen sCap]).run prog w=.ok (goInt (Nat.min sLen dLen)) (w.setCells b o cs):=by
 have hl:=run_loadCells_list (P:=prog) w a cs hsrc;have hst:=run_storeCells_cells (P:=prog) b o cs 0 w (by simpa using hc) (by simpa using hf) h1;obtain⟨i0,hi0,hz0,hz1,hz2⟩:=UG;simp[DW,run_underlying underlying52,Builtin.lenOf,Builtin.firstCells,sizeOf,typeInfo,hi0,hz1,<-hn,hl,hst]
theorem wH(w:FU){o:Oper}{a:Act}{K:Act->FU->Prop}{Q:Exit->Act->FU->Prop}(d s:Operand)(t t':TypeId)
  (ho:o.op=.call {callee:=.builtin .copy,args:=#[d,s],argTypes:=#[t,t']}) (v u:FV) (hd:a.eval d=v) (hs:a.eval s=u) {v':FV} {w':FU}
  (hr:(DW #[t,t'] o.type #[v,u]).run prog w=.ok v' w') (h:K (a.put o.dst v') w'):o.wp prog a w K Q:=by
 unfold Oper.wp execOp;simp only[ho,resolve,invoke,builtin,Sem.run_bind,Sem.run_pure,Result.andThen_ok,List.map_toArray,List.map_cons,List.map_nil,hd,hs,hr];exact h
theorem WC(w:FU){ops:Array Oper}{rest:List Oper}{o:Oper}{a:Act}{Q:Exit->Act->FU->Prop}(hgd:o.guard=FX)(d s:Operand)(t t':TypeId)
  (ho:o.op=.call {callee:=.builtin .copy,args:=#[d,s],argTypes:=#[t,t']}) (v u:FV) (hd:a.eval d=v) (hs:a.eval s=u) {v':FV} {w':FU}
  (hr:(DW #[t,t'] o.type #[v,u]).run prog w=.ok v' w') (h:wpList prog ops Q rest (a.put o.dst v') w'):wpList prog ops Q (o::rest) a w:=
 wpList_plain hgd fun _ hK=>wH w d s t t' ho v u hd hs hr (hK _ _ h)
theorem Z9{ops:Array Oper}{o:Oper}{a:Act}{w:FU}{K:Act->FU->Prop}{Q:Exit->Act->FU->Prop}{E:Prop}
  (hg:o.guard=FX) (d x:Operand) (dT sT:TypeId) (hop:o.op=Op.call {callee:=Callee.builtin Builtin.copy,args:=#[d,x],argTypes:=#[dT,sT]})
  (v u:FV) (hd:a.eval d=v) (hx:a.eval x=u) {v':FV} {w':FU} (hr:(DW #[dT,sT] o.type #[v,u]).run prog w=.ok v' w') (hK:K (a.put o.dst v') w'):
  if Region.wanted o (yielded ops a.tmps)=true then Oper.wp prog o a w K Q else E:=by
 have hw:Region.wanted o (yielded ops a.tmps)=true:=by simp[Region.wanted,hg]
 rw[if_pos hw];unfold Oper.wp;simp[execOp,hop,resolve,invoke,builtin,hd,hx,hr,Result.andThen];exact hK
def One(W:FU)(b:Nat)(x:DF):Prop:=W.heap[b]?=FZ (FT (JB x).toArray 90 (0,0))
theorem One.row{b:Nat}{x:DF}(h:One W b x):∀j v,(JB x)[j]?=FZ v->W.cell? ⟨b,0+j,FX⟩=FZ v:=by
 intro j v hj;unfold One at h;have:(JB x).toArray[j]?=FZ v:=by simpa using hj
 simp[World.cell?,h,hj]
theorem YR(x:DF):∀u∈JB x,u.oneCell'=true:=by
 intro u h;simp[JB]at h;rcases h with rfl|rfl|rfl<;>rfl
theorem A16(v:FV)(A:List DF)(x:DF)(B b:Nat)(w:FU)(ho:YO w B v A)(hB:B<=w.heap.size)(hl:A.length<=16)(h1:One w b x):
  FW prog 82 #[v,I0 A.length,FQ (FZ ⟨b,0,FX⟩) 1 1] w fun e w'=>
   ∃v',e=.returned v'/\YO w' B v' (A++[x])/\w.grownBy w' v.ownBlock:=by
 obtain⟨i0,hi0,hz0,hz1,hz2⟩:=UG;have hrow:=ho.row;have HR:=G6 hrow;have H1:=G6 h1.row;have V:∃a c,v=FQ a A.length c/\A.length<=c:=by
  rcases ho with⟨rfl,rfl⟩|⟨g,cap,rfl,_,h⟩
  .exact⟨FX,0,rfl,A8 _⟩
  .exact⟨_,cap,rfl,h.le⟩
 obtain⟨a,c,rfl,hc⟩:=V;clear ho hrow h1;rcases Nat.lt_or_ge A.length c with hcl|hcl
 .have hne:¬c=A.length:=by omega
  go_enter func82,ntmps82;go_wp2_with (at_builtin;refine wpList_append_own _ rfl _ _ 52 rfl B 90 i0 _ 3 48 underlying52 hi0 hz0 hz1 hz2 rfl (by decide) _ A.length (H7 A) rfl (G5 HR) ⟨b,0,FX⟩ 1 1 (JB x) rfl (by rfl) ?qc2 (YR x) ?qc4 ?qc5 hB ?_)
  case qc2=>
   intro j u hj;rw[BJ];exact G5 H1 j u hj
  case qc4=>simp only[maxLen];omega
  case qc5=>omega
  intro v' w1 hown hgrow _
  go_wp2
  go_ret;exact⟨v',rfl,YO.LD (by rw[AO,JM];simpa [H7]using hown),hgrow⟩
 .obtain rfl:c=A.length:=by omega
  go_enter func82,ntmps82;go_wp2_with (at_builtin;refine wpList_append_own _ rfl _ _ 52 rfl B 90 i0 _ 3 48 underlying52 hi0 hz0 hz1 hz2 rfl (by decide) _ A.length (H7 A) rfl (G5 HR) ⟨b,0,FX⟩ 1 1 (JB x) rfl (by rfl) ?qc2 (YR x) ?qc4 ?qc5 hB ?_)
  case qc2=>
   intro j u hj;rw[BJ];exact G5 H1 j u hj
  case qc4=>simp only[maxLen];omega
  case qc5=>omega
  intro v' w1 hown hgrow _
  go_wp2
  go_ret;exact⟨v',rfl,YO.LD (by rw[AO,JM];simpa [H7]using hown),hgrow⟩
theorem rF(g cap:Nat)(A R:List DF)(y x:DF)(n b:Nat)(w:FU)(ho:Own w g cap (A++y::R))(hn:n=A.length+R.length+1)(hsm:n<=16)(hroom:n+1<=cap)(h1:One w b x)(hbg:b≠g):
  FW prog 82 #[FQ (FZ ⟨g,0,FX⟩) n cap,I0 A.length,FQ (FZ ⟨b,0,FX⟩) 1 1] w fun e w'=>
   e=.returned (FQ (FZ ⟨g,0,FX⟩) (n+1) cap)/\Own w' g cap (A++x::y::R)/\w.grownBy w' (FZ g):=by
 have hcl:=ho.capLe;simp only[maxLen]at hcl;have hrow:=ho.row;have AZ7:w.shape? g=FZ (90,cap*3):=by
  obtain⟨rest,q1,q2,_⟩:=ho;rw[AO,BG]at q2;simp[World.shape?,q1,GY,q2]
 have AZ8:w.shape? b=FZ (90,3):=by unfold One at h1;simp[World.shape?,h1,JB]
 have hfb:∀j,w.frozen? ⟨b,j,FX⟩=false:=fun j=>by unfold One at h1;simp[World.frozen?,h1]
 have hov:∀lb cb,(callFunc 115 #[FQ (FZ ⟨b,0,FX⟩) 1 1,FQ (FZ ⟨g,(A.length+1)*3,FX⟩) lb cb]).run prog w=.ok (.value (.bool false)) w:=fun lb cb=>by
  rw[run_callFunc_extern func115 (by kernel_rfl) (by kernel_rfl) (by kernel_rfl) (e:=Extern.SlicesOverlaps.overlaps #[52,52] #[4]) (by kernel_rfl),
   Lib.run_overlaps_apart w 52 4 90 underlying52 3 sizeOf90 ⟨b,0,FX⟩ ⟨g,(A.length+1)*3,FX⟩ 1 1 lb cb hbg 90 90 3 (cap*3) AZ8 AZ7 (by omega) (hfb 0) (hfb 3)]
  rfl
 obtain⟨W1,hW1⟩:∃W1,W1=w.drew.setCells g ((A.length+1)*3) (H7 (y::R)):=⟨_,rfl⟩;have ho1:Own W1 g cap (A++y::y::R):=by
  have h:Own w.drew g cap ((A++[y])++R):=by rw[BQ];exact ho
  have:=h.splice (y::R) (by simp;omega);rw[hW1];simpa using this
 have hg1:w.grownBy W1 (FZ g):=by rw[hW1];have:=LX (g:=g) (H7 (y::R)) ((A.length+1)*3) w.drew;exact⟨this.os,this.tape,this.output,this.size,this.block⟩
 have hcp1:∀ty dc sc,(DW #[52,52] ty #[FQ (FZ ⟨g,(A.length+1)*3,FX⟩) (n-A.length) dc,FQ (FZ ⟨g,A.length*3,FX⟩) (n+1-A.length) sc]).run prog w.drew=.ok (goInt (Nat.min (n+1-A.length) (n-A.length))) W1:=fun ty dc sc=>by
  rw[hW1];exact bF w.drew ty g _ _ dc ⟨g,A.length*3,FX⟩ _ sc (H7 (y::R)) (by rw[GY];simp only[Nat.min_def,BG];split<;>omega)
   (fun j v hj=>by
    rw[BJ];have:=hrow (A.length*3+j) v (by rw[JM,BA (by rw[GY];omega),GY,FB];exact hj);rw[BI]at this;exact this)
   (fun j hj=>by rw[GY]at hj;exact ho.some (by simp at hj;omega)) (fun j _=>ho.frozen _) (YN _)
 have hcp2:∀ty dc,(DW #[52,52] ty #[FQ (FZ ⟨g,A.length*3,FX⟩) (n+1-A.length) dc,FQ (FZ ⟨b,0,FX⟩) 1 1]).run prog W1=.ok (goInt (Nat.min 1 (n+1-A.length))) (W1.setCells g (A.length*3) (JB x)):=fun ty dc=>
  bF W1 ty g _ _ dc ⟨b,0,FX⟩ 1 1 (JB x) (by simp only[Nat.min_def,JB,BG,ES];split<;>omega)
   (fun j v hj=>by
    rw[BJ];have hb2:W1.heap[b]?=w.heap[b]? :=hg1.block b (by unfold One at h1;exact(AB.1 h1).1) (fun e=>hbg (BN e));have h2:One W1 b x:=hb2.trans h1;exact h2.row j v hj)
   (fun j hj=>ho1.some (by simp[JB]at hj;omega)) (fun j _=>ho1.frozen _) (YR x)
 have FIN:Hid (Own (W1.setCells g (A.length*3) (JB x)) g cap (A++x::y::R)/\w.grownBy (W1.setCells g (A.length*3) (JB x)) (FZ g)):=
  ⟨ho1.vX x,SK hg1 (LX _ _ _)⟩
 have hin:A.length<n:=by omega
 have C36:(A.length:Int)<(n:Int):=by omega
 have hw1:IntKind.i64.wrap ((A.length:Int)+1)=(A.length:Int)+1:=by rw[IntKind.wrap_i64];omega
 have hb1:(0:Int)<=(A.length:Int)+1:=by omega
 have hb2:¬ (cap=A.length+1):=by omega
 have hb3:(A.length:Int)<=(n:Int)+1:=by omega
 have hb4:¬ (cap=A.length):=by omega
 have hb5:(A.length:Int)+1<=(n:Int)+1:=by omega
 have hb6:¬ ((cap:Int)<(n:Int)+1):=by omega
 have hz2:¬ ((A.length:Int)=(n:Int)):=by omega
 have htn:((A.length:Int)+1).toNat=A.length+1:=by omega
 clear hW1 ho1 hg1 hrow AZ7 AZ8 hfb ho h1 hn;go_enter func82,ntmps82;go_wp2_with (simp only[hov])
 go_region_law (refine Z9 rfl (.tmp 73) (.tmp 76) 52 52 rfl (FQ (FZ ⟨g,(A.length+1)*3,FX⟩) (n-A.length) (cap-(A.length+1))) (FQ (FZ ⟨g,A.length*3,FX⟩) (n+1-A.length) (cap-A.length)) (by simp[Act.eval,Act.put]) (by simp[Act.eval,Act.put]) (hcp1 _ _ _) ?_)
 go_wp2_with (at_builtin;refine WC _ rfl _ _ 52 52 rfl _ _ rfl rfl (hcp2 _ _) ?_);go_ret;exact⟨rfl,FIN.out⟩
theorem A17(k:Nat):(BH (Value.agg #[.string ⟨#[]⟩,.string ⟨#[]⟩,.string ⟨#[]⟩]).cells k).size=k*3:=by
 simp[BH,Value.cells]
theorem wI(g cap:Nat)(A R:List DF)(y x:DF)(n b:Nat)(w:FU)(ho:Own w g cap (A++y::R))(hn:n=A.length+R.length+1)(hsm:n<=16)(hroom:cap<n+1)(h1:One w b x):
  FW prog 82 #[FQ (FZ ⟨g,0,FX⟩) n cap,I0 A.length,FQ (FZ ⟨b,0,FX⟩) 1 1] w fun e w'=>
   ∃cap',e=.returned (FQ (FZ ⟨w.heap.size,0,FX⟩) (n+1) cap')/\Own w' w.heap.size cap' (A++x::y::R)/\B0 w w':=by
 have hcap:cap=n:=by have:=ho.le;simp at this;omega
 obtain⟨i0,hi0,hz0,hz1,hz2⟩:=UG;have hrow:=ho.row;have hgw:=ho.lt;have hbw:b<w.heap.size:=by unfold One at h1;exact(AB.1 h1).1
 have hold:(Builtin.firstCells i0.size A.length (FQ (FZ ⟨g,0,FX⟩) A.length cap)).run prog w.drew=.ok (H7 A).toArray w.drew:=by
  rw[hz1];exact run_firstCells_some w.drew 3 A.length ⟨g,0,FX⟩ A.length cap (H7 A) (GY A) (fun j v hj=>by
   rw[BJ];exact hrow j v (by rw[JM,BK (AU.1 hj).1];exact hj))
 obtain⟨G,hG⟩:∃G,G=grownCap w (n+1) cap 90:=⟨_,rfl⟩;have hGn:n+1<=G:=by rw[hG];exact grownCap_ge w _ _ _
 have hGm:G<=maxLen:=by rw[hG];exact grownCap_le_maxLen w (n+1) cap _ (by unfold maxLen;omega)
 have hG63:G<=9223372036854775807:=by have:=hGm;unfold maxLen at this;omega
 obtain⟨ROW,hROW⟩:∃ROW:Array FV,ROW=(H7 A).toArray++BH (Value.agg #[.string ⟨#[]⟩,.string ⟨#[]⟩,.string ⟨#[]⟩]).cells (n+1-A.length)++BH (Value.agg #[.string ⟨#[]⟩,.string ⟨#[]⟩,.string ⟨#[]⟩]).cells (G-(n+1)):=⟨_,rfl⟩;obtain⟨W1,hW1⟩:∃W1,W1=w.drew.alloc (FT ROW 90):=⟨_,rfl⟩;have hik:A.length+(n+1-A.length)=n+1:=by omega
 have hrz:∀ty,(Builtin.append_ #[52,3] ty #[FQ (FZ ⟨g,0,FX⟩) A.length cap,I0 ((n:Int)+1-(A.length:Int))]).run prog w=
   .ok (FQ (FZ ⟨w.heap.size,0,FX⟩) (n+1) G) W1:=fun ty=>by
  have h:=Lib.run_append_grow_zeros w 52 3 ty 90 i0 _ .i64 .i64 underlying52 underlying3 hi0 hz0 (FZ ⟨g,0,FX⟩) A.length cap (H7 A) hold (n+1-A.length) (by omega) (by omega) (by omega) (by omega) (by rw[hz2];omega) (by rw[hz2,hik];exact growslice_fits hroom (by omega));rw[hik,<-hG,<-hROW,<-hW1]at h;rw[show (n:Int)+1-(A.length:Int)=((n+1-A.length:Nat):Int) by omega];exact h
 have ho1:Own W1 w.heap.size G A:=by
  refine⟨(BH (Value.agg #[.string ⟨#[]⟩,.string ⟨#[]⟩,.string ⟨#[]⟩]).cells (n+1-A.length)++BH (Value.agg #[.string ⟨#[]⟩,.string ⟨#[]⟩,.string ⟨#[]⟩]).cells (G-(n+1))).toList,?_,?_,hGm⟩
  .rw[hW1,hROW];have:=heap_alloc_new w.drew (FT ((H7 A).toArray++BH (Value.agg #[.string ⟨#[]⟩,.string ⟨#[]⟩,.string ⟨#[]⟩]).cells (n+1-A.length)++BH (Value.agg #[.string ⟨#[]⟩,.string ⟨#[]⟩,.string ⟨#[]⟩]).cells (G-(n+1))) 90);refine Eq.trans this ?_
   congr 2
   apply Array.toList_inj.1
   simp
  .simp only[Array.length_toList,Array.size_append,A17];omega
 have hB1:B0 w W1:=by rw[hW1];exact((AA _ w).drew).alloc (A8 _) _
 obtain⟨W2,hW2⟩:∃W2,W2=W1.setCells w.heap.size (A.length*3) (JB x):=⟨_,rfl⟩;have ho2:Own W2 w.heap.size G (A++[x]):=by
  have h:Own W1 w.heap.size G (A++[]):=by rw[DL];exact ho1
  have:=h.splice [x] (by simp;omega);rw[hW2];simpa [H7]using this
 have hg2:W1.grownBy W2 (FZ w.heap.size):=by rw[hW2];exact LX _ _ _
 have hB2:B0 w W2:=hB1.grown hg2 hB1.size (fun k e=>by cases e;exact A8 _);have hcpA:∀ty dc,(DW #[52,52] ty #[FQ (FZ ⟨w.heap.size,A.length*3,FX⟩) (n+1-A.length) dc,FQ (FZ ⟨b,0,FX⟩) 1 1]).run prog W1=.ok (goInt (Nat.min 1 (n+1-A.length))) W2:=fun ty dc=>by
  rw[hW2];exact bF W1 ty w.heap.size _ _ dc ⟨b,0,FX⟩ 1 1 (JB x) (by simp only[Nat.min_def,JB,BG,ES];split<;>omega)
   (fun j v hj=>by rw[BJ];exact(show One W1 b x from(hB1.block b hbw).trans h1).row j v hj)
   (fun j hj=>ho1.some (by simp[JB]at hj;omega)) (fun j _=>ho1.frozen _) (YR x)
 obtain⟨W3,hW3⟩:∃W3,W3=W2.drew.setCells w.heap.size ((A.length+1)*3) (H7 (y::R)):=⟨_,rfl⟩;have hcpB:∀ty dc sc,(DW #[52,52] ty #[FQ (FZ ⟨w.heap.size,(A.length+1)*3,FX⟩) (n-A.length) dc,FQ (FZ ⟨g,A.length*3,FX⟩) (n-A.length) sc]).run prog W2.drew=.ok (goInt (Nat.min (n-A.length) (n-A.length))) W3:=fun ty dc sc=>by
  rw[hW3];exact bF W2.drew ty w.heap.size _ _ dc ⟨g,A.length*3,FX⟩ _ sc (H7 (y::R)) (by rw[GY];simp only[Nat.min_self,BG];omega)
   (fun j v hj=>by
    rw[BJ];have:=hrow (A.length*3+j) v (by rw[JM,BA (by rw[GY];omega),GY,FB];exact hj);rw[BI]at this;exact(hB2.cell (p:=⟨g,A.length*3+j,FX⟩) hgw).trans this)
   (fun j hj=>by rw[GY]at hj;exact ho2.drew.some (by simp at hj;omega)) (fun j _=>ho2.drew.frozen _) (YN _)
 have FIN:Hid (Own W3 w.heap.size G (A++x::y::R)/\B0 w W3):=by
  refine⟨?_,?_⟩
  .have h:Own W2.drew w.heap.size G ((A++[x])++[]):=by rw[DL];exact ho2
   have:=h.splice (y::R) (by simp;omega);rw[hW3];simpa using this
  .rw[hW3];exact hB2.drew.grown (LX _ _ _) hB2.size (fun k e=>by cases e;exact A8 _)
 have hin:A.length<n:=by omega
 have C36:(A.length:Int)<(n:Int):=by omega
 have hw1:IntKind.i64.wrap ((A.length:Int)+1)=(A.length:Int)+1:=by rw[IntKind.wrap_i64];omega
 have hb1:(0:Int)<=(A.length:Int)+1:=by omega
 have hb2:¬ (G=A.length+1):=by omega
 have hb3:(A.length:Int)<=(n:Int)+1:=by omega
 have hb4:¬ (n=A.length):=by omega
 have hb5:(A.length:Int)+1<=(n:Int)+1:=by omega
 have hb6:¬ (G=A.length):=by omega
 have hb7:(A.length:Int)<=(n:Int):=by omega
 have hz3:¬ ((A.length:Int)=(n:Int)):=by omega
 have htn:((A.length:Int)+1).toNat=A.length+1:=by omega
 subst hcap;clear hn hROW hW1 hW2 hW3 hG hrow ho h1 ho1 ho2 hB1 hB2 hg2 hold hik;go_enter func82,ntmps82;go_wp2_with (first
  |(at_builtin;refine Lib.wpList_append_run _ rfl _ _ _ _ rfl _ _ rfl rfl _ _ (hrz _) ?_)
  |(at_builtin;refine WC _ rfl _ _ 52 52 rfl _ _ rfl rfl (hcpA _ _) ?_))
 go_region_law (refine Z9 rfl (.tmp 50) (.tmp 53) 52 52 rfl (FQ (FZ ⟨w.heap.size,(A.length+1)*3,FX⟩) (cap-A.length) (G-(A.length+1))) (FQ (FZ ⟨g,A.length*3,FX⟩) (cap-A.length) (cap-A.length)) (by simp[Act.eval,Act.put]) (by simp[Act.eval,Act.put]) (hcpB _ _ _) ?_)
 go_wp2
 go_ret;exact⟨G,rfl,FIN.out⟩
