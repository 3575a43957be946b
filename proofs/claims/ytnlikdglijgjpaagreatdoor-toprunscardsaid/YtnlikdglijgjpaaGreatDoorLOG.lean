/-
  Part.
-/
import Derived.Test.YtnlikdglijgjpaaGreatDoorLOB
import Derived.Deep.RegionHeld3
import Derived.Lib.JoinLaws
import Derived.Lib.AppendZerosOnto
import Derived.Lib.Overlaps
set_option maxRecDepth 20000
set_option maxHeartbeats 8000000
namespace Go.Proofs.YtnlikdglijgjpaaGreatDoor
open Go.RowKit Go.Proofs.Tryz
open _root_.Nat renaming le_refl->A8,lt_of_lt_of_le->AX,zero_le->AY,zero_add->BI,le_trans->BN,add_sub_cancel_left->FC
open Go.RowKit.Below renaming refl->AA
open _root_.Array renaming getElem?_eq_some_iff->AB
open _root_.List renaming getElem?_eq_getElem->AL,length_append->AO,getElem?_eq_some_iff->AU,mem_of_getElem?->AZ,getElem?_append_right->BA,length_cons->BG,getElem?_append_left->BK,take_of_length_le->BM,append_assoc->BR,eq_nil_of_length_eq_zero->BU,append_nil->DN,length_nil->EU
open _root_.ByteArray renaming mk->AQ
open Go.Builtin renaming zeroCells->BH,copy_->DX
open Go.Addr renaming add_lit->BJ
open _root_.Option.some renaming inj->BO
open Go.Lib renaming run_eql_slice_nil->EO,compareBytes->ER
open Go.Value renaming slice->FT
open Go.Obj renaming cells->FU
open Go renaming World->FV,Value->FW,Calls->FX
open _root_.Option renaming none->FZ,some->G5
variable{w W V w':FV}{f:DF}{v:FW}{g cap:Nat}{fs:List DF}
theorem LJ{o:Obj}{w1:FV}(h:Below (w.alloc o).heap.size (w.alloc o) w1):B0 w w1:=
 ((AA _ _).alloc (A8 _) _).trans (h.mono (by simp))
theorem aA(f:DF)(w:FV)(h:f.s.length+f.t.length<=9223372036854775807):
  FX prog 69 #[BH0 f] w (R0 w (I0 ((f.s.length+f.t.length:Nat):Int))):=by
 unfold BH0;go_enter func69,ntmps69
 go_wp2
 go_ret;exact⟨rfl,(AA _ _).alloc (A8 _) _⟩
theorem A87(f:DF)(name:List UInt8)(w:FV):
  FX prog 108 #[BH0 f,S0 name] w (R0 w (I0 (ER f.n name))):=by
 unfold BH0;go_enter func108,ntmps108;go_wp2_with fail;refine(strings_Compare _ _ _).mono ?_;rintro e w1 ⟨rfl,rfl⟩;go_wp2_with fail;go_ret;exact⟨rfl,(AA _ _).alloc (A8 _) _⟩
def aB(R:List DF)(name:List UInt8):Bool:=match R with
 |[]=>false
 |f::_=>decide (f.n=name)
theorem AX7(A R:List DF)(name:List UInt8)(lo:∀a∈A,bl a.n name=true)(hi:∀a∈R,bl a.n name=false)(i:Nat)(h:i<A.length+R.length):∃y,(A++R)[i]?=G5 y/\bl y.n name=decide (i<A.length):=by
 by_cases h1:i<A.length
 .refine⟨A[i],by rw[BK h1,AL h1],?_⟩;rw[lo _ (List.getElem_mem h1)];simp[h1]
 .have h2:i-A.length<R.length:=by omega
  refine⟨R[i-A.length],by rw[BA (by omega),AL h2],?_⟩;rw[hi _ (List.getElem_mem h2)];simp[h1]
theorem C15(b off cap:Nat)(A R:List DF)(name:List UInt8)(w:FV)(hcap:A.length+R.length<=16)(hb:b<w.heap.size)(h:IC w b off (I5 (A++R)))
  (lo:∀a∈A,bl a.n name=true) (hi:∀a∈R,bl a.n name=false):
  FX prog 107 #[FT (G5 ⟨b,off,FZ⟩) (A.length+R.length) cap,S0 name,.func (.func 108) #[] #[]] w fun e w'=>
   e=.returned (.tuple #[I0 A.length,.bool (aB R name)])/\B0 w w':=by
 have H:=G7 h;have SG:=G7 (AX7 A R name lo hi);obtain⟨fin,hfin⟩:∃x,aB R name=x:=⟨_,rfl⟩;have HF:=G7 hfin;rw[hfin];clear h hfin lo hi;go_enter func107,ntmps107;go_wp2_with fail
 go_loopg [9,10] (A.length+R.length) (fun kx s9 s10 wr=>∃lo hi:Nat,s9=I0 lo/\s10=I0 hi/\lo<=A.length/\A.length<=hi/\hi<=A.length+R.length/\hi-lo<=kx/\Hid (B0 w wr))
 case atStart=>exact⟨0,A.length+R.length,rfl,rfl,AY _,by omega,A8 _,by omega,G7 (AA _ _)⟩
 case round=>
  obtain⟨lo,hi,rfl,rfl,h1,h2,h3,hg,hB⟩:=hrel;by_cases hlt:lo<hi
  .obtain⟨y,hy,hyn⟩:=G6 SG ((lo+hi)/2) (by omega);have HY:=G7 hyn;have r:=(G6 H).kept (G6 hB) hb;have e0:=r.c0 hy;have e1:=r.c1 hy;have e2:=r.c2 hy;clear hyn hy r;have hc:=A65 y.n name;rw[G6 HY]at hc;have CM:=fun W=>A87 y name W;generalize ER y.n name=cv at hc CM;by_cases hm:(lo+hi)/2<A.length
   .have hn:cv<0:=by simpa [hm]using hc
    clear hc;go_wp2_with fail;refine(CM _).mono ?_;rintro e w1 ⟨rfl,hb1⟩;have hB2:B0 w w1:=(G6 hB).trans (hb1.mono (G6 hB).size);clear CM;go_wp2_with fail
    go_roundg (hi-((lo+hi)/2+1))
    case measure=>omega
    case rel=>exact⟨(lo+hi)/2+1,hi,by rw[show ((lo:Int)+(hi:Int))/2+1=(((lo+hi)/2+1:Nat):Int) by omega],rfl,by omega,h2,h3,A8 _,G7 hB2⟩
   .have hn:¬cv<0:=by simpa [hm]using hc
    clear hc;go_wp2_with fail;refine(CM _).mono ?_;rintro e w1 ⟨rfl,hb1⟩;have hB2:B0 w w1:=(G6 hB).trans (hb1.mono (G6 hB).size);clear CM;go_wp2_with fail
    go_roundg ((lo+hi)/2-lo)
    case measure=>omega
    case rel=>exact⟨lo,(lo+hi)/2,rfl,by rw[show ((lo:Int)+(hi:Int))/2=(((lo+hi)/2:Nat):Int) by omega],h1,by omega,by omega,A8 _,G7 hB2⟩
  .obtain rfl:lo=A.length:=by omega
   obtain rfl:hi=A.length:=by omega
   cases R with
   |nil=>
    go_wp2_with fail
    go_ret2
    exact⟨by rw[<-G6 HF];rfl,G6 hB⟩
   |cons f R=>
    have r:=(G6 H).kept (G6 hB) hb;have hy:(A++f::R)[A.length]?=G5 f:=by simp
    have e0:=r.c0 hy;have e1:=r.c1 hy;have e2:=r.c2 hy;clear hy r;have hc:=fP f.n name;have CM:=fun W=>A87 f name W;have hf:fin=decide (f.n=name):=(G6 HF).symm;rw[<-hc]at hf;clear hc HF;generalize ER f.n name=cv at hf CM;subst hf;simp only[BG];go_wp2_with fail;refine(CM _).mono ?_;rintro e w1 ⟨rfl,hb1⟩;have hB2:B0 w w1:=(G6 hB).trans (hb1.mono (G6 hB).size);clear CM;go_wp2_with fail
    go_ret2
    exact⟨by rfl,hB2⟩
theorem BH3(a:Option Addr)(cap:Nat)(name:List UInt8)(w:FV):
  FX prog 107 #[FT a 0 cap,S0 name,.func (.func 108) #[] #[]] w fun e w'=>
   e=.returned (.tuple #[I0 0,.bool false])/\B0 w w':=by
 go_enter func107,ntmps107;go_wp2_with fail
 go_loopg [9,10] 1 (fun _ s9 s10 wr=>s9=I0 0/\s10=I0 0/\Hid (B0 w wr))
 case atStart=>exact⟨rfl,rfl,G7 (AA _ _)⟩
 case round=>
  obtain⟨rfl,rfl,hB⟩:=hrel;go_wp2_with fail
  go_ret2
  exact⟨rfl,G6 hB⟩
theorem mY(v:FW)(fs A R:List DF)(name:List UInt8)(w:FV)(hv:IQ w v fs)(hl:fs.length<=16)(he:fs=A++R)(lo:∀a∈A,bl a.n name=true)(hi:∀a∈R,bl a.n name=false):
  FX prog 68 #[.agg #[v],S0 name] w (R0 w (.tuple #[I0 A.length,.bool (aB R name)])):=by
 have C:∀W:FV,B0 w W->FX prog 107 #[v,S0 name,.func (.func 108) #[] #[]] W fun e w'=>
   e=.returned (.tuple #[I0 A.length,.bool (aB R name)])/\B0 W w':=fun W hW=>by
  rcases hv with⟨a,cap,rfl,h0,_⟩|⟨b,off,cap,rfl,_,_,hb,_,hr⟩
  .rw[h0]at he;obtain⟨rfl,rfl⟩:A=[]/\R=[]:=by
    have:=congrArg List.length he;simp at this;exact⟨BU (by omega),BU (by omega)⟩
   exact BH3 a cap name W
  .subst he;rw[AO];exact C15 b off cap A R name W (by simpa using hl) (AX hb hW.size) (hr.kept hW hb) lo hi
 have C':=G7 C;have V:∃a n c,v=FT a n c:=by
  rcases hv with⟨a,cap,rfl,_,_⟩|⟨b,off,cap,rfl,_⟩
  .exact⟨_,_,_,rfl⟩
  .exact⟨_,_,_,rfl⟩
 obtain⟨a,n,c,rfl⟩:=V;clear C hv hl he lo hi;generalize aB R name=hd at C'⊢;go_enter func68,ntmps68;go_wp2_with fail;refine(G6 C' _ ((AA _ _).alloc (A8 _) _)).mono ?_;rintro e w1 ⟨rfl,hb1⟩;have hbz:=LJ hb1;go_wp2_with fail
 go_ret2
 exact⟨rfl,hbz⟩
theorem mZ(v:FW)(fs A B:List DF)(f:DF)(name:List UInt8)(w:FV)(hv:IQ w v fs)(hl:fs.length<=16)(T:There fs A f B name):
  FX prog 68 #[.agg #[v],S0 name] w (R0 w (.tuple #[I0 A.length,.bool true])):=by
 have:=mY v fs A (f::B) name w hv hl T.eq T.lo (fun a ha=>by
  rcases List.mem_cons.1 ha with rfl|h
  .rw[T.nm];exact QF _
  .exact OB (T.hi a h))
 rwa[show aB (f::B) name=true from by simp[aB,T.nm]]at this
theorem A88(v:FW)(fs A B:List DF)(name:List UInt8)(w:FV)(hv:IQ w v fs)(hl:fs.length<=16)(G:Gap fs A B name):
  FX prog 68 #[.agg #[v],S0 name] w (R0 w (.tuple #[I0 A.length,.bool false])):=by
 have:=mY v fs A B name w hv hl G.eq G.lo (fun a ha=>OB (G.hi a ha));rwa[show aB B name=false from by
  cases B with
  |nil=>rfl
  |cons f B=>have:=VW (G.hi f (by simp));simp[aB,this.symm]]at this
theorem uM(h1:JA f.n=false):QG f=false:=by simp[QG,h1]
theorem zI(h:1048576<f.s.length+f.t.length):QG f=false:=by simp[QG];intro _;omega
theorem AI3(h1:JA f.n=true)(h:f.s.length+f.t.length<=1048576):QG f=true:=by simp[QG,h1,h]
theorem CH0{w1:FV}(hb:B0 W w1):(∀b o,b<W.heap.size->w1.cell? ⟨b,o,FZ⟩=W.cell? ⟨b,o,FZ⟩)/\(∀b o,b<W.heap.size->w1.frozen? ⟨b,o,FZ⟩=W.frozen? ⟨b,o,FZ⟩):=
 ⟨fun b o h=>hb.cell (p:=⟨b,o,FZ⟩) h,fun b o h=>hb.frozen (p:=⟨b,o,FZ⟩) h⟩
def lQ(fs:List DF):Prop:=∀f∈fs,f.n.length<=140737488355328/\f.s.length<=140737488355328/\f.t.length<=140737488355328
theorem A89(n:List UInt8)(h:n.length<=140737488355328)(w:FV):
  FX prog 67 #[S0 n] w fun e w'=>e=.returned (.bool (JA n))/\w'=w:=
 TT ⟨n.toArray⟩ w (by have:(AQ n.toArray).size=n.length:=rfl;unfold maxLen;omega)
theorem AI4(a:Option Addr)(cap:Nat)(w:FV):
  FX prog 66 #[.agg #[FT a 0 cap]] w (R0 w (.bool true)):=by
 go_enter func66,ntmps66;go_wp2_with fail
 go_loopg [12] 1 (fun _ s12 wr=>s12=I0 0/\Hid (B0 w wr))
 case atStart=>exact⟨rfl,G7 ((AA _ _).alloc (A8 _) _)⟩
 case round=>
  obtain⟨rfl,hB⟩:=hrel;go_wp2_with fail;go_ret;exact⟨rfl,G6 hB⟩
theorem AI5(b off cap n:Nat)(hn:16<n)(w:FV):
  FX prog 66 #[.agg #[FT (G5 ⟨b,off,FZ⟩) n cap]] w (R0 w (.bool false)):=by
 go_enter func66,ntmps66;go_wp2_with fail;go_ret;exact⟨rfl,(AA _ _).alloc (A8 _) _⟩
theorem AI6(b off cap:Nat)(fs:List DF)(w:FV)(hs:lQ fs)(hl:fs.length<=16)(hb:b<w.heap.size)(h:IC w b off (I5 fs)):
  FX prog 66 #[.agg #[FT (G5 ⟨b,off,FZ⟩) fs.length cap]] w (R0 w (.bool (UN fs))):=by
 have H:=G7 h;have HS:=G7 hs;have NO:=G7 (fun(k:Nat) (f:DF)=> @BE8 fs k f);have NR:=G7 (fun(k:Nat) (f g:DF)=> @AT4 fs k f g);have YES:=G7 (sV hl);have Z:=G7 (AT2 fs);have SU:=G7 (fun(k:Nat) (f:DF) (h:BZ2 fs k)=>AT3 (f:=f) h);have hb0:b≠w.heap.size:=by omega
 clear h hs;generalize UN fs=G at NO NR YES⊢;go_enter func66,ntmps66;go_wp2_with fail
 go_loopg [12] fs.length (fun kx s12 wr=>∃k:Nat,s12=I0 k/\k<=fs.length/\fs.length-k<=kx/\Hid (B0 w wr/\w.heap.size<wr.heap.size/\wr.cell? ⟨w.heap.size,0,FZ⟩=G5 (FT (G5 ⟨b,off,FZ⟩) fs.length cap))/\Hid (BZ2 fs k))
 case atStart=>exact⟨0,rfl,AY _,by omega,G7 ⟨(AA _ _).alloc (A8 _) _,by simp,by simp⟩,Z⟩
 case round=>
  obtain⟨k,rfl,hk,hg,hB,hO⟩:=hrel;by_cases hlt:k<fs.length
  .obtain⟨f,hf⟩:∃f,fs[k]?=G5 f:=⟨_,AL hlt⟩;have HF:=G7 hf;have r:=(G6 H).kept (G6 hB).1 hb;have e0:=r.c0 hf;have e1:=r.c1 hf;have e2:=r.c2 hf;have hsl:=G6 HS f (AZ hf);have hbw:b<wr.heap.size:=AX hb (G6 hB).1.size;have h00:=(G6 hB).2.2;clear hf r
   cases hn:JA f.n with
   |false=>
    have HN:=G7 hn;have CN:=fun W=>A89 f.n hsl.1 W;rw[hn]at CN;clear hn;go_wp2_with fail;refine(CN _).mono ?_;rintro e w1 ⟨rfl,rfl⟩;clear CN;go_wp2_with fail;go_ret;exact⟨QY (G6 NO k f (G6 HF) (uM (G6 HN))).symm,(G6 hB).1.alloc (by have:=(G6 hB).1.size;omega) _⟩
   |true=>
    have HN:=G7 hn;have CN:=fun W=>A89 f.n hsl.1 W;rw[hn]at CN;clear hn;have HL:=G7 hsl;have hsum:f.s.length+f.t.length<=9223372036854775807:=by omega
    have CS:=fun W=>aA f W hsum;obtain⟨L,hL⟩:∃L,f.s.length+f.t.length=L:=⟨_,rfl⟩;rw[hL]at CS;have HL2:=G7 hL;have hLb:L<=9223372036854775807:=by omega
    clear hsl hsum hL;go_wp2_with fail;refine(CN _).mono ?_;rintro e w1 ⟨rfl,rfl⟩;clear CN;by_cases hbig:L<=1048576
    .have hok:=AI3 (G6 HN) (by rw[G6 HL2];exact hbig);go_wp2_with fail;refine(CS _).mono ?_;rintro e w2 ⟨rfl,hb2⟩;clear CS;obtain⟨hc,hf⟩:=CH0 hb2;have hB2:B0 w w2:=(G6 hB).1.trans (LJ hb2|>.mono (G6 hB).1.size);have h01:w2.cell? ⟨w.heap.size,0,FZ⟩=G5 (FT (G5 ⟨b,off,FZ⟩) fs.length cap):=by
      rw[hc _ _ (by have:=(G6 hB).2.1;simp;omega),((AA wr.heap.size wr).alloc (A8 _) _).cell (p:=⟨w.heap.size,0,FZ⟩) (G6 hB).2.1];exact h00
     have hz:w2.cell? ⟨wr.heap.size,0,FZ⟩=G5 (S0 f.n):=by
      rw[hc _ _ (by simp)];simp
     have hlt2:w.heap.size<w2.heap.size:=by have:=hb2.size;have:=(G6 hB).2.1;simp at*;omega
     clear hc hf hb2 h00 e0 e1 e2;rcases Nat.eq_zero_or_pos k with hk0|hk0
     .subst hk0;have OK2:=G7 (G6 SU 0 f (G6 hO) (G6 HF) hok (fun g h=>absurd h (Nat.lt_irrefl 0)));go_wp2_with fail;go_region;go_wp2_with fail
      go_roundg (fs.length-1)
      case measure=>omega
      case rel=>exact⟨1,rfl,by omega,A8 _,G7 ⟨hB2.drew,hlt2,h01⟩,OK2⟩
     .obtain⟨m,rfl⟩:∃m,k=m+1:=⟨k-1,by omega⟩;obtain⟨g,hg⟩:∃g,fs[m]?=G5 g:=⟨_,AL (by omega)⟩;have r:=(G6 H).kept hB2 hb;have e0:=r.c0 hg;have HG:=G7 hg;clear r hg;have hm1:(m:Int)<(fs.length:Int):=by omega
      cases hbl:bl g.n f.n with
      |true=>
       have OK2:=G7 (G6 SU (m+1) f (G6 hO) (G6 HF) hok (fun g' _ h=>by
        rw[Nat.add_sub_cancel,G6 HG]at h
        cases h
        exact hbl))
       have hbl':Op.bytesLess g.n f.n=true:=hbl;clear hbl;go_wp2_with fail;go_region;go_wp2_with fail
       go_roundg (fs.length-(m+1+1))
       case measure=>omega
       case rel=>exact⟨m+1+1,rfl,by omega,A8 _,G7 ⟨hB2.drew,hlt2,h01⟩,OK2⟩
      |false=>
       have hbl':Op.bytesLess g.n f.n=false:=hbl;have GF:=(G6 NR (m+1) f g (G6 HF) (by simpa using G6 HG) (by omega) hbl).symm;have HGF:=G7 GF;clear hbl GF;go_wp2_with fail;go_region;go_wp2_with fail;go_ret;exact⟨QY (G6 HGF),hB2.drew⟩
    .go_wp2_with fail;refine(CS _).mono ?_;rintro e w2 ⟨rfl,hb2⟩;have hB2:B0 w w2:=(G6 hB).1.trans (LJ hb2|>.mono (G6 hB).1.size);clear CS hb2;go_wp2_with fail;go_ret;exact⟨QY (G6 NO k f (G6 HF) (zI (by rw[G6 HL2];omega))).symm,hB2⟩
  .have hkk:k=fs.length:=by omega
   subst hkk;go_wp2_with fail;go_ret;exact⟨QY (G6 YES (G6 hO)).symm,(G6 hB).1⟩
theorem AX8:UN []=true:=MS.2 ⟨by decide,by simp,List.Pairwise.nil⟩
theorem U0(v:FW)(fs:List DF)(w:FV)(hv:IQ w v fs)(hs:lQ fs):
  FX prog 66 #[.agg #[v]] w (R0 w (.bool (UN fs))):=by
 rcases hv with⟨a,cap,rfl,rfl,_⟩|⟨b,off,cap,rfl,_,_,hb,_,hr⟩
 .rw[AX8];exact AI4 a cap w
 .by_cases hl:fs.length<=16
  .exact AI6 b off cap fs w hs hl hb hr
  .rw[BZ3 (by omega)];exact AI5 b off cap fs.length (by omega) w
theorem OL(s:List UInt8)(w:FV)(hs:s.length<=281474976710656):
  FX prog 65 #[S0 s] w (R0 w (S0 s)):=by
 have C:=fun W=>stringslite_Clone ⟨s.toArray⟩ W (show (AQ s.toArray).size<=_ from hs);go_enter func65,ntmps65;go_wp2_with fail;refine(C _).mono ?_;rintro e w1 ⟨rfl,hb1⟩;go_wp2_with fail;go_ret;exact⟨rfl,hb1⟩
theorem AI7:(prog.info? 69).map (fun i=>(i.zero,i.size,i.bytes))=G5 (G5 (.agg #[.string ⟨#[]⟩,.string ⟨#[]⟩,.string ⟨#[]⟩]),3,48):=by kernel_rfl
theorem U1:∃i0,prog.info? 69=G5 i0/\i0.zero=G5 (.agg #[.string ⟨#[]⟩,.string ⟨#[]⟩,.string ⟨#[]⟩])/\i0.size=3/\i0.bytes=48:=by
 obtain⟨i0,h,e⟩:=Option.map_eq_some_iff.1 AI7;simp only[Prod.mk.injEq]at e;exact⟨i0,h,e⟩
theorem jC(a:Addr)(cap:Nat)(fs:List DF)(w:FV)(hl:fs.length<=1000000)(hc:∀j u,(I5 fs)[j]?=G5 u->w.cell? (a.add j)=G5 u):
  FX prog 26 #[FT (G5 a) fs.length cap] w fun e w'=>∃v',e=.returned v'/\XO w' w.heap.size v' fs/\B0 w w':=by
 have q22:∀ (w:FV) (a:Option Addr) (n c n' c':Nat),(binOp .eql 49 (FT a n c) (FT FZ n' c')).run prog w=.ok (.bool a.isNone) w:=fun w a n c n' c'=>EO w _ _ a n c n' c' underlying49;have H:Hid (∀j u,(I5 fs)[j]?=G5 u->w.cell? (a.add j)=G5 u):=hc;clear hc;obtain⟨i0,hi0,hz0,hz1,hz2⟩:=U1;go_enter func26,ntmps26;go_wp2_with (at_builtin;refine wpList_append_own _ rfl _ _ 49 rfl w.heap.size 69 i0 _ 3 48 underlying49 hi0 hz0 hz1 hz2 rfl (by decide) _ _ _ rfl (World.ownsRow_made w #[] 0 (A8 _) (AY _) (by simp)) a fs.length cap (I5 fs) rfl ?qc1 ?qc2 ?qc3 ?qc4 ?qc5 ?qc6 ?_)
 case qc1=>exact GZ fs
 case qc2=>
  intro j u hj;exact Lib.cell?_alloc_some _ (H.out j u hj)
 case qc3=>exact XM fs
 case qc4=>simp only[maxLen];omega
 case qc5=>omega
 case qc6=>simp
 intro v' w1 hown hgrow hnil
 go_wp2
 go_ret;refine⟨v',rfl,XO.L9 (by simpa using hown),?_⟩;exact((AA _ w).alloc (A8 _) _).grown hgrow (by simp) (by intro k hk;simp[Value.ownBlock]at hk;omega)
theorem AI8(n c:Nat)(w:FV):
  FX prog 26 #[FT FZ n c] w fun e w'=>e=.returned (N0)/\w'=w:=by
 have q22:∀ (w:FV) (a:Option Addr) (n c n' c':Nat),(binOp .eql 49 (FT a n c) (FT FZ n' c')).run prog w=.ok (.bool a.isNone) w:=fun w a n c n' c'=>EO w _ _ a n c n' c' underlying49;go_enter func26,ntmps26
 go_wp2
 go_ret;exact⟨rfl,rfl⟩
theorem AI9(v:FW)(fs:List DF)(w:FV)(hv:IQ w v fs)(hl:fs.length<=1000000):
  FX prog 26 #[v] w fun e w'=>∃v',e=.returned v'/\XO w' w.heap.size v' fs/\B0 w w':=by
 rcases hv with⟨a,cap,rfl,rfl,_⟩|⟨b,off,cap,rfl,_,_,hb,_,hr⟩
 .cases a with
  |none=>exact(AI8 0 cap w).mono fun e w' ⟨he,hw⟩=>⟨_,he,.inl ⟨rfl,rfl⟩,by rw[hw];exact AA _ _⟩
  |some a=>exact jC a cap [] w (by simp) (fun j u h=>by simp[I5]at h)
 .exact jC ⟨b,off,FZ⟩ cap fs w hl (fun j u h=>by rw[BJ];exact hr j u h)
theorem pW{a:Addr}(h:w.cell? a=G5 v):w.setCell a v=w:=by
 obtain⟨heap,tape,drawn,os,output⟩:=w;simp only[World.setCell,World.cell?]at*
 congr 1
 apply Array.ext_getElem?
 intro k;rw[Array.getElem?_modify];by_cases hk:a.block=k
 .subst hk;simp only[if_true]
  cases ho:heap[a.block]? with
  |none=>rfl
  |some o=>
   rw[ho]at h
   cases o with
   |cells c e fz=>
    simp only at h;by_cases hs:a.spot.isSome=true
    .simp[hs]at h
    .simp only[hs]at h;simp[hs];have hlt:a.off<c.size:=(AB.1 (by simpa using h)).1;have hv:c[a.off]=v:=(AB.1 (by simpa using h)).2;rw[<-hv];simp[Array.setIfInBounds,hlt]
   |_=>simp at h
 .simp[hk]
theorem PV(h:B0 w W)(h':B0 W V):B0 w V:=h.trans (h'.mono h.size)
theorem RY(v:FW)(fs:List DF)(w:FV)(hv:IQ w v fs)(hs:lQ fs)(hl:fs.length<=16):
  FX prog 70 #[.agg #[v]] w fun e w'=>∃v',e=.returned (.agg #[v'])/\XO w' w.heap.size v' fs/\B0 w w':=by
 have V:∃a n c,v=FT a n c:=by
  rcases hv with⟨a,cap,rfl,_,_⟩|⟨b,off,cap,rfl,_⟩
  .exact⟨_,_,_,rfl⟩
  .exact⟨_,_,_,rfl⟩
 have HV:=G7 hv;have HS:=G7 hs;obtain⟨a,n,c,rfl⟩:=V;clear hv hs;go_enter func70,ntmps70;go_wp2_with fail;refine(AI9 _ fs _ ((G6 HV).next (((AA _ _).alloc (A8 _) _).alloc (by simp) _)) (by omega)).mono ?_;rintro e w1 ⟨v',rfl,ho,hb1⟩;have hB1:B0 w w1:=LJ (LJ hb1);have c1:w1.cell? ⟨w.heap.size+1,0,FZ⟩=G5 (N0):=by
  rw[hb1.cell (p:=⟨w.heap.size+1,0,FZ⟩) (by simp)];simp
 have f1:w1.frozen? ⟨w.heap.size+1,0,FZ⟩=false:=by
  rw[hb1.frozen (p:=⟨w.heap.size+1,0,FZ⟩) (by simp)];simp
 have hz:w.heap.size+1<w1.heap.size:=by have:=hb1.size;simp at this;omega
 have hs2:((w.alloc (Obj.cells #[Value.slice a n c] 51)).alloc (Obj.cells #[N0] 51)).heap.size=w.heap.size+2:=by simp
 rw[hs2]at ho;clear hb1 hs2;rcases ho with⟨rfl,rfl⟩|⟨g,cap,rfl,hg,ho⟩
 .go_wp2_with fail
  go_loopg [11] 1 (fun _ s wr=>s=I0 0/\wr=w1)
  case atStart=>exact⟨rfl,rfl⟩
  case round=>
   obtain⟨rfl,rfl⟩:=hrel;go_wp2_with fail;exact bodyPost_ret (v:=.agg #[N0]) (by simp[results,results70,go_sem,c1]) rfl ⟨_,rfl,.inl ⟨rfl,rfl⟩,hB1.setCell (by simp) _⟩
 .have HO:=G7 ho;have hgl:=ho.lt;clear ho;go_wp2_with fail
  go_loopg [11] fs.length (fun kx s wr=>∃k:Nat,s=I0 k/\k<=fs.length/\fs.length-k<=kx/\Hid (B0 w1 wr))
  case atStart=>exact⟨0,rfl,AY _,by omega,G7 (AA _ _)⟩
  case round=>
   obtain⟨k,rfl,hk,hkx,hB⟩:=hrel;by_cases hlt:k<fs.length
   .obtain⟨f,hf⟩:∃f,fs[k]?=G5 f:=⟨_,AL hlt⟩;have o:=(G6 HO).next (G6 hB);have QM:=o.lt;have e0:=o.c0 hf;have e1:=o.c1 hf;have e2:=o.c2 hf;have f0:=o.frozen (k*3);have f1:=o.frozen (k*3+1);have f2:=o.frozen (k*3+2);have hsl:=G6 HS f (AZ hf);clear hf o;obtain⟨fn,fss,ft⟩:=f;have k0:=fun W=>OL fn W (by have:=hsl.1;simp at this;omega);have k1:=fun W=>OL fss W (by have:=hsl.2.1;simp at this;omega);have k2:=fun W=>OL ft W (by have:=hsl.2.2;simp at this;omega);simp only at e0 e1 e2;clear hsl;go_wp2_with fail;have d0:∀d os,(Sort.grow (redrawn wr d) os).cell? ⟨g,k*3,FZ⟩=G5 (S0 fn):=fun d os=>cell_regrown e0 d os;have d1:∀d os,(Sort.grow (redrawn wr d) os).cell? ⟨g,k*3+1,FZ⟩=G5 (S0 fss):=fun d os=>cell_regrown e1 d os;have d2:∀d os,(Sort.grow (redrawn wr d) os).cell? ⟨g,k*3+2,FZ⟩=G5 (S0 ft):=fun d os=>cell_regrown e2 d os;have g0:∀d os,(Sort.grow (redrawn wr d) os).frozen? ⟨g,k*3,FZ⟩=false:=fun d os=>by rw[(below_regrown wr d os).frozen (p:=⟨g,k*3,FZ⟩) QM];exact f0
    have g1:∀d os,(Sort.grow (redrawn wr d) os).frozen? ⟨g,k*3+1,FZ⟩=false:=fun d os=>by rw[(below_regrown wr d os).frozen (p:=⟨g,k*3+1,FZ⟩) QM];exact f1
    have g2:∀d os,(Sort.grow (redrawn wr d) os).frozen? ⟨g,k*3+2,FZ⟩=false:=fun d os=>by rw[(below_regrown wr d os).frozen (p:=⟨g,k*3+2,FZ⟩) QM];exact f2
    have s0:∀d os,(Sort.grow (redrawn wr d) os).setCell ⟨g,k*3,FZ⟩ (S0 fn)=Sort.grow (redrawn wr d) os:=fun d os=>pW (d0 d os);have s1:∀d os,(Sort.grow (redrawn wr d) os).setCell ⟨g,k*3+1,FZ⟩ (S0 fss)=Sort.grow (redrawn wr d) os:=fun d os=>pW (d1 d os);have s2:∀d os,(Sort.grow (redrawn wr d) os).setCell ⟨g,k*3+2,FZ⟩ (S0 ft)=Sort.grow (redrawn wr d) os:=fun d os=>pW (d2 d os);have c0:=fun d os=>Calls.regrown_of (w:=wr) (d:=d) (os:=os) (k0 _);have c1':=fun d os=>Calls.regrown_of (w:=wr) (d:=d) (os:=os) (k1 _);have c2:=fun d os=>Calls.regrown_of (w:=wr) (d:=d) (os:=os) (k2 _);clear k0 k1 k2 e0 e1 e2 f0 f1 f2;refine wp_region_quiet_below (by kernel_rfl) (by kernel_rfl) ?_
    repeat (first|go_big_quiet_step (first|with_reducible exact c0 _ _|with_reducible exact c1' _ _|with_reducible exact c2 _ _)|quiet_step (first|with_reducible exact c0 _ _|with_reducible exact c1' _ _|with_reducible exact c2 _ _))
    refine wpQuiet_nil ?_;intro _ hw';obtain⟨⟨dq,osq⟩,hw''⟩:=hw';subst hw'';have hb2:=PV (G6 hB) (below_regrown wr dq osq);clear c0 c1' c2 s0 s1 s2 d0 d1 d2 g0 g1 g2;go_wp2_with fail
    go_roundg (fs.length-(k+1))
    case measure=>omega
    case rel=>exact⟨k+1,rfl,by omega,A8 _,G7 hb2⟩
   .have c2:wr.cell? ⟨w.heap.size+1,0,FZ⟩=G5 (N0):=by
     rw[(G6 hB).cell (p:=⟨w.heap.size+1,0,FZ⟩) hz];exact c1
    have f2:wr.frozen? ⟨w.heap.size+1,0,FZ⟩=false:=by
     rw[(G6 hB).frozen (p:=⟨w.heap.size+1,0,FZ⟩) hz];exact f1
    have hgw:g≠w.heap.size+1:=by omega
    go_wp2_with fail;exact bodyPost_ret (v:=.agg #[FT (G5 ⟨g,0,FZ⟩) fs.length cap]) (by simp[results,results70,go_sem,c2]) rfl
     ⟨_,rfl,.inr ⟨g,cap,rfl,by omega,((G6 HO).next (G6 hB)).other hgw _⟩,(PV hB1 (G6 hB)).setCell (by simp) _⟩
theorem WH{j:Nat}(v:FW):w.grownBy (w.setCell ⟨g,j,FZ⟩ v) (G5 g):=⟨rfl,rfl,rfl,by simp[World.setCell],fun k _ hne=>Below.heap_setCell w ⟨g,j,FZ⟩ v k (fun e=>hne (by rw[e]))⟩
theorem AJ0{r:Option Nat}(h:w.grownBy w' r):w.grownBy w'.drew r:=⟨h.os,h.tape,h.output,h.size,h.block⟩
theorem SA{w'':FV}(h:w.grownBy w' (G5 g))(h':w'.grownBy w'' (G5 g)):w.grownBy w'' (G5 g):=
 ⟨h'.os.trans h.os,h'.tape.trans h.tape,h'.output.trans h.output,BN h.size h'.size,fun k hk hne=>(h'.block k (AX hk h.size) hne).trans (h.block k hk hne)⟩
theorem uN(h:B0 w w'):w.grownBy w' (G5 g):=⟨h.os,h.tape,h.output,h.size,fun k hk _=>h.block k hk⟩
theorem pX(l m:List UInt8):(AQ l.toArray)++(AQ m.toArray)=⟨(l++m).toArray⟩:=by
 have h:((AQ l.toArray)++(AQ m.toArray)).data.toList=l++m:=by simp[ByteArray.data_append]
 exact congrArg (fun l:List UInt8=>AQ l.toArray) h
theorem AX9(l:List UInt8)(d:Nat):(AQ l.toArray).extract 0 d=⟨(l.take d).toArray⟩:=by
 apply ByteArray.ext
 apply Array.toList_inj.1
 have h:=Lib.extract_toList (AQ l.toArray) 0 d;rw[Lib.toList_data]at h;refine h.trans ?_;show (l.drop 0).take (d-0)=_;simp
theorem dB(g cap k:Nat)(fs:List DF)(f:DF)(n:Nat)(w:FV)(ho:Own w g cap fs)(hk:fs[k]?=G5 f)(hn:n<=f.s.length+f.t.length)(hf:f.s.length+f.t.length<=1048576):
  FX prog 75 #[.pointer (G5 ⟨g,k*3,FZ⟩),I0 n] w fun e w'=>
   e=.returned (.tuple #[])/\Own w' g cap (fs.set k ⟨f.n,(f.s++f.t).take n,[]⟩)/\w.grownBy w' (G5 g):=by
 have e1:=ho.c1 hk;have e2:=ho.c2 hk;have f1:=ho.frozen (k*3+1);have f2:=ho.frozen (k*3+2);have HO:=G7 ho;have HK:=G7 hk;clear ho hk;obtain⟨fn,fss,ft⟩:=f;simp only at*;have hn1:(n:Int)<=(fss.length:Int)+(ft.length:Int):=by omega
 go_enter func75,ntmps75;go_wp2_with fail;go_region;go_wp2_with fail
 go_end0
 refine⟨rfl,?_,?_⟩
 .rw[pX,AX9];have h1:=(G6 HO).s1 (G6 HK) ((fss++ft).take n);have h2:=h1.s2 (f:=⟨fn,(fss++ft).take n,ft⟩) (by rw[List.getElem?_set_self (AU.1 (G6 HK)).1]) [];rw[List.set_set]at h2;exact h2
 .exact AJ0 (SA (WH _) (WH _))
theorem nC(g cap k:Nat)(fs:List DF)(f:DF)(x:List UInt8)(w:FV)(ho:Own w g cap fs)(hk:fs[k]?=G5 f)(hx:x.length<=1048576)(hf:f.t.length<=1048576):
  FX prog 72 #[.pointer (G5 ⟨g,k*3,FZ⟩),S0 x] w fun e w'=>
   e=.returned (.tuple #[])/\Own w' g cap (fs.set k ⟨f.n,f.s,f.t++x⟩)/\w.grownBy w' (G5 g):=by
 have e2:=ho.c2 hk;have f2:=ho.frozen (k*3+2);have HO:=G7 ho;have HK:=G7 hk;have hg:=ho.lt;clear ho hk;obtain⟨fn,fss,ft⟩:=f;simp only at*;have C:=fun W=>OL x W (by omega);have hlen:¬9223372036854775807<ft.length+x.length:=by omega
 go_enter func72,ntmps72;go_wp2_with fail
 go_region_with (first|(go_at_call 65;refine(C _).mono ?_;rintro e w1 ⟨rfl,hb1⟩;have e3:w1.cell? ⟨g,k*3+2,FZ⟩=G5 (S0 ft):=(hb1.cell (p:=⟨g,k*3+2,FZ⟩) hg).trans e2;have f3:w1.frozen? ⟨g,k*3+2,FZ⟩=false:=(hb1.frozen (p:=⟨g,k*3+2,FZ⟩) hg).trans f2))
 all_goals go_wp2_with fail
 all_goals
  have hb:B0 w w1:=((AA _ w).drew).trans hb1
  go_end0
  refine⟨rfl,?_,SA (uN hb) (WH _)⟩;rw[pX];exact((G6 HO).next hb).s2 (G6 HK) (ft++x)
theorem QA{t:TypeId}{fz:Nat×Nat}:∀ (vs:List FW) (o:Nat) (w:FV) (l:List FW),w.heap[g]?=G5 (FU l.toArray t fz)->o+vs.length<=l.length->
  (w.setCells g o vs).heap[g]?=G5 (FU (l.take o++vs++l.drop (o+vs.length)).toArray t fz)
 |[],o,w,l,h,_=>by simpa [World.setCells]using h
 |v::r,o,w,l,h,hl=>by
  have h1:(w.setCell ⟨g,o,FZ⟩ v).heap[g]?=G5 (FU (l.set o v).toArray t fz):=by rw[GU v h];simp
  rw[World.setCells,QA r (o+1) _ _ h1 (by simp at hl⊢;omega)];have ho:o<l.length:=by simp at hl;omega
  have e1:(l.set o v).take (o+1)=l.take o++[v]:=by
   rw[List.take_set,List.take_succ_eq_append_getElem ho,List.set_append_right _ _ (by simp;omega)];simp[Nat.min_eq_left (Nat.le_of_lt ho)]
  have e2:(l.set o v).drop (o+1+r.length)=l.drop (o+(r.length+1)):=by
   rw[List.drop_set_of_lt (by omega)];congr 1;omega
  rw[e1,e2];simp
theorem LU:∀ (vs:List FW) (o:Nat) (w:FV),w.grownBy (w.setCells g o vs) (G5 g)
 |[],_,_=>⟨rfl,rfl,rfl,A8 _,fun _ _ _=>rfl⟩
 |v::r,o,_=>SA (WH v) (LU r (o+1) _)
theorem Own.splice{pre tl:List DF}(h:Own W g cap (pre++tl))(new:List DF)(hfit:pre.length+new.length<=cap):Own (W.setCells g (pre.length*3) (I5 new)) g cap (pre++new):=by
 obtain⟨rest,h1,h2,h3⟩:=h;have hlen:(I5 (pre++tl)++rest).length=cap*3:=by rw[AO,GZ];exact h2
 refine⟨(I5 (pre++tl)++rest).drop (pre.length*3+(I5 new).length),?_,?_,h3⟩
 .rw[QA (I5 new) (pre.length*3) W _ h1 (by rw[hlen,GZ];omega),JO pre new]
  congr 3
  have e:I5 (pre++tl)++rest=I5 pre++(I5 tl++rest):=by rw[JO,BR]
  rw[e,<-GZ pre,List.take_left]
 .rw[List.length_drop,hlen,GZ,AO];omega
theorem Own.spare(h:Own W g cap fs)(vs:List FW)(o:Nat)(ho:fs.length*3<=o)(hfit:o+vs.length<=cap*3):Own (W.setCells g o vs) g cap fs:=by
 obtain⟨rest,h1,h2,h3⟩:=h;have hlen:(I5 fs++rest).length=cap*3:=by rw[AO,GZ];exact h2
 have hc:=GZ fs;refine⟨rest.take (o-fs.length*3)++vs++(I5 fs++rest).drop (o+vs.length),?_,?_,h3⟩
 .rw[QA vs o W _ h1 (by rw[hlen];omega)]
  congr 2
  rw[List.take_append,BM (by omega),hc];simp only[BR]
 .simp only[AO,List.length_take,List.length_drop,hc];omega
theorem Own.uI{A B:List DF}{y:DF}(h:Own W g cap (A++y::B))(x:DF):Own (W.setCells g (A.length*3) (JC x)) g cap (A++x::B):=by
 obtain⟨rest,h1,h2,h3⟩:=h;have hlen:(I5 (A++y::B)++rest).length=cap*3:=by rw[AO,GZ];exact h2
 refine⟨rest,?_,by simpa using h2,h3⟩;have hA:=GZ A;rw[QA (JC x) (A.length*3) W _ h1 (by rw[hlen];simp[JC]at h2⊢;omega)];have e:I5 (A++y::B)++rest=I5 A++(JC y++(I5 B++rest)):=by simp[JO,I5]
 have e':I5 (A++x::B)++rest=I5 A++(JC x++(I5 B++rest)):=by simp[JO,I5]
 rw[e,e'];have hx3:(JC x).length=3:=rfl;have hy3:(JC y).length=3:=rfl
 congr 2
 rw[hx3,<-hA,List.take_left,show (I5 A).length+3=(I5 A++JC y).length by rw[AO,hy3],<-BR (I5 A) (JC y),List.drop_left,BR]
def AY0(fs:List DF)(name:List UInt8)(E:Int):Prop:=(UN fs=false/\E=3)\/(LP fs/\(∃A B,Gap fs A B name)/\E=7)
theorem jD(fs:List DF)(name:List UInt8):(∃E,AY0 fs name E)\/(LP fs/\∃A f B,There fs A f B name):=by
 cases hg:UN fs with
 |false=>exact .inl ⟨3,.inl ⟨hg,rfl⟩⟩
 |true=>
  have g:=MS.1 hg;rcases A66 name fs g.asc with h|h
  .exact .inr ⟨g,h⟩
  .exact .inl ⟨7,.inr ⟨g,h,rfl⟩⟩
theorem IW(hv:IQ w v fs):∃a n c,v=FT a n c:=by
 rcases hv with⟨a,cap,rfl,_,_⟩|⟨b,off,cap,rfl,_⟩
 .exact⟨_,_,_,rfl⟩
 .exact⟨_,_,_,rfl⟩
theorem jE(v:FW)(fs:List DF)(name:List UInt8)(E:Int)(w:FV)(hv:IQ w v fs)(hs:lQ fs)(h:AY0 fs name E):
  FX prog 64 #[.agg #[v],.string ⟨name.toArray⟩] w fun e w'=>e=.returned (.tuple #[.int .i64 0,.int .i64 E])/\Below w.heap.size w w':=by
 obtain⟨a,n,c,rfl⟩:=IW hv;have HV:=G7 hv;have CG:=fun W (h:Below w.heap.size w W)=>U0 _ fs W (hv.next h) hs;rcases h with⟨hg,rfl⟩|⟨g,⟨A,B,G⟩,rfl⟩
 .rw[hg]at CG;clear hg hv hs;go_enter func64,ntmps64;go_wp2_with fail;refine(CG _ ((AA _ _).alloc (A8 _) _)).mono ?_;rintro e w1 ⟨rfl,hb1⟩;have hbz:=LJ hb1;clear CG;go_wp2_with fail
  go_ret2
  exact⟨rfl,hbz⟩
 .rw[MS.2 g]at CG;have CF:=fun W (h:Below w.heap.size w W)=>A88 _ fs A B name W (hv.next h) g.few G;clear hv hs g G;go_enter func64,ntmps64;go_wp2_with fail;refine(CG _ ((AA _ _).alloc (A8 _) _)).mono ?_;rintro e w1 ⟨rfl,hb1⟩;have hbz:=LJ hb1;have c1:w1.cell? ⟨w.heap.size,0,FZ⟩=G5 (FT a n c):=by rw[hb1.cell (p:=⟨w.heap.size,0,FZ⟩) (by simp)];simp
  clear CG hb1;go_wp2_with fail;refine(CF _ hbz).mono ?_;rintro e w2 ⟨rfl,hb2⟩;have hbx:=PV hbz hb2;clear CF;go_wp2_with fail
  go_ret2
  exact⟨rfl,hbx⟩
theorem TD(v:FW)(fs A B:List DF)(f:DF)(name:List UInt8)(w:FV)(hv:IQ w v fs)(hs:lQ fs)(g:LP fs)(T:There fs A f B name):
  FX prog 64 #[.agg #[v],.string ⟨name.toArray⟩] w fun e w'=>e=.returned (.tuple #[.int .i64 A.length,.int .i64 0])/\Below w.heap.size w w':=by
 obtain⟨a,n,c,rfl⟩:=IW hv;have CG:=fun W (h:Below w.heap.size w W)=>U0 _ fs W (hv.next h) hs;rw[MS.2 g]at CG;have CF:=fun W (h:Below w.heap.size w W)=>mZ _ fs A B f name W (hv.next h) g.few T;clear hv hs g T;go_enter func64,ntmps64;go_wp2_with fail;refine(CG _ ((AA _ _).alloc (A8 _) _)).mono ?_;rintro e w1 ⟨rfl,hb1⟩;have hbz:=LJ hb1;have c1:w1.cell? ⟨w.heap.size,0,FZ⟩=G5 (FT a n c):=by rw[hb1.cell (p:=⟨w.heap.size,0,FZ⟩) (by simp)];simp
 clear CG hb1;go_wp2_with fail;refine(CF _ hbz).mono ?_;rintro e w2 ⟨rfl,hb2⟩;have hbx:=PV hbz hb2;clear CF;go_wp2_with fail
 go_ret2
 exact⟨rfl,hbx⟩
theorem WI{A B:List DF}{name:List UInt8}(hv:IQ w v fs)(T:There fs A f B name):
  ∃b off cap,v=FT (G5 ⟨b,off,FZ⟩) fs.length cap/\b<w.heap.size/\IC w b off (I5 fs)/\fs[A.length]?=G5 f/\A.length<fs.length:=by
 have hk:fs[A.length]?=G5 f:=by rw[T.eq];simp
 rcases hv with⟨a,cap,rfl,rfl,_⟩|⟨b,off,cap,rfl,_,_,hb,_,hr⟩
 .simp at hk
 .exact⟨b,off,cap,rfl,hb,hr,hk,(AU.1 hk).1⟩
theorem zJ(v:FW)(fs:List DF)(name:List UInt8)(E:Int)(w:FV)(hv:IQ w v fs)(hs:lQ fs)(h:AY0 fs name E):
  FX prog 42 #[.agg #[v],.string ⟨name.toArray⟩] w fun e w'=>e=.returned (.tuple #[.string ⟨#[]⟩,.int .i64 E])/\Below w.heap.size w w':=by
 obtain⟨a,n,c,rfl⟩:=IW hv;have C:=fun W (hW:Below w.heap.size w W)=>jE _ fs name E W (hv.next hW) hs h;have hne:(E !=0)=true:=by rcases h with⟨_,rfl⟩|⟨_,_,rfl⟩<;>decide
 clear hv hs h;go_enter func42,ntmps42;go_wp2_with fail;refine(C _ ((AA _ _).alloc (A8 _) _)).mono ?_;rintro e w1 ⟨rfl,hb1⟩;have hbz:=LJ hb1;clear C;go_wp2_with fail
 go_ret2
 exact⟨rfl,hbz⟩
theorem nD(v:FW)(fs A B:List DF)(f:DF)(name:List UInt8)(w:FV)(hv:IQ w v fs)(hs:lQ fs)(g:LP fs)(T:There fs A f B name):
  FX prog 42 #[.agg #[v],.string ⟨name.toArray⟩] w fun e w'=>e=.returned (.tuple #[.string ⟨(f.s++f.t).toArray⟩,.int .i64 0])/\Below w.heap.size w w':=by
 have C:=fun W (hW:Below w.heap.size w W)=>TD _ fs A B f name W (hv.next hW) hs g T;obtain⟨b,off,cap,rfl,hb,hr,hk,hlt⟩:=WI hv T;have hfl:=NI (T.ok g);have HR:=G7 hr;have HK:=G7 hk;have hb0:b≠w.heap.size:=by omega
 have C16:(A.length:Int)<(fs.length:Int):=by omega
 clear hv hs g T hr hk;go_enter func42,ntmps42;go_wp2_with fail;refine(C _ ((AA _ _).alloc (A8 _) _)).mono ?_;rintro e w1 ⟨rfl,hb1⟩;have hbz:=LJ hb1;have c1:w1.cell? ⟨w.heap.size,0,FZ⟩=G5 (FT (G5 ⟨b,off,FZ⟩) fs.length cap):=by rw[hb1.cell (p:=⟨w.heap.size,0,FZ⟩) (by simp)];simp
 have r:=(G6 HR).kept hbz hb;have e0:=r.c0 (G6 HK);have e1:=r.c1 (G6 HK);have e2:=r.c2 (G6 HK);obtain⟨fn,fss,ft⟩:=f;simp only at*;have k1:=fun W=>OL fss W (by omega);have k2:=fun W=>OL ft W (by omega);have hlen:¬9223372036854775807<fss.length+ft.length:=by omega
 clear C hb1 r;go_wp2_with fail;have a1:(w1.alloc (Obj.cells #[Value.string ⟨fn.toArray⟩,Value.string ⟨fss.toArray⟩,Value.string ⟨ft.toArray⟩] 69)).cell? ⟨w1.heap.size,1,FZ⟩=G5 (.string ⟨fss.toArray⟩):=by simp
 have a2:(w1.alloc (Obj.cells #[Value.string ⟨fn.toArray⟩,Value.string ⟨fss.toArray⟩,Value.string ⟨ft.toArray⟩] 69)).cell? ⟨w1.heap.size,2,FZ⟩=G5 (.string ⟨ft.toArray⟩):=by simp
 have hbw:=hbz.alloc hbz.size (Obj.cells #[Value.string ⟨fn.toArray⟩,Value.string ⟨fss.toArray⟩,Value.string ⟨ft.toArray⟩] 69);generalize w1.alloc (Obj.cells #[Value.string ⟨fn.toArray⟩,Value.string ⟨fss.toArray⟩,Value.string ⟨ft.toArray⟩] 69)=W at a1 a2 hbw⊢;have d1:∀d os,(Sort.grow (redrawn W d) os).cell? ⟨w1.heap.size,1,FZ⟩=G5 (.string ⟨fss.toArray⟩):=fun d os=>cell_regrown a1 d os;have d2:∀d os,(Sort.grow (redrawn W d) os).cell? ⟨w1.heap.size,2,FZ⟩=G5 (.string ⟨ft.toArray⟩):=fun d os=>cell_regrown a2 d os;have c1':=fun d os=>Calls.regrown_of (w:=W) (d:=d) (os:=os) (k1 _);have c2:=fun d os=>Calls.regrown_of (w:=W) (d:=d) (os:=os) (k2 _);clear k1 k2 a1 a2 e0 e1 e2 c1;refine wp_region_quiet_below (by kernel_rfl) (by kernel_rfl) ?_
 repeat (first|go_big_quiet_step (first|with_reducible exact c1' _ _|with_reducible exact c2 _ _)|quiet_step (first|with_reducible exact c1' _ _|with_reducible exact c2 _ _))
 refine wpQuiet_nil ?_;intro _ hw';obtain⟨⟨dq,osq⟩,hw''⟩:=hw';subst hw'';have hb2:=PV hbw (below_regrown W dq osq);clear c1' c2 d1 d2;go_wp2_with fail
 go_ret2
 exact⟨by rw[<-pX];rfl,hb2⟩
structure PG(w W:FV)(v:FW):Prop where
 below:B0 w W
 size:w.heap.size+2<=W.heap.size
 cd:W.cell? ⟨w.heap.size,0,FZ⟩=G5 v
 cr:W.cell? ⟨w.heap.size+1,0,FZ⟩=G5 (N0)
 fr:W.frozen? ⟨w.heap.size+1,0,FZ⟩=false
theorem PG.next(h:PG w W v)(hb:B0 W V):PG w V v:=
 ⟨PV h.below hb,BN h.size hb.size,by rw[hb.cell (p:=⟨w.heap.size,0,FZ⟩) (by have:=h.size;show w.heap.size<_;omega)];exact h.cd,
  by rw[hb.cell (p:=⟨w.heap.size+1,0,FZ⟩) (by have:=h.size;show w.heap.size+1<_;omega)];exact h.cr,by rw[hb.frozen (p:=⟨w.heap.size+1,0,FZ⟩) (by have:=h.size;show w.heap.size+1<_;omega)];exact h.fr⟩
theorem PG.grown(h:PG w W v)(hg:W.grownBy V (G5 g))(hl:w.heap.size+2<=g):PG w V v:=by
 have hs:=h.size;have b0:V.heap[w.heap.size]?=W.heap[w.heap.size]? :=hg.block _ (by omega) (fun e=>by cases e;omega);have b1:V.heap[w.heap.size+1]?=W.heap[w.heap.size+1]? :=hg.block _ (by omega) (fun e=>by cases e;omega);exact⟨h.below.grown hg (by omega) (fun k e=>by cases e;omega),BN h.size hg.size,(World.cell?_of_block b0).trans h.cd,(World.cell?_of_block b1).trans h.cr,(World.frozen?_of_block b1).trans h.fr⟩
theorem PG.start(w:FV)(v:FW)(t t':TypeId):PG w ((w.alloc (FU #[v] t)).alloc (FU #[N0] t')) v:=
 ⟨((AA _ _).alloc (A8 _) _).alloc (by simp) _,by simp,by simp,by simp,by simp⟩
theorem PG.alloc(h:PG w W v)(o:Obj):PG w (W.alloc o) v:=h.next ((AA _ _).alloc (A8 _) o)
theorem U4(h:Below W.drew.heap.size W.drew V):B0 W V:=((AA _ W).drew).trans h
theorem CS8(v:FW)(fs:List DF)(name:List UInt8)(E:Int)(w:FV)(hv:IQ w v fs)(hs:lQ fs)(h:AY0 fs name E):
  FX prog 145 #[.agg #[v],S0 name] w (R0 w (.tuple #[.agg #[N0],I0 E])):=by
 obtain⟨a,n0,c,rfl⟩:=IW hv;have C:=fun W (hW:B0 w W)=>jE _ fs name E W (hv.next hW) hs h;have hne:(E !=0)=true:=by rcases h with⟨_,rfl⟩|⟨_,_,rfl⟩<;>decide
 clear hv hs h;go_enter func145,ntmps145;go_wp2_with fail;refine(C _ (((AA _ _).alloc (A8 _) _).alloc (by simp) _)).mono ?_;rintro e w1 ⟨rfl,hb1⟩;have hbz:=LJ (LJ hb1);have c1:w1.cell? ⟨w.heap.size+1,0,FZ⟩=G5 (N0):=by rw[hb1.cell (p:=⟨w.heap.size+1,0,FZ⟩) (by simp)];simp
 have f1:w1.frozen? ⟨w.heap.size+1,0,FZ⟩=false:=by rw[hb1.frozen (p:=⟨w.heap.size+1,0,FZ⟩) (by simp)];simp
 clear C hb1;go_wp2_with fail;exact bodyPost_ret (v:=.tuple #[.agg #[N0],I0 E]) (by simp[results,results145,go_sem,c1]) rfl ⟨rfl,hbz.setCell (by simp) _⟩
theorem AY1(v:FW)(fs:List DF)(name:List UInt8)(E:Int)(w:FV)(hv:IQ w v fs)(hs:lQ fs)(h:AY0 fs name E):
  FX prog 144 #[.agg #[v],S0 name] w (R0 w (.tuple #[.agg #[N0],I0 E])):=by
 obtain⟨a,n0,c,rfl⟩:=IW hv;have C:=fun W (hW:B0 w W)=>jE _ fs name E W (hv.next hW) hs h;have hne:(E !=0)=true:=by rcases h with⟨_,rfl⟩|⟨_,_,rfl⟩<;>decide
 clear hv hs h;go_enter func144,ntmps144;go_wp2_with fail;refine(C _ (((AA _ _).alloc (A8 _) _).alloc (by simp) _)).mono ?_;rintro e w1 ⟨rfl,hb1⟩;have hbz:=LJ (LJ hb1);have c1:w1.cell? ⟨w.heap.size+1,0,FZ⟩=G5 (N0):=by rw[hb1.cell (p:=⟨w.heap.size+1,0,FZ⟩) (by simp)];simp
 have f1:w1.frozen? ⟨w.heap.size+1,0,FZ⟩=false:=by rw[hb1.frozen (p:=⟨w.heap.size+1,0,FZ⟩) (by simp)];simp
 clear C hb1;go_wp2_with fail;exact bodyPost_ret (v:=.tuple #[.agg #[N0],I0 E]) (by simp[results,results144,go_sem,c1]) rfl ⟨rfl,hbz.setCell (by simp) _⟩
theorem XP{B:Nat}(h:XO W B v fs){k:Nat}(hk:k<fs.length):∃g cap,v=FT (G5 ⟨g,0,FZ⟩) fs.length cap/\B<=g/\Own W g cap fs:=by
 rcases h with⟨rfl,rfl⟩|h
 .simp at hk
 .exact h
theorem XQ(v:FW)(fs A B:List DF)(f:DF)(name:List UInt8)(w:FV)(hv:IQ w v fs)(hs:lQ fs)(g:LP fs)(T:There fs A f B name):
  FX prog 145 #[.agg #[v],S0 name] w fun e w'=>∃v',e=.returned (.tuple #[.agg #[v'],I0 0])/\XO w' w.heap.size v' (A++⟨f.n,f.s++f.t,[]⟩::B)/\B0 w w':=by
 have C:=fun W (hW:B0 w W)=>TD _ fs A B f name W (hv.next hW) hs g T;have CC:=fun W (hW:B0 w W)=>RY _ fs W (hv.next hW) hs g.few;obtain⟨b,off,cap,rfl,hb,hr,hk,hlt⟩:=WI hv T;have hfl:=NI (T.ok g);have HR:=G7 hr;have HK:=G7 hk;have HT:=G7 T.eq;have hb0:b≠w.heap.size:=by omega
 have C16:(A.length:Int)<(fs.length:Int):=by omega
 have CS:=fun W=>aA f W (by omega);have CT:=fun(g c:Nat) (W:FV) (ho:Own W g c fs)=>dB g c A.length fs f (f.s.length+f.t.length) W ho hk (by omega) hfl;have hset:fs.set A.length ⟨f.n,(f.s++f.t).take (f.s.length+f.t.length),[]⟩=A++⟨f.n,f.s++f.t,[]⟩::B:=by rw[T.eq];simp[BM]
 have hsl:fs.length=(A++⟨f.n,f.s++f.t,[]⟩::B).length:=by rw[T.eq];simp
 rw[hset]at CT;obtain⟨fs',BV8⟩:∃x,A++⟨f.n,f.s++f.t,[]⟩::B=x:=⟨_,rfl⟩;rw[BV8]at CT hsl⊢;have HSL:=G7 hsl;obtain⟨L,hL⟩:∃L,f.s.length+f.t.length=L:=⟨_,rfl⟩;rw[hL]at CS hfl CT;clear hv hs g T hr hk hset BV8 hsl hL HT;go_enter func145,ntmps145;go_wp2_with fail;have X:=PG.start w (FT (G5 ⟨b,off,FZ⟩) fs.length cap) 51 51;generalize (w.alloc (FU #[FT (G5 ⟨b,off,FZ⟩) fs.length cap] 51)).alloc (FU #[N0] 51)=w0 at*;refine(C _ X.below).mono ?_;rintro e w1 ⟨rfl,hb1⟩;have X1:=X.next hb1;have HX:=G7 X1;have cd:=X1.cd;have r:=(G6 HR).kept X1.below hb;have e0:=r.c0 (G6 HK);have e1:=r.c1 (G6 HK);have e2:=r.c2 (G6 HK);clear C hb1 r X X1;go_wp2_with fail;refine(CC _ (G6 HX).below).mono ?_;rintro e w2 ⟨v',rfl,ho,hb2⟩;obtain⟨g,cap2,rfl,hg,ho⟩:=XP ho hlt;have hgl:=ho.lt;have hg2:w.heap.size+2<=g:=by have:=(G6 HX).size;omega
 have X2:=((G6 HX).next hb2).alloc (FU #[FT (G5 ⟨g,0,FZ⟩) fs.length cap2] 51);have ho2:=ho.alloc (FU #[FT (G5 ⟨g,0,FZ⟩) fs.length cap2] 51);have ca:(w2.alloc (FU #[FT (G5 ⟨g,0,FZ⟩) fs.length cap2] 51)).cell? ⟨w2.heap.size,0,FZ⟩=G5 (FT (G5 ⟨g,0,FZ⟩) fs.length cap2):=by simp
 have haz:w2.heap.size<(w2.alloc (FU #[FT (G5 ⟨g,0,FZ⟩) fs.length cap2] 51)).heap.size:=by simp
 clear CC hb2 ho HX cd e0 e1 e2;go_wp2_with fail;generalize w2.alloc (FU #[FT (G5 ⟨g,0,FZ⟩) fs.length cap2] 51)=W at*;have HX:=G7 X2;have HO:=G7 ho2;have cd:=X2.cd;have r:=(G6 HR).kept X2.below hb;have e0:=r.c0 (G6 HK);have e1:=r.c1 (G6 HK);have e2:=r.c2 (G6 HK);clear r X2 ho2
 go_region_with (first
  |(go_at_call 69;refine(CS _).mono ?_;rintro e w3 ⟨rfl,hb3⟩;have ca3:w3.cell? ⟨w2.heap.size,0,FZ⟩=G5 (FT (G5 ⟨g,0,FZ⟩) fs.length cap2):=(hb3.cell (p:=⟨w2.heap.size,0,FZ⟩) haz).trans ca)
  |(go_at_call 75;refine(CT g cap2 w3 ((G6 HO).next (U4 hb3))).mono ?_;rintro e w4 ⟨rfl,ho4,hg4⟩))
 all_goals
  have X4:=((G6 HX).next (U4 hb3)).grown hg4 hg2;have ca4:w4.cell? ⟨w2.heap.size,0,FZ⟩=G5 (FT (G5 ⟨g,0,FZ⟩) fs.length cap2):=hg4.cell ca3 (fun e=>by have e3:w2.heap.size=g:=BO e;omega);have cr:=X4.cr;have fr:=X4.fr;have HB:=G7 X4.below;have HO4:=G7 ho4;clear X4 ho4 hg4;clear CS CT;go_wp2_with fail;refine bodyPost_ret (v:=.tuple #[.agg #[FT (G5 ⟨g,0,FZ⟩) fs.length cap2],I0 0]) (by simp[results,results145,go_sem,cr]) rfl ⟨_,rfl,.inr ⟨g,cap2,by rw[G6 HSL],by omega,(G6 HO4).other (by show g≠w.heap.size+1;omega) _⟩,(G6 HB).setCell (by simp) _⟩
theorem uO(v:FW)(fs A B:List DF)(f:DF)(name:List UInt8)(n:Nat)(w:FV)(hv:IQ w v fs)(hs:lQ fs)(g:LP fs)(T:There fs A f B name)(hn:n<=f.s.length+f.t.length):
  FX prog 45 #[.agg #[v],S0 name,I0 n] w fun e w'=>∃v',e=.returned (.tuple #[.agg #[v'],I0 0])/\XO w' w.heap.size v' (A++⟨f.n,(f.s++f.t).take n,[]⟩::B)/\B0 w w':=by
 have C:=fun W (hW:B0 w W)=>TD _ fs A B f name W (hv.next hW) hs g T;have CC:=fun W (hW:B0 w W)=>RY _ fs W (hv.next hW) hs g.few;obtain⟨b,off,cap,rfl,hb,hr,hk,hlt⟩:=WI hv T;have hfl:=NI (T.ok g);have HR:=G7 hr;have HK:=G7 hk;have HT:=G7 T.eq;have hb0:b≠w.heap.size:=by omega
 have C16:(A.length:Int)<(fs.length:Int):=by omega
 have CS:=fun W=>aA f W (by omega);have CT:=fun(g c:Nat) (W:FV) (ho:Own W g c fs)=>dB g c A.length fs f n W ho hk (by omega) hfl;have hset:fs.set A.length ⟨f.n,(f.s++f.t).take n,[]⟩=A++⟨f.n,(f.s++f.t).take n,[]⟩::B:=by rw[T.eq];simp
 have hsl:fs.length=(A++⟨f.n,(f.s++f.t).take n,[]⟩::B).length:=by rw[T.eq];simp
 rw[hset]at CT;obtain⟨fs',BV8⟩:∃x,A++⟨f.n,(f.s++f.t).take n,[]⟩::B=x:=⟨_,rfl⟩;rw[BV8]at CT hsl⊢;have HSL:=G7 hsl;obtain⟨L,hL⟩:∃L,f.s.length+f.t.length=L:=⟨_,rfl⟩;rw[hL]at CS hfl hn;have hn0:¬ ((n:Int)<0):=by omega
 have hn1:¬ ((L:Int)<(n:Int)):=by omega
 clear hv hs g T hr hk hset BV8 hsl hL HT;go_enter func45,ntmps45;go_wp2_with fail;have X:=PG.start w (FT (G5 ⟨b,off,FZ⟩) fs.length cap) 51 51;generalize (w.alloc (FU #[FT (G5 ⟨b,off,FZ⟩) fs.length cap] 51)).alloc (FU #[N0] 51)=w0 at*;refine(C _ X.below).mono ?_;rintro e w1 ⟨rfl,hb1⟩;have X1:=X.next hb1;have HX:=G7 X1;have cd:=X1.cd;have r:=(G6 HR).kept X1.below hb;have e0:=r.c0 (G6 HK);have e1:=r.c1 (G6 HK);have e2:=r.c2 (G6 HK);clear C hb1 r X X1;go_wp2_with fail;refine(CS _).mono ?_;rintro e wx ⟨rfl,hbx⟩;have X1:=(G6 HX).next hbx;clear HX;have HX:=G7 X1;have cdx:=X1.cd;clear hbx X1;go_wp2_with fail;refine(CC _ (G6 HX).below).mono ?_;rintro e w2 ⟨v',rfl,ho,hb2⟩;obtain⟨g,cap2,rfl,hg,ho⟩:=XP ho hlt;have hgl:=ho.lt;have hg2:w.heap.size+2<=g:=by have:=(G6 HX).size;omega
 have X2:=((G6 HX).next hb2).alloc (FU #[FT (G5 ⟨g,0,FZ⟩) fs.length cap2] 51);have ho2:=ho.alloc (FU #[FT (G5 ⟨g,0,FZ⟩) fs.length cap2] 51);have ca:(w2.alloc (FU #[FT (G5 ⟨g,0,FZ⟩) fs.length cap2] 51)).cell? ⟨w2.heap.size,0,FZ⟩=G5 (FT (G5 ⟨g,0,FZ⟩) fs.length cap2):=by simp
 have haz:w2.heap.size<(w2.alloc (FU #[FT (G5 ⟨g,0,FZ⟩) fs.length cap2] 51)).heap.size:=by simp
 clear CC hb2 ho HX cd e0 e1 e2 cdx;go_wp2_with fail;generalize w2.alloc (FU #[FT (G5 ⟨g,0,FZ⟩) fs.length cap2] 51)=W at*;have HX:=G7 X2;have HO:=G7 ho2;have cd:=X2.cd;have r:=(G6 HR).kept X2.below hb;have e0:=r.c0 (G6 HK);have e1:=r.c1 (G6 HK);have e2:=r.c2 (G6 HK);clear r X2 ho2;refine(CT g cap2 W (G6 HO)).mono ?_;rintro e w4 ⟨rfl,ho4,hg4⟩
 all_goals
  have X4:=(G6 HX).grown hg4 hg2;have ca4:w4.cell? ⟨w2.heap.size,0,FZ⟩=G5 (FT (G5 ⟨g,0,FZ⟩) fs.length cap2):=hg4.cell ca (fun e=>by have e3:w2.heap.size=g:=BO e;omega);have cr:=X4.cr;have fr:=X4.fr;have HB:=G7 X4.below;have HO4:=G7 ho4;clear X4 ho4 hg4;clear CS CT;go_wp2_with fail;refine bodyPost_ret (v:=.tuple #[.agg #[FT (G5 ⟨g,0,FZ⟩) fs.length cap2],I0 0]) (by simp[results,results45,go_sem,cr]) rfl ⟨_,rfl,.inr ⟨g,cap2,by rw[G6 HSL],by omega,(G6 HO4).other (by show g≠w.heap.size+1;omega) _⟩,(G6 HB).setCell (by simp) _⟩
def jF:List FW:=[.string ⟨#[]⟩,.string ⟨#[]⟩,.string ⟨#[]⟩]
theorem AJ1(w:FV)(ty:TypeId)(b o c:Nat)(hc:∀j,j<3->(w.cell? ⟨b,o+j,FZ⟩).isSome=true)(hf:∀j,j<3->w.frozen? ⟨b,o+j,FZ⟩=false):
  (Builtin.clear_ #[49] ty #[FT (G5 ⟨b,o,FZ⟩) 1 c]).run prog w=.ok (.tuple #[]) (w.setCells b o jF):=by
 have hzc:(BH (Value.agg #[.string ⟨#[]⟩,.string ⟨#[]⟩,.string ⟨#[]⟩]).cells 1).toList=jF:=by kernel_rfl
 have hst:=run_storeCells_cells (P:=prog) b o jF 0 w (by simpa [jF]using hc) (by simpa [jF]using hf) (by simp[jF,Value.oneCell']);simp only[Nat.add_zero]at hst;simp[Builtin.clear_,run_underlying underlying49,hzc,hst]
theorem Own.some(h:Own W g cap fs){j:Nat}(hj:j<cap*3):(W.cell? ⟨g,j,FZ⟩).isSome=true:=by
 obtain⟨rest,h1,h2,_⟩:=h;have hl:j<(I5 fs++rest).length:=by rw[AO,GZ,h2];exact hj
 rw[AO]at hl;simp[World.cell?,h1,hl]
theorem zK(g cap:Nat)(A B:List DF)(f:DF)(n:Nat)(w:FV)(ho:Own w g cap (A++f::B))(hn:n=A.length+B.length+1)(hsm:n<=1000):
  FX prog 187 #[FT (G5 ⟨g,0,FZ⟩) n cap,I0 A.length,I0 (A.length+1:Nat)] w fun e w'=>
   e=.returned (FT (G5 ⟨g,0,FZ⟩) (A.length+B.length) cap)/\Own w' g cap (A++B)/\w.grownBy w' (G5 g):=by
 obtain⟨i0,hi0,hz0,hz1,hz2⟩:=U1;have hle:=ho.le;have hcl:=ho.capLe;simp only[maxLen]at hcl;rw[AO,BG]at hle;have hrow:=ho.row;obtain⟨AD,hAD,hsrc⟩:∃AD:Addr,(if cap=A.length+1 then G5 (⟨g,0,FZ⟩:Addr)else G5 ⟨g,(A.length+1)*3,FZ⟩)=G5 AD/\Hid (∀t u,(I5 B)[t]?=G5 u->w.drew.cell? (AD.add t)=G5 u):=by
  by_cases h:cap=A.length+1
  .refine⟨⟨g,0,FZ⟩,by simp[h],fun t u hu=>?_⟩;have h0:B=[]:=BU (by omega);rw[h0]at hu;simp[I5]at hu
  .refine⟨⟨g,(A.length+1)*3,FZ⟩,by simp[h],fun t u hu=>?_⟩;rw[BJ];have:=hrow ((A.length+1)*3+t) u (by
    rw[JO,BA (by rw[GZ];omega),GZ,I5,BA (by simp[JC];omega)];simp only[JC,BG,EU];rw[<-hu];congr 1;omega)
   rw[BI]at this;exact this
 have s1:Hid ((I5 B).length=B.length*3):=GZ B;have s2:Hid (∀u∈I5 B,u.oneCell'=true):=XM B;have s3:Hid (∀t,t<(I5 B).length->(w.drew.cell? ⟨g,0+A.length*3+t,FZ⟩).isSome=true/\w.drew.frozen? ⟨g,0+A.length*3+t,FZ⟩=false):=by
  intro t ht;rw[GZ]at ht;exact⟨ho.some (by omega),ho.frozen _⟩
 obtain⟨W1,hW1⟩:∃W1,W1=w.drew.setCells g (0+A.length*3) (I5 B):=⟨_,rfl⟩;have ho1:Own W1 g cap (A++B):=by rw[hW1,BI];exact ho.drew.splice B (by omega)
 have hg1:w.grownBy W1 (G5 g):=by rw[hW1];have:=LU (g:=g) (I5 B) (0+A.length*3) w.drew;exact⟨this.os,this.tape,this.output,this.size,this.block⟩
 have CR3:∀ty c,(Builtin.clear_ #[49] ty #[FT (G5 ⟨g,(A.length+B.length)*3,FZ⟩) 1 c]).run prog W1=.ok (.tuple #[]) (W1.setCells g ((A.length+B.length)*3) jF):=fun ty c=>
  AJ1 W1 ty g _ c (fun j hj=>ho1.some (by omega)) (fun j hj=>ho1.frozen _)
 have FIN:Hid (Own (W1.setCells g ((A.length+B.length)*3) jF) g cap (A++B)/\w.grownBy (W1.setCells g ((A.length+B.length)*3) jF) (G5 g)):=
  ⟨ho1.spare jF _ (by rw[AO];omega) (by simp[jF];omega),SA hg1 (LU _ _ _)⟩
 have hW:Hid (W1=w.drew.setCells g (0+A.length*3) (I5 B)):=hW1;have hic:A.length<=cap:=by omega
 have hjc:A.length+1<=cap:=by omega
 have hne:¬ (cap=A.length+B.length):=by omega
 have hb1:(0:Int)<=(A.length:Int)+1:=by omega
 have hb2:(A.length:Int)<=(A.length:Int)+(B.length:Int):=by omega
 have hb3:(0:Int)<=(A.length:Int)+(B.length:Int):=by omega
 have hs1:A.length+B.length+1-(A.length+B.length)=1:=by omega
 clear hW1 ho1 hg1 hrow ho;subst hn;go_enter func187,ntmps187;go_wp2_with fail
 go_region_law (refine step_append_room rfl (.tmp 22) (.tmp 25) 49 rfl 69 i0 3 underlying49 hi0 hz1 g 0 A.length cap (by simp[Act.eval,Act.put]) AD B.length (cap-(A.length+1)) (I5 B) (by simp[Act.eval,Act.put]) s1.out hsrc.out s2.out (by omega) s3.out ?_;rw[<-hW.out])
 go_wp2
 go_ret;exact⟨rfl,FIN.out⟩
theorem uP(v:FW)(fs A B:List DF)(f:DF)(name:List UInt8)(w:FV)(hv:IQ w v fs)(hs:lQ fs)(g:LP fs)(T:There fs A f B name):
  FX prog 144 #[.agg #[v],S0 name] w fun e w'=>∃v',e=.returned (.tuple #[.agg #[v'],I0 0])/\XO w' w.heap.size v' (A++B)/\B0 w w':=by
 have C:=fun W (hW:B0 w W)=>TD _ fs A B f name W (hv.next hW) hs g T;have CC:=fun W (hW:B0 w W)=>RY _ fs W (hv.next hW) hs g.few;obtain⟨b,off,cap,rfl,hb,hr,hk,hlt⟩:=WI hv T;have hb0:b≠w.heap.size:=by omega
 have hsm:=g.few;have hlen:fs.length=A.length+B.length+1:=by rw[T.eq];simp;omega
 have CD:=fun(q c:Nat) (W:FV) (ho:Own W q c fs)=>zK q c A B f fs.length W (by rw[<-T.eq];exact ho) hlen (by omega);have HL:=G7 hlen;clear hv hs g T hr hk hlen;go_enter func144,ntmps144;go_wp2_with fail;have X:=PG.start w (FT (G5 ⟨b,off,FZ⟩) fs.length cap) 51 51;generalize (w.alloc (FU #[FT (G5 ⟨b,off,FZ⟩) fs.length cap] 51)).alloc (FU #[N0] 51)=w0 at*;refine(C _ X.below).mono ?_;rintro e w1 ⟨rfl,hb1⟩;have X1:=X.next hb1;have HX:=G7 X1;have cd:=X1.cd;clear C hb1 X X1;go_wp2_with fail;refine(CC _ (G6 HX).below).mono ?_;rintro e w2 ⟨v',rfl,ho,hb2⟩;obtain⟨q,cap2,rfl,hq,ho⟩:=XP ho hlt;have hql:=ho.lt;have hq2:w.heap.size+2<=q:=by have:=(G6 HX).size;omega
 have X2:=((G6 HX).next hb2).alloc (FU #[FT (G5 ⟨q,0,FZ⟩) fs.length cap2] 51);have ho2:=ho.alloc (FU #[FT (G5 ⟨q,0,FZ⟩) fs.length cap2] 51);have ca:(w2.alloc (FU #[FT (G5 ⟨q,0,FZ⟩) fs.length cap2] 51)).cell? ⟨w2.heap.size,0,FZ⟩=G5 (FT (G5 ⟨q,0,FZ⟩) fs.length cap2):=by simp
 have fa:(w2.alloc (FU #[FT (G5 ⟨q,0,FZ⟩) fs.length cap2] 51)).frozen? ⟨w2.heap.size,0,FZ⟩=false:=by simp
 have hz2:w.heap.size+2<=w2.heap.size:=by omega
 have haz:w2.heap.size<(w2.alloc (FU #[FT (G5 ⟨q,0,FZ⟩) fs.length cap2] 51)).heap.size:=by simp
 clear CC hb2 ho HX cd;go_wp2_with fail;generalize w2.alloc (FU #[FT (G5 ⟨q,0,FZ⟩) fs.length cap2] 51)=W at*;refine(CD q cap2 _ ho2).mono ?_;rintro e w4 ⟨rfl,ho4,hg4⟩;have X4:=X2.grown hg4 hq2;have ca4:w4.cell? ⟨w2.heap.size,0,FZ⟩=G5 (FT (G5 ⟨q,0,FZ⟩) fs.length cap2):=hg4.cell ca (fun e=>by have e3:w2.heap.size=q:=BO e;omega);have fa4:w4.frozen? ⟨w2.heap.size,0,FZ⟩=false:=(World.frozen?_of_block (hg4.block w2.heap.size haz (fun e=>by have e3:w2.heap.size=q:=BO e;omega))).trans fa;have cr:=X4.cr;have fr:=X4.fr;have HB:=G7 X4.below;have HO4:=G7 ho4;clear X4 ho4 hg4 X2 ho2 CD ca fa;go_wp2_with fail;exact bodyPost_ret (v:=.tuple #[.agg #[FT (G5 ⟨q,0,FZ⟩) (A.length+B.length) cap2],I0 0]) (by simp[results,results144,go_sem,cr]) rfl
  ⟨_,rfl,.inr ⟨q,cap2,by rw[AO],by omega,((G6 HO4).other (by show q≠w2.heap.size;omega) _).other (by show q≠w.heap.size+1;omega) _⟩,((G6 HB).setCell (by show w.heap.size<=w2.heap.size;omega) _).setCell (by simp) _⟩
theorem aC(w:FV)(ty:TypeId)(b o dLen dCap:Nat)(a:Addr)(sLen sCap:Nat)(cs:List FW)(hn:cs.length=Nat.min sLen dLen*3)
  (hsrc:∀j v,cs[j]?=G5 v->w.cell? (a.add j)=G5 v) (hc:∀j,j<cs.length->(w.cell? ⟨b,o+j,FZ⟩).isSome=true) (hf:∀j,j<cs.length->w.frozen? ⟨b,o+j,FZ⟩=false) (h1:∀v∈cs,v.oneCell'=true):
  (DX #[49,49] ty #[FT (G5 ⟨b,o,FZ⟩) dLen dCap,FT (G5 a) sLen sCap]).run prog w=.ok (goInt (Nat.min sLen dLen)) (w.setCells b o cs):=by
 have hl:=run_loadCells_list (P:=prog) w a cs hsrc;have hst:=run_storeCells_cells (P:=prog) b o cs 0 w (by simpa using hc) (by simpa using hf) h1;obtain⟨i0,hi0,hz0,hz1,hz2⟩:=U1;simp[DX,run_underlying underlying49,Builtin.lenOf,Builtin.firstCells,sizeOf,typeInfo,hi0,hz1,<-hn,hl,hst]
theorem uQ(w:FV){o:Oper}{a:Act}{K:Act->FV->Prop}{Q:Exit->Act->FV->Prop}(d s:Operand)(t t':TypeId)
  (ho:o.op=.call {callee:=.builtin .copy,args:=#[d,s],argTypes:=#[t,t']}) (v u:FW) (hd:a.eval d=v) (hs:a.eval s=u) {v':FW} {w':FV}
  (hr:(DX #[t,t'] o.type #[v,u]).run prog w=.ok v' w') (h:K (a.put o.dst v') w'):o.wp prog a w K Q:=by
 unfold Oper.wp execOp;simp only[ho,resolve,invoke,builtin,Sem.run_bind,Sem.run_pure,Result.andThen_ok,List.map_toArray,List.map_cons,List.map_nil,hd,hs,hr];exact h
theorem VG(w:FV){ops:Array Oper}{rest:List Oper}{o:Oper}{a:Act}{Q:Exit->Act->FV->Prop}(hgd:o.guard=FZ)(d s:Operand)(t t':TypeId)
  (ho:o.op=.call {callee:=.builtin .copy,args:=#[d,s],argTypes:=#[t,t']}) (v u:FW) (hd:a.eval d=v) (hs:a.eval s=u) {v':FW} {w':FV}
  (hr:(DX #[t,t'] o.type #[v,u]).run prog w=.ok v' w') (h:wpList prog ops Q rest (a.put o.dst v') w'):wpList prog ops Q (o::rest) a w:=
 wpList_plain hgd fun _ hK=>uQ w d s t t' ho v u hd hs hr (hK _ _ h)
theorem YF{ops:Array Oper}{o:Oper}{a:Act}{w:FV}{K:Act->FV->Prop}{Q:Exit->Act->FV->Prop}{E:Prop}
  (hg:o.guard=FZ) (d x:Operand) (dT sT:TypeId) (hop:o.op=Op.call {callee:=Callee.builtin Builtin.copy,args:=#[d,x],argTypes:=#[dT,sT]})
  (v u:FW) (hd:a.eval d=v) (hx:a.eval x=u) {v':FW} {w':FV} (hr:(DX #[dT,sT] o.type #[v,u]).run prog w=.ok v' w') (hK:K (a.put o.dst v') w'):
  if Region.wanted o (yielded ops a.tmps)=true then Oper.wp prog o a w K Q else E:=by
 have hw:Region.wanted o (yielded ops a.tmps)=true:=by simp[Region.wanted,hg]
 rw[if_pos hw];unfold Oper.wp;simp[execOp,hop,resolve,invoke,builtin,hd,hx,hr,Result.andThen];exact hK
def One(W:FV)(b:Nat)(x:DF):Prop:=W.heap[b]?=G5 (FU (JC x).toArray 69 (0,0))
theorem One.row{b:Nat}{x:DF}(h:One W b x):∀j v,(JC x)[j]?=G5 v->W.cell? ⟨b,0+j,FZ⟩=G5 v:=by
 intro j v hj;unfold One at h;have:(JC x).toArray[j]?=G5 v:=by simpa using hj
 simp[World.cell?,h,hj]
theorem XT(x:DF):∀u∈JC x,u.oneCell'=true:=by
 intro u h;simp[JC]at h;rcases h with rfl|rfl|rfl<;>rfl
theorem zL(v:FW)(A:List DF)(x:DF)(B b:Nat)(w:FV)(ho:XO w B v A)(hB:B<=w.heap.size)(hl:A.length<=16)(h1:One w b x):
  FX prog 71 #[v,I0 A.length,FT (G5 ⟨b,0,FZ⟩) 1 1] w fun e w'=>
   ∃v',e=.returned v'/\XO w' B v' (A++[x])/\w.grownBy w' v.ownBlock:=by
 obtain⟨i0,hi0,hz0,hz1,hz2⟩:=U1;have hrow:=ho.row;have HR:=G7 hrow;have H1:=G7 h1.row;have V:∃a c,v=FT a A.length c/\A.length<=c:=by
  rcases ho with⟨rfl,rfl⟩|⟨g,cap,rfl,_,h⟩
  .exact⟨FZ,0,rfl,A8 _⟩
  .exact⟨_,cap,rfl,h.le⟩
 obtain⟨a,c,rfl,hc⟩:=V;clear ho hrow h1;rcases Nat.lt_or_ge A.length c with hcl|hcl
 .have hne:¬c=A.length:=by omega
  go_enter func71,ntmps71;go_wp2_with (at_builtin;refine wpList_append_own _ rfl _ _ 49 rfl B 69 i0 _ 3 48 underlying49 hi0 hz0 hz1 hz2 rfl (by decide) _ A.length (I5 A) rfl (G6 HR) ⟨b,0,FZ⟩ 1 1 (JC x) rfl (by rfl) ?qc2 (XT x) ?qc4 ?qc5 hB ?_)
  case qc2=>
   intro j u hj;rw[BJ];exact G6 H1 j u hj
  case qc4=>simp only[maxLen];omega
  case qc5=>omega
  intro v' w1 hown hgrow _
  go_wp2
  go_ret;exact⟨v',rfl,XO.L9 (by rw[AO,JO];simpa [I5]using hown),hgrow⟩
 .obtain rfl:c=A.length:=by omega
  go_enter func71,ntmps71;go_wp2_with (at_builtin;refine wpList_append_own _ rfl _ _ 49 rfl B 69 i0 _ 3 48 underlying49 hi0 hz0 hz1 hz2 rfl (by decide) _ A.length (I5 A) rfl (G6 HR) ⟨b,0,FZ⟩ 1 1 (JC x) rfl (by rfl) ?qc2 (XT x) ?qc4 ?qc5 hB ?_)
  case qc2=>
   intro j u hj;rw[BJ];exact G6 H1 j u hj
  case qc4=>simp only[maxLen];omega
  case qc5=>omega
  intro v' w1 hown hgrow _
  go_wp2
  go_ret;exact⟨v',rfl,XO.L9 (by rw[AO,JO];simpa [I5]using hown),hgrow⟩
theorem pY(g cap:Nat)(A R:List DF)(y x:DF)(n b:Nat)(w:FV)(ho:Own w g cap (A++y::R))(hn:n=A.length+R.length+1)(hsm:n<=16)(hroom:n+1<=cap)(h1:One w b x)(hbg:b≠g):
  FX prog 71 #[FT (G5 ⟨g,0,FZ⟩) n cap,I0 A.length,FT (G5 ⟨b,0,FZ⟩) 1 1] w fun e w'=>
   e=.returned (FT (G5 ⟨g,0,FZ⟩) (n+1) cap)/\Own w' g cap (A++x::y::R)/\w.grownBy w' (G5 g):=by
 have hcl:=ho.capLe;simp only[maxLen]at hcl;have hrow:=ho.row;have AY2:w.shape? g=G5 (69,cap*3):=by
  obtain⟨rest,q1,q2,_⟩:=ho;rw[AO,BG]at q2;simp[World.shape?,q1,GZ,q2]
 have AY3:w.shape? b=G5 (69,3):=by unfold One at h1;simp[World.shape?,h1,JC]
 have hfb:∀j,w.frozen? ⟨b,j,FZ⟩=false:=fun j=>by unfold One at h1;simp[World.frozen?,h1]
 have hov:∀lb cb,(callFunc 110 #[FT (G5 ⟨b,0,FZ⟩) 1 1,FT (G5 ⟨g,(A.length+1)*3,FZ⟩) lb cb]).run prog w=.ok (.value (.bool false)) w:=fun lb cb=>by
  rw[run_callFunc_extern func110 (by kernel_rfl) (by kernel_rfl) (by kernel_rfl) (e:=Extern.SlicesOverlaps.overlaps #[49,49] #[4]) (by kernel_rfl),
   Lib.run_overlaps_apart w 49 4 69 underlying49 3 sizeOf69 ⟨b,0,FZ⟩ ⟨g,(A.length+1)*3,FZ⟩ 1 1 lb cb hbg 69 69 3 (cap*3) AY3 AY2 (by omega) (hfb 0) (hfb 3)]
  rfl
 obtain⟨W1,hW1⟩:∃W1,W1=w.drew.setCells g ((A.length+1)*3) (I5 (y::R)):=⟨_,rfl⟩;have ho1:Own W1 g cap (A++y::y::R):=by
  have h:Own w.drew g cap ((A++[y])++R):=by rw[BR];exact ho
  have:=h.splice (y::R) (by simp;omega);rw[hW1];simpa using this
 have hg1:w.grownBy W1 (G5 g):=by rw[hW1];have:=LU (g:=g) (I5 (y::R)) ((A.length+1)*3) w.drew;exact⟨this.os,this.tape,this.output,this.size,this.block⟩
 have hcp1:∀ty dc sc,(DX #[49,49] ty #[FT (G5 ⟨g,(A.length+1)*3,FZ⟩) (n-A.length) dc,FT (G5 ⟨g,A.length*3,FZ⟩) (n+1-A.length) sc]).run prog w.drew=.ok (goInt (Nat.min (n+1-A.length) (n-A.length))) W1:=fun ty dc sc=>by
  rw[hW1];exact aC w.drew ty g _ _ dc ⟨g,A.length*3,FZ⟩ _ sc (I5 (y::R)) (by rw[GZ];simp only[Nat.min_def,BG];split<;>omega)
   (fun j v hj=>by
    rw[BJ];have:=hrow (A.length*3+j) v (by rw[JO,BA (by rw[GZ];omega),GZ,FC];exact hj);rw[BI]at this;exact this)
   (fun j hj=>by rw[GZ]at hj;exact ho.some (by simp at hj;omega)) (fun j _=>ho.frozen _) (XM _)
 have hcp2:∀ty dc,(DX #[49,49] ty #[FT (G5 ⟨g,A.length*3,FZ⟩) (n+1-A.length) dc,FT (G5 ⟨b,0,FZ⟩) 1 1]).run prog W1=.ok (goInt (Nat.min 1 (n+1-A.length))) (W1.setCells g (A.length*3) (JC x)):=fun ty dc=>
  aC W1 ty g _ _ dc ⟨b,0,FZ⟩ 1 1 (JC x) (by simp only[Nat.min_def,JC,BG,EU];split<;>omega)
   (fun j v hj=>by
    rw[BJ];have hb2:W1.heap[b]?=w.heap[b]? :=hg1.block b (by unfold One at h1;exact(AB.1 h1).1) (fun e=>hbg (BO e));have h2:One W1 b x:=hb2.trans h1;exact h2.row j v hj)
   (fun j hj=>ho1.some (by simp[JC]at hj;omega)) (fun j _=>ho1.frozen _) (XT x)
 have FIN:Hid (Own (W1.setCells g (A.length*3) (JC x)) g cap (A++x::y::R)/\w.grownBy (W1.setCells g (A.length*3) (JC x)) (G5 g)):=
  ⟨ho1.uI x,SA hg1 (LU _ _ _)⟩
 have hin:A.length<n:=by omega
 have C17:(A.length:Int)<(n:Int):=by omega
 have hw1:IntKind.i64.wrap ((A.length:Int)+1)=(A.length:Int)+1:=by rw[IntKind.wrap_i64];omega
 have hb1:(0:Int)<=(A.length:Int)+1:=by omega
 have hb2:¬ (cap=A.length+1):=by omega
 have hb3:(A.length:Int)<=(n:Int)+1:=by omega
 have hb4:¬ (cap=A.length):=by omega
 have hb5:(A.length:Int)+1<=(n:Int)+1:=by omega
 have hb6:¬ ((cap:Int)<(n:Int)+1):=by omega
 have hz2:¬ ((A.length:Int)=(n:Int)):=by omega
 have htn:((A.length:Int)+1).toNat=A.length+1:=by omega
 clear hW1 ho1 hg1 hrow AY2 AY3 hfb ho h1 hn;go_enter func71,ntmps71;go_wp2_with (simp only[hov])
 go_region_law (refine YF rfl (.tmp 73) (.tmp 76) 49 49 rfl (FT (G5 ⟨g,(A.length+1)*3,FZ⟩) (n-A.length) (cap-(A.length+1))) (FT (G5 ⟨g,A.length*3,FZ⟩) (n+1-A.length) (cap-A.length)) (by simp[Act.eval,Act.put]) (by simp[Act.eval,Act.put]) (hcp1 _ _ _) ?_)
 go_wp2_with (at_builtin;refine VG _ rfl _ _ 49 49 rfl _ _ rfl rfl (hcp2 _ _) ?_);go_ret;exact⟨rfl,FIN.out⟩
theorem zM(k:Nat):(BH (Value.agg #[.string ⟨#[]⟩,.string ⟨#[]⟩,.string ⟨#[]⟩]).cells k).size=k*3:=by
 simp[BH,Value.cells]
theorem uS(g cap:Nat)(A R:List DF)(y x:DF)(n b:Nat)(w:FV)(ho:Own w g cap (A++y::R))(hn:n=A.length+R.length+1)(hsm:n<=16)(hroom:cap<n+1)(h1:One w b x):
  FX prog 71 #[FT (G5 ⟨g,0,FZ⟩) n cap,I0 A.length,FT (G5 ⟨b,0,FZ⟩) 1 1] w fun e w'=>
   ∃cap',e=.returned (FT (G5 ⟨w.heap.size,0,FZ⟩) (n+1) cap')/\Own w' w.heap.size cap' (A++x::y::R)/\B0 w w':=by
 have hcap:cap=n:=by have:=ho.le;simp at this;omega
 obtain⟨i0,hi0,hz0,hz1,hz2⟩:=U1;have hrow:=ho.row;have hgw:=ho.lt;have hbw:b<w.heap.size:=by unfold One at h1;exact(AB.1 h1).1
 have hold:(Builtin.firstCells i0.size A.length (FT (G5 ⟨g,0,FZ⟩) A.length cap)).run prog w.drew=.ok (I5 A).toArray w.drew:=by
  rw[hz1];exact run_firstCells_some w.drew 3 A.length ⟨g,0,FZ⟩ A.length cap (I5 A) (GZ A) (fun j v hj=>by
   rw[BJ];exact hrow j v (by rw[JO,BK (AU.1 hj).1];exact hj))
 obtain⟨G,hG⟩:∃G,G=grownCap w (n+1) cap 69:=⟨_,rfl⟩;have hGn:n+1<=G:=by rw[hG];exact grownCap_ge w _ _ _
 have hGm:G<=maxLen:=by rw[hG];exact grownCap_le_maxLen w (n+1) cap _ (by unfold maxLen;omega)
 have hG63:G<=9223372036854775807:=by have:=hGm;unfold maxLen at this;omega
 obtain⟨ROW,hROW⟩:∃ROW:Array FW,ROW=(I5 A).toArray++BH (Value.agg #[.string ⟨#[]⟩,.string ⟨#[]⟩,.string ⟨#[]⟩]).cells (n+1-A.length)++BH (Value.agg #[.string ⟨#[]⟩,.string ⟨#[]⟩,.string ⟨#[]⟩]).cells (G-(n+1)):=⟨_,rfl⟩;obtain⟨W1,hW1⟩:∃W1,W1=w.drew.alloc (FU ROW 69):=⟨_,rfl⟩;have hik:A.length+(n+1-A.length)=n+1:=by omega
 have hrz:∀ty,(Builtin.append_ #[49,3] ty #[FT (G5 ⟨g,0,FZ⟩) A.length cap,I0 ((n:Int)+1-(A.length:Int))]).run prog w=
   .ok (FT (G5 ⟨w.heap.size,0,FZ⟩) (n+1) G) W1:=fun ty=>by
  have h:=Lib.run_append_grow_zeros w 49 3 ty 69 i0 _ .i64 .i64 underlying49 underlying3 hi0 hz0 (G5 ⟨g,0,FZ⟩) A.length cap (I5 A) hold (n+1-A.length) (by omega) (by omega) (by omega) (by omega) (by rw[hz2];omega) (by rw[hz2,hik];exact growslice_fits hroom (by omega));rw[hik,<-hG,<-hROW,<-hW1]at h;rw[show (n:Int)+1-(A.length:Int)=((n+1-A.length:Nat):Int) by omega];exact h
 have ho1:Own W1 w.heap.size G A:=by
  refine⟨(BH (Value.agg #[.string ⟨#[]⟩,.string ⟨#[]⟩,.string ⟨#[]⟩]).cells (n+1-A.length)++BH (Value.agg #[.string ⟨#[]⟩,.string ⟨#[]⟩,.string ⟨#[]⟩]).cells (G-(n+1))).toList,?_,?_,hGm⟩
  .rw[hW1,hROW];have:=heap_alloc_new w.drew (FU ((I5 A).toArray++BH (Value.agg #[.string ⟨#[]⟩,.string ⟨#[]⟩,.string ⟨#[]⟩]).cells (n+1-A.length)++BH (Value.agg #[.string ⟨#[]⟩,.string ⟨#[]⟩,.string ⟨#[]⟩]).cells (G-(n+1))) 69);refine Eq.trans this ?_
   congr 2
   apply Array.toList_inj.1
   simp
  .simp only[Array.length_toList,Array.size_append,zM];omega
 have hB1:B0 w W1:=by rw[hW1];exact((AA _ w).drew).alloc (A8 _) _
 obtain⟨W2,hW2⟩:∃W2,W2=W1.setCells w.heap.size (A.length*3) (JC x):=⟨_,rfl⟩;have ho2:Own W2 w.heap.size G (A++[x]):=by
  have h:Own W1 w.heap.size G (A++[]):=by rw[DN];exact ho1
  have:=h.splice [x] (by simp;omega);rw[hW2];simpa [I5]using this
 have hg2:W1.grownBy W2 (G5 w.heap.size):=by rw[hW2];exact LU _ _ _
 have hB2:B0 w W2:=hB1.grown hg2 hB1.size (fun k e=>by cases e;exact A8 _);have hcpA:∀ty dc,(DX #[49,49] ty #[FT (G5 ⟨w.heap.size,A.length*3,FZ⟩) (n+1-A.length) dc,FT (G5 ⟨b,0,FZ⟩) 1 1]).run prog W1=.ok (goInt (Nat.min 1 (n+1-A.length))) W2:=fun ty dc=>by
  rw[hW2];exact aC W1 ty w.heap.size _ _ dc ⟨b,0,FZ⟩ 1 1 (JC x) (by simp only[Nat.min_def,JC,BG,EU];split<;>omega)
   (fun j v hj=>by rw[BJ];exact(show One W1 b x from(hB1.block b hbw).trans h1).row j v hj)
   (fun j hj=>ho1.some (by simp[JC]at hj;omega)) (fun j _=>ho1.frozen _) (XT x)
 obtain⟨W3,hW3⟩:∃W3,W3=W2.drew.setCells w.heap.size ((A.length+1)*3) (I5 (y::R)):=⟨_,rfl⟩;have hcpB:∀ty dc sc,(DX #[49,49] ty #[FT (G5 ⟨w.heap.size,(A.length+1)*3,FZ⟩) (n-A.length) dc,FT (G5 ⟨g,A.length*3,FZ⟩) (n-A.length) sc]).run prog W2.drew=.ok (goInt (Nat.min (n-A.length) (n-A.length))) W3:=fun ty dc sc=>by
  rw[hW3];exact aC W2.drew ty w.heap.size _ _ dc ⟨g,A.length*3,FZ⟩ _ sc (I5 (y::R)) (by rw[GZ];simp only[Nat.min_self,BG];omega)
   (fun j v hj=>by
    rw[BJ];have:=hrow (A.length*3+j) v (by rw[JO,BA (by rw[GZ];omega),GZ,FC];exact hj);rw[BI]at this;exact(hB2.cell (p:=⟨g,A.length*3+j,FZ⟩) hgw).trans this)
   (fun j hj=>by rw[GZ]at hj;exact ho2.drew.some (by simp at hj;omega)) (fun j _=>ho2.drew.frozen _) (XM _)
 have FIN:Hid (Own W3 w.heap.size G (A++x::y::R)/\B0 w W3):=by
  refine⟨?_,?_⟩
  .have h:Own W2.drew w.heap.size G ((A++[x])++[]):=by rw[DN];exact ho2
   have:=h.splice (y::R) (by simp;omega);rw[hW3];simpa using this
  .rw[hW3];exact hB2.drew.grown (LU _ _ _) hB2.size (fun k e=>by cases e;exact A8 _)
 have hin:A.length<n:=by omega
 have C17:(A.length:Int)<(n:Int):=by omega
 have hw1:IntKind.i64.wrap ((A.length:Int)+1)=(A.length:Int)+1:=by rw[IntKind.wrap_i64];omega
 have hb1:(0:Int)<=(A.length:Int)+1:=by omega
 have hb2:¬ (G=A.length+1):=by omega
 have hb3:(A.length:Int)<=(n:Int)+1:=by omega
 have hb4:¬ (n=A.length):=by omega
 have hb5:(A.length:Int)+1<=(n:Int)+1:=by omega
 have hb6:¬ (G=A.length):=by omega
 have hb7:(A.length:Int)<=(n:Int):=by omega
 have hz3:¬ ((A.length:Int)=(n:Int)):=by omega
 have htn:((A.length:Int)+1).toNat=A.length+1:=by omega
 subst hcap;clear hn hROW hW1 hW2 hW3 hG hrow ho h1 ho1 ho2 hB1 hB2 hg2 hold hik;go_enter func71,ntmps71;go_wp2_with (first
  |(at_builtin;refine Lib.wpList_append_run _ rfl _ _ _ _ rfl _ _ rfl rfl _ _ (hrz _) ?_)
  |(at_builtin;refine VG _ rfl _ _ 49 49 rfl _ _ rfl rfl (hcpA _ _) ?_))
 go_region_law (refine YF rfl (.tmp 50) (.tmp 53) 49 49 rfl (FT (G5 ⟨w.heap.size,(A.length+1)*3,FZ⟩) (cap-A.length) (G-(A.length+1))) (FT (G5 ⟨g,A.length*3,FZ⟩) (cap-A.length) (cap-A.length)) (by simp[Act.eval,Act.put]) (by simp[Act.eval,Act.put]) (hcpB _ _ _) ?_)
 go_wp2
 go_ret;exact⟨G,rfl,FIN.out⟩
