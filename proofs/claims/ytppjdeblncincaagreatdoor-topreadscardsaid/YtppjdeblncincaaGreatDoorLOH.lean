/-
  Part.
-/
import Derived.Test.YtppjdeblncincaaGreatDoorLOB
import Derived.Deep.RegionHeld3
import Derived.Lib.AppendZeros
import Derived.Lib.JoinLaws
set_option maxRecDepth 20000
set_option maxHeartbeats 8000000
namespace Go.Proofs.YtppjdeblncincaaGreatDoor
open Go.RowKit Go.Proofs.Tryz
open _root_.Nat renaming le_refl->A8,lt_of_lt_of_le->AY,zero_le->AZ,zero_add->BJ,le_trans->BO
open Go.RowKit.Below renaming refl->AA
open _root_.List renaming getElem?_eq_getElem->AO,length_append->AP,getElem?_eq_some_iff->AV,mem_of_getElem?->BA,getElem?_append_right->BD,length_cons->BH,take_of_length_le->BN,append_assoc->BU,eq_nil_of_length_eq_zero->BZ
open _root_.ByteArray renaming mk->AU
open _root_.Option.some renaming inj->BP
open Go.Lib renaming run_eql_slice_nil->ER,compareBytes->ES
open Go.Value renaming slice->FU
open Go.Obj renaming cells->FV
open Go renaming World->FW,Value->FX,Calls->FZ
open _root_.Option renaming none->G5,some->G6
variable{w W V w':FW}{f:DF}{v:FX}{g cap:Nat}{fs:List DF}
theorem LJ{o:Obj}{w1:FW}(h:Below (w.alloc o).heap.size (w.alloc o) w1):B0 w w1:=
 ((AA _ _).alloc (A8 _) _).trans (h.mono (by simp))
theorem aY(f:DF)(w:FW)(h:f.s.length+f.t.length<=9223372036854775807):
  FZ prog 104 #[BI5 f] w (R0 w (I0 ((f.s.length+f.t.length:Nat):Int))):=by
 unfold BI5;go_enter func104,ntmps104
 go_wp2
 go_ret;exact⟨rfl,(AA _ _).alloc (A8 _) _⟩
theorem A94(f:DF)(name:List UInt8)(w:FW):
  FZ prog 150 #[BI5 f,S0 name] w (R0 w (I0 (ES f.n name))):=by
 unfold BI5;go_enter func150,ntmps150;go_wp2_with fail;refine(strings_Compare _ _ _).mono ?_;rintro e w1 ⟨rfl,rfl⟩;go_wp2_with fail;go_ret;exact⟨rfl,(AA _ _).alloc (A8 _) _⟩
def bC(R:List DF)(name:List UInt8):Bool:=match R with
 |[]=>false
 |f::_=>decide (f.n=name)
theorem AY3(A R:List DF)(name:List UInt8)(lo:∀a∈A,bl a.n name=true)(hi:∀a∈R,bl a.n name=false)(i:Nat)(h:i<A.length+R.length):∃y,(A++R)[i]?=G6 y/\bl y.n name=decide (i<A.length):=by
 by_cases h1:i<A.length
 .refine⟨A[i],by rw[List.getElem?_append_left h1,AO h1],?_⟩;rw[lo _ (List.getElem_mem h1)];simp[h1]
 .have h2:i-A.length<R.length:=by omega
  refine⟨R[i-A.length],by rw[BD (by omega),AO h2],?_⟩;rw[hi _ (List.getElem_mem h2)];simp[h1]
theorem C31(b off cap:Nat)(A R:List DF)(name:List UInt8)(w:FW)(hcap:A.length+R.length<=16)(hb:b<w.heap.size)(h:IC w b off (H8 (A++R)))
  (lo:∀a∈A,bl a.n name=true) (hi:∀a∈R,bl a.n name=false):
  FZ prog 149 #[FU (G6 ⟨b,off,G5⟩) (A.length+R.length) cap,S0 name,.func (.func 150) #[] #[]] w fun e w'=>
   e=.returned (.tuple #[I0 A.length,.bool (bC R name)])/\B0 w w':=by
 have H:=G8 h;have SG:=G8 (AY3 A R name lo hi);obtain⟨fin,hfin⟩:∃x,bC R name=x:=⟨_,rfl⟩;have HF:=G8 hfin;rw[hfin];clear h hfin lo hi;go_enter func149,ntmps149;go_wp2_with fail
 go_loopg [9,10] (A.length+R.length) (fun kx s9 s10 wr=>∃lo hi:Nat,s9=I0 lo/\s10=I0 hi/\lo<=A.length/\A.length<=hi/\hi<=A.length+R.length/\hi-lo<=kx/\Hid (B0 w wr))
 case atStart=>exact⟨0,A.length+R.length,rfl,rfl,AZ _,by omega,A8 _,by omega,G8 (AA _ _)⟩
 case round=>
  obtain⟨lo,hi,rfl,rfl,h1,h2,h3,hg,hB⟩:=hrel;by_cases hlt:lo<hi
  .obtain⟨y,hy,hyn⟩:=G7 SG ((lo+hi)/2) (by omega);have HY:=G8 hyn;have r:=(G7 H).kept (G7 hB) hb;have e0:=r.c0 hy;have e1:=r.c1 hy;have e2:=r.c2 hy;clear hyn hy r;have hc:=A72 y.n name;rw[G7 HY]at hc;have CM:=fun W=>A94 y name W;generalize ES y.n name=cv at hc CM;by_cases hm:(lo+hi)/2<A.length
   .have hn:cv<0:=by simpa [hm]using hc
    clear hc;go_wp2_with fail;refine(CM _).mono ?_;rintro e w1 ⟨rfl,hb1⟩;have hB2:B0 w w1:=(G7 hB).trans (hb1.mono (G7 hB).size);clear CM;go_wp2_with fail
    go_roundg (hi-((lo+hi)/2+1))
    case measure=>omega
    case rel=>exact⟨(lo+hi)/2+1,hi,by rw[show ((lo:Int)+(hi:Int))/2+1=(((lo+hi)/2+1:Nat):Int) by omega],rfl,by omega,h2,h3,A8 _,G8 hB2⟩
   .have hn:¬cv<0:=by simpa [hm]using hc
    clear hc;go_wp2_with fail;refine(CM _).mono ?_;rintro e w1 ⟨rfl,hb1⟩;have hB2:B0 w w1:=(G7 hB).trans (hb1.mono (G7 hB).size);clear CM;go_wp2_with fail
    go_roundg ((lo+hi)/2-lo)
    case measure=>omega
    case rel=>exact⟨lo,(lo+hi)/2,rfl,by rw[show ((lo:Int)+(hi:Int))/2=(((lo+hi)/2:Nat):Int) by omega],h1,by omega,by omega,A8 _,G8 hB2⟩
  .obtain rfl:lo=A.length:=by omega
   obtain rfl:hi=A.length:=by omega
   cases R with
   |nil=>
    go_wp2_with fail
    go_ret2
    exact⟨by rw[<-G7 HF];rfl,G7 hB⟩
   |cons f R=>
    have r:=(G7 H).kept (G7 hB) hb;have hy:(A++f::R)[A.length]?=G6 f:=by simp
    have e0:=r.c0 hy;have e1:=r.c1 hy;have e2:=r.c2 hy;clear hy r;have hc:=gY f.n name;have CM:=fun W=>A94 f name W;have hf:fin=decide (f.n=name):=(G7 HF).symm;rw[<-hc]at hf;clear hc HF;generalize ES f.n name=cv at hf CM;subst hf;simp only[BH];go_wp2_with fail;refine(CM _).mono ?_;rintro e w1 ⟨rfl,hb1⟩;have hB2:B0 w w1:=(G7 hB).trans (hb1.mono (G7 hB).size);clear CM;go_wp2_with fail
    go_ret2
    exact⟨by rfl,hB2⟩
theorem BI8(a:Option Addr)(cap:Nat)(name:List UInt8)(w:FW):
  FZ prog 149 #[FU a 0 cap,S0 name,.func (.func 150) #[] #[]] w fun e w'=>
   e=.returned (.tuple #[I0 0,.bool false])/\B0 w w':=by
 go_enter func149,ntmps149;go_wp2_with fail
 go_loopg [9,10] 1 (fun _ s9 s10 wr=>s9=I0 0/\s10=I0 0/\Hid (B0 w wr))
 case atStart=>exact⟨rfl,rfl,G8 (AA _ _)⟩
 case round=>
  obtain⟨rfl,rfl,hB⟩:=hrel;go_wp2_with fail
  go_ret2
  exact⟨rfl,G7 hB⟩
theorem o7(v:FX)(fs A R:List DF)(name:List UInt8)(w:FW)(hv:IV w v fs)(hl:fs.length<=16)(he:fs=A++R)(lo:∀a∈A,bl a.n name=true)(hi:∀a∈R,bl a.n name=false):
  FZ prog 103 #[.agg #[v],S0 name] w (R0 w (.tuple #[I0 A.length,.bool (bC R name)])):=by
 have C:∀W:FW,B0 w W->FZ prog 149 #[v,S0 name,.func (.func 150) #[] #[]] W fun e w'=>
   e=.returned (.tuple #[I0 A.length,.bool (bC R name)])/\B0 W w':=fun W hW=>by
  rcases hv with⟨a,cap,rfl,h0,_⟩|⟨b,off,cap,rfl,_,_,hb,_,hr⟩
  .rw[h0]at he;obtain⟨rfl,rfl⟩:A=[]/\R=[]:=by
    have:=congrArg List.length he;simp at this;exact⟨BZ (by omega),BZ (by omega)⟩
   exact BI8 a cap name W
  .subst he;rw[AP];exact C31 b off cap A R name W (by simpa using hl) (AY hb hW.size) (hr.kept hW hb) lo hi
 have C':=G8 C;have V:∃a n c,v=FU a n c:=by
  rcases hv with⟨a,cap,rfl,_,_⟩|⟨b,off,cap,rfl,_⟩
  .exact⟨_,_,_,rfl⟩
  .exact⟨_,_,_,rfl⟩
 obtain⟨a,n,c,rfl⟩:=V;clear C hv hl he lo hi;generalize bC R name=hd at C'⊢;go_enter func103,ntmps103;go_wp2_with fail;refine(G7 C' _ ((AA _ _).alloc (A8 _) _)).mono ?_;rintro e w1 ⟨rfl,hb1⟩;have hbz:=LJ hb1;go_wp2_with fail
 go_ret2
 exact⟨rfl,hbz⟩
theorem o8(v:FX)(fs A B:List DF)(f:DF)(name:List UInt8)(w:FW)(hv:IV w v fs)(hl:fs.length<=16)(T:There fs A f B name):
  FZ prog 103 #[.agg #[v],S0 name] w (R0 w (.tuple #[I0 A.length,.bool true])):=by
 have:=o7 v fs A (f::B) name w hv hl T.eq T.lo (fun a ha=>by
  rcases List.mem_cons.1 ha with rfl|h
  .rw[T.nm];exact QI _
  .exact OD (T.hi a h))
 rwa[show bC (f::B) name=true from by simp[bC,T.nm]]at this
theorem A95(v:FX)(fs A B:List DF)(name:List UInt8)(w:FW)(hv:IV w v fs)(hl:fs.length<=16)(G:Gap fs A B name):
  FZ prog 103 #[.agg #[v],S0 name] w (R0 w (.tuple #[I0 A.length,.bool false])):=by
 have:=o7 v fs A B name w hv hl G.eq G.lo (fun a ha=>OD (G.hi a ha));rwa[show bC B name=false from by
  cases B with
  |nil=>rfl
  |cons f B=>have:=WS (G.hi f (by simp));simp[bC,this.symm]]at this
theorem vH(h1:JB f.n=false):QJ f=false:=by simp[QJ,h1]
theorem zZ(h:1048576<f.s.length+f.t.length):QJ f=false:=by simp[QJ];intro _;omega
theorem AJ0(h1:JB f.n=true)(h:f.s.length+f.t.length<=1048576):QJ f=true:=by simp[QJ,h1,h]
theorem CH9{w1:FW}(hb:B0 W w1):(∀b o,b<W.heap.size->w1.cell? ⟨b,o,G5⟩=W.cell? ⟨b,o,G5⟩)/\(∀b o,b<W.heap.size->w1.frozen? ⟨b,o,G5⟩=W.frozen? ⟨b,o,G5⟩):=
 ⟨fun b o h=>hb.cell (p:=⟨b,o,G5⟩) h,fun b o h=>hb.frozen (p:=⟨b,o,G5⟩) h⟩
def mW(fs:List DF):Prop:=∀f∈fs,f.n.length<=140737488355328/\f.s.length<=140737488355328/\f.t.length<=140737488355328
theorem A96(n:List UInt8)(h:n.length<=140737488355328)(w:FW):
  FZ prog 102 #[S0 n] w fun e w'=>e=.returned (.bool (JB n))/\w'=w:=
 UD ⟨n.toArray⟩ w (by have:(AU n.toArray).size=n.length:=rfl;unfold maxLen;omega)
theorem AJ1(a:Option Addr)(cap:Nat)(w:FW):
  FZ prog 101 #[.agg #[FU a 0 cap]] w (R0 w (.bool true)):=by
 go_enter func101,ntmps101;go_wp2_with fail
 go_loopg [12] 1 (fun _ s12 wr=>s12=I0 0/\Hid (B0 w wr))
 case atStart=>exact⟨rfl,G8 ((AA _ _).alloc (A8 _) _)⟩
 case round=>
  obtain⟨rfl,hB⟩:=hrel;go_wp2_with fail;go_ret;exact⟨rfl,G7 hB⟩
theorem AJ2(b off cap n:Nat)(hn:16<n)(w:FW):
  FZ prog 101 #[.agg #[FU (G6 ⟨b,off,G5⟩) n cap]] w (R0 w (.bool false)):=by
 go_enter func101,ntmps101;go_wp2_with fail;go_ret;exact⟨rfl,(AA _ _).alloc (A8 _) _⟩
theorem AJ3(b off cap:Nat)(fs:List DF)(w:FW)(hs:mW fs)(hl:fs.length<=16)(hb:b<w.heap.size)(h:IC w b off (H8 fs)):
  FZ prog 101 #[.agg #[FU (G6 ⟨b,off,G5⟩) fs.length cap]] w (R0 w (.bool (VH fs))):=by
 have H:=G8 h;have HS:=G8 hs;have NO:=G8 (fun(k:Nat) (f:DF)=> @BG3 fs k f);have NR:=G8 (fun(k:Nat) (f g:DF)=> @AU0 fs k f g);have YES:=G8 (uI hl);have Z:=G8 (AT8 fs);have SU:=G8 (fun(k:Nat) (f:DF) (h:C09 fs k)=>AT9 (f:=f) h);have hb0:b≠w.heap.size:=by omega
 clear h hs;generalize VH fs=G at NO NR YES⊢;go_enter func101,ntmps101;go_wp2_with fail
 go_loopg [12] fs.length (fun kx s12 wr=>∃k:Nat,s12=I0 k/\k<=fs.length/\fs.length-k<=kx/\Hid (B0 w wr/\w.heap.size<wr.heap.size/\wr.cell? ⟨w.heap.size,0,G5⟩=G6 (FU (G6 ⟨b,off,G5⟩) fs.length cap))/\Hid (C09 fs k))
 case atStart=>exact⟨0,rfl,AZ _,by omega,G8 ⟨(AA _ _).alloc (A8 _) _,by simp,by simp⟩,Z⟩
 case round=>
  obtain⟨k,rfl,hk,hg,hB,hO⟩:=hrel;by_cases hlt:k<fs.length
  .obtain⟨f,hf⟩:∃f,fs[k]?=G6 f:=⟨_,AO hlt⟩;have HF:=G8 hf;have r:=(G7 H).kept (G7 hB).1 hb;have e0:=r.c0 hf;have e1:=r.c1 hf;have e2:=r.c2 hf;have hsl:=G7 HS f (BA hf);have hbw:b<wr.heap.size:=AY hb (G7 hB).1.size;have h00:=(G7 hB).2.2;clear hf r
   cases hn:JB f.n with
   |false=>
    have HN:=G8 hn;have CN:=fun W=>A96 f.n hsl.1 W;rw[hn]at CN;clear hn;go_wp2_with fail;refine(CN _).mono ?_;rintro e w1 ⟨rfl,rfl⟩;clear CN;go_wp2_with fail;go_ret;exact⟨RJ (G7 NO k f (G7 HF) (vH (G7 HN))).symm,(G7 hB).1.alloc (by have:=(G7 hB).1.size;omega) _⟩
   |true=>
    have HN:=G8 hn;have CN:=fun W=>A96 f.n hsl.1 W;rw[hn]at CN;clear hn;have HL:=G8 hsl;have hsum:f.s.length+f.t.length<=9223372036854775807:=by omega
    have CS:=fun W=>aY f W hsum;obtain⟨L,hL⟩:∃L,f.s.length+f.t.length=L:=⟨_,rfl⟩;rw[hL]at CS;have HL2:=G8 hL;have hLb:L<=9223372036854775807:=by omega
    clear hsl hsum hL;go_wp2_with fail;refine(CN _).mono ?_;rintro e w1 ⟨rfl,rfl⟩;clear CN;by_cases hbig:L<=1048576
    .have hok:=AJ0 (G7 HN) (by rw[G7 HL2];exact hbig);go_wp2_with fail;refine(CS _).mono ?_;rintro e w2 ⟨rfl,hb2⟩;clear CS;obtain⟨hc,hf⟩:=CH9 hb2;have hB2:B0 w w2:=(G7 hB).1.trans (LJ hb2|>.mono (G7 hB).1.size);have h01:w2.cell? ⟨w.heap.size,0,G5⟩=G6 (FU (G6 ⟨b,off,G5⟩) fs.length cap):=by
      rw[hc _ _ (by have:=(G7 hB).2.1;simp;omega),((AA wr.heap.size wr).alloc (A8 _) _).cell (p:=⟨w.heap.size,0,G5⟩) (G7 hB).2.1];exact h00
     have hz:w2.cell? ⟨wr.heap.size,0,G5⟩=G6 (S0 f.n):=by
      rw[hc _ _ (by simp)];simp
     have hlt2:w.heap.size<w2.heap.size:=by have:=hb2.size;have:=(G7 hB).2.1;simp at*;omega
     clear hc hf hb2 h00 e0 e1 e2;rcases Nat.eq_zero_or_pos k with hk0|hk0
     .subst hk0;have OK2:=G8 (G7 SU 0 f (G7 hO) (G7 HF) hok (fun g h=>absurd h (Nat.lt_irrefl 0)));go_wp2_with fail;go_region;go_wp2_with fail
      go_roundg (fs.length-1)
      case measure=>omega
      case rel=>exact⟨1,rfl,by omega,A8 _,G8 ⟨hB2.drew,hlt2,h01⟩,OK2⟩
     .obtain⟨m,rfl⟩:∃m,k=m+1:=⟨k-1,by omega⟩;obtain⟨g,hg⟩:∃g,fs[m]?=G6 g:=⟨_,AO (by omega)⟩;have r:=(G7 H).kept hB2 hb;have e0:=r.c0 hg;have HG:=G8 hg;clear r hg;have hm1:(m:Int)<(fs.length:Int):=by omega
      cases hbl:bl g.n f.n with
      |true=>
       have OK2:=G8 (G7 SU (m+1) f (G7 hO) (G7 HF) hok (fun g' _ h=>by
        rw[Nat.add_sub_cancel,G7 HG]at h
        cases h
        exact hbl))
       have hbl':Op.bytesLess g.n f.n=true:=hbl;clear hbl;go_wp2_with fail;go_region;go_wp2_with fail
       go_roundg (fs.length-(m+1+1))
       case measure=>omega
       case rel=>exact⟨m+1+1,rfl,by omega,A8 _,G8 ⟨hB2.drew,hlt2,h01⟩,OK2⟩
      |false=>
       have hbl':Op.bytesLess g.n f.n=false:=hbl;have GF:=(G7 NR (m+1) f g (G7 HF) (by simpa using G7 HG) (by omega) hbl).symm;have HGF:=G8 GF;clear hbl GF;go_wp2_with fail;go_region;go_wp2_with fail;go_ret;exact⟨RJ (G7 HGF),hB2.drew⟩
    .go_wp2_with fail;refine(CS _).mono ?_;rintro e w2 ⟨rfl,hb2⟩;have hB2:B0 w w2:=(G7 hB).1.trans (LJ hb2|>.mono (G7 hB).1.size);clear CS hb2;go_wp2_with fail;go_ret;exact⟨RJ (G7 NO k f (G7 HF) (zZ (by rw[G7 HL2];omega))).symm,hB2⟩
  .have hkk:k=fs.length:=by omega
   subst hkk;go_wp2_with fail;go_ret;exact⟨RJ (G7 YES (G7 hO)).symm,(G7 hB).1⟩
theorem AY4:VH []=true:=MR.2 ⟨by decide,by simp,List.Pairwise.nil⟩
theorem UJ(v:FX)(fs:List DF)(w:FW)(hv:IV w v fs)(hs:mW fs):
  FZ prog 101 #[.agg #[v]] w (R0 w (.bool (VH fs))):=by
 rcases hv with⟨a,cap,rfl,rfl,_⟩|⟨b,off,cap,rfl,_,_,hb,_,hr⟩
 .rw[AY4];exact AJ1 a cap w
 .by_cases hl:fs.length<=16
  .exact AJ3 b off cap fs w hs hl hb hr
  .rw[C11 (by omega)];exact AJ2 b off cap fs.length (by omega) w
theorem OQ(s:List UInt8)(w:FW)(hs:s.length<=281474976710656):
  FZ prog 48 #[S0 s] w (R0 w (S0 s)):=by
 have C:=fun W=>stringslite_Clone ⟨s.toArray⟩ W (show (AU s.toArray).size<=_ from hs);go_enter func48,ntmps48;go_wp2_with fail;refine(C _).mono ?_;rintro e w1 ⟨rfl,hb1⟩;go_wp2_with fail;go_ret;exact⟨rfl,hb1⟩
theorem AJ4:(prog.info? 81).map (fun i=>(i.zero,i.size,i.bytes))=G6 (G6 (.agg #[.string ⟨#[]⟩,.string ⟨#[]⟩,.string ⟨#[]⟩]),3,48):=by kernel_rfl
theorem UK:∃i0,prog.info? 81=G6 i0/\i0.zero=G6 (.agg #[.string ⟨#[]⟩,.string ⟨#[]⟩,.string ⟨#[]⟩])/\i0.size=3/\i0.bytes=48:=by
 obtain⟨i0,h,e⟩:=Option.map_eq_some_iff.1 AJ4;simp only[Prod.mk.injEq]at e;exact⟨i0,h,e⟩
theorem jS(a:Addr)(cap:Nat)(fs:List DF)(w:FW)(hl:fs.length<=1000000)(hc:∀j u,(H8 fs)[j]?=G6 u->w.cell? (a.add j)=G6 u):
  FZ prog 34 #[FU (G6 a) fs.length cap] w fun e w'=>∃v',e=.returned v'/\YG w' w.heap.size v' fs/\B0 w w':=by
 have q22:∀ (w:FW) (a:Option Addr) (n c n' c':Nat),(binOp .eql 28 (FU a n c) (FU G5 n' c')).run prog w=.ok (.bool a.isNone) w:=fun w a n c n' c'=>ER w _ _ a n c n' c' underlying28;have H:Hid (∀j u,(H8 fs)[j]?=G6 u->w.cell? (a.add j)=G6 u):=hc;clear hc;obtain⟨i0,hi0,hz0,hz1,hz2⟩:=UK;go_enter func34,ntmps34;go_wp2_with (at_builtin;refine wpList_append_own _ rfl _ _ 28 rfl w.heap.size 81 i0 _ 3 48 underlying28 hi0 hz0 hz1 hz2 rfl (by decide) _ _ _ rfl (World.ownsRow_made w #[] 0 (A8 _) (AZ _) (by simp)) a fs.length cap (H8 fs) rfl ?qc1 ?qc2 ?qc3 ?qc4 ?qc5 ?qc6 ?_)
 case qc1=>exact H7 fs
 case qc2=>
  intro j u hj;exact Lib.cell?_alloc_some _ (H.out j u hj)
 case qc3=>exact YF fs
 case qc4=>simp only[maxLen];omega
 case qc5=>omega
 case qc6=>simp
 intro v' w1 hown hgrow hnil
 go_wp2
 go_ret;refine⟨v',rfl,YG.L9 (by simpa using hown),?_⟩;exact((AA _ w).alloc (A8 _) _).grown hgrow (by simp) (by intro k hk;simp[Value.ownBlock]at hk;omega)
theorem AJ5(n c:Nat)(w:FW):
  FZ prog 34 #[FU G5 n c] w fun e w'=>e=.returned (N0)/\w'=w:=by
 have q22:∀ (w:FW) (a:Option Addr) (n c n' c':Nat),(binOp .eql 28 (FU a n c) (FU G5 n' c')).run prog w=.ok (.bool a.isNone) w:=fun w a n c n' c'=>ER w _ _ a n c n' c' underlying28;go_enter func34,ntmps34
 go_wp2
 go_ret;exact⟨rfl,rfl⟩
theorem AJ6(v:FX)(fs:List DF)(w:FW)(hv:IV w v fs)(hl:fs.length<=1000000):
  FZ prog 34 #[v] w fun e w'=>∃v',e=.returned v'/\YG w' w.heap.size v' fs/\B0 w w':=by
 rcases hv with⟨a,cap,rfl,rfl,_⟩|⟨b,off,cap,rfl,_,_,hb,_,hr⟩
 .cases a with
  |none=>exact(AJ5 0 cap w).mono fun e w' ⟨he,hw⟩=>⟨_,he,.inl ⟨rfl,rfl⟩,by rw[hw];exact AA _ _⟩
  |some a=>exact jS a cap [] w (by simp) (fun j u h=>by simp[H8]at h)
 .exact jS ⟨b,off,G5⟩ cap fs w hl (fun j u h=>by rw[Addr.add_lit];exact hr j u h)
theorem qP{a:Addr}(h:w.cell? a=G6 v):w.setCell a v=w:=by
 obtain⟨heap,tape,drawn,os,output⟩:=w;simp only[World.setCell,World.cell?]at*
 congr 1
 apply Array.ext_getElem?
 intro k;rw[Array.getElem?_modify];by_cases hk:a.block=k
 .subst hk;simp only[if_true]
  cases ho:heap[a.block]? with
  |none=>rfl
  |some o=>
   rw[ho]at h
   cases o with
   |cells c e fz=>
    simp only at h;by_cases hs:a.spot.isSome=true
    .simp[hs]at h
    .simp only[hs]at h;simp[hs];have hlt:a.off<c.size:=(Array.getElem?_eq_some_iff.1 (by simpa using h)).1;have hv:c[a.off]=v:=(Array.getElem?_eq_some_iff.1 (by simpa using h)).2;rw[<-hv];simp[Array.setIfInBounds,hlt]
   |_=>simp at h
 .simp[hk]
theorem PY(h:B0 w W)(h':B0 W V):B0 w V:=h.trans (h'.mono h.size)
theorem SH(v:FX)(fs:List DF)(w:FW)(hv:IV w v fs)(hs:mW fs)(hl:fs.length<=16):
  FZ prog 105 #[.agg #[v]] w fun e w'=>∃v',e=.returned (.agg #[v'])/\YG w' w.heap.size v' fs/\B0 w w':=by
 have V:∃a n c,v=FU a n c:=by
  rcases hv with⟨a,cap,rfl,_,_⟩|⟨b,off,cap,rfl,_⟩
  .exact⟨_,_,_,rfl⟩
  .exact⟨_,_,_,rfl⟩
 have HV:=G8 hv;have HS:=G8 hs;obtain⟨a,n,c,rfl⟩:=V;clear hv hs;go_enter func105,ntmps105;go_wp2_with fail;refine(AJ6 _ fs _ ((G7 HV).next (((AA _ _).alloc (A8 _) _).alloc (by simp) _)) (by omega)).mono ?_;rintro e w1 ⟨v',rfl,ho,hb1⟩;have hB1:B0 w w1:=LJ (LJ hb1);have c1:w1.cell? ⟨w.heap.size+1,0,G5⟩=G6 (N0):=by
  rw[hb1.cell (p:=⟨w.heap.size+1,0,G5⟩) (by simp)];simp
 have f1:w1.frozen? ⟨w.heap.size+1,0,G5⟩=false:=by
  rw[hb1.frozen (p:=⟨w.heap.size+1,0,G5⟩) (by simp)];simp
 have hz:w.heap.size+1<w1.heap.size:=by have:=hb1.size;simp at this;omega
 have hs2:((w.alloc (Obj.cells #[Value.slice a n c] 30)).alloc (Obj.cells #[N0] 30)).heap.size=w.heap.size+2:=by simp
 rw[hs2]at ho;clear hb1 hs2;rcases ho with⟨rfl,rfl⟩|⟨g,cap,rfl,hg,ho⟩
 .go_wp2_with fail
  go_loopg [11] 1 (fun _ s wr=>s=I0 0/\wr=w1)
  case atStart=>exact⟨rfl,rfl⟩
  case round=>
   obtain⟨rfl,rfl⟩:=hrel;go_wp2_with fail;exact bodyPost_ret (v:=.agg #[N0]) (by simp[results,results105,go_sem,c1]) rfl ⟨_,rfl,.inl ⟨rfl,rfl⟩,hB1.setCell (by simp) _⟩
 .have HO:=G8 ho;have hgl:=ho.lt;clear ho;go_wp2_with fail
  go_loopg [11] fs.length (fun kx s wr=>∃k:Nat,s=I0 k/\k<=fs.length/\fs.length-k<=kx/\Hid (B0 w1 wr))
  case atStart=>exact⟨0,rfl,AZ _,by omega,G8 (AA _ _)⟩
  case round=>
   obtain⟨k,rfl,hk,hkx,hB⟩:=hrel;by_cases hlt:k<fs.length
   .obtain⟨f,hf⟩:∃f,fs[k]?=G6 f:=⟨_,AO hlt⟩;have o:=(G7 HO).next (G7 hB);have QS:=o.lt;have e0:=o.c0 hf;have e1:=o.c1 hf;have e2:=o.c2 hf;have f0:=o.frozen (k*3);have f1:=o.frozen (k*3+1);have f2:=o.frozen (k*3+2);have hsl:=G7 HS f (BA hf);clear hf o;obtain⟨fn,fss,ft⟩:=f;have k0:=fun W=>OQ fn W (by have:=hsl.1;simp at this;omega);have k1:=fun W=>OQ fss W (by have:=hsl.2.1;simp at this;omega);have k2:=fun W=>OQ ft W (by have:=hsl.2.2;simp at this;omega);simp only at e0 e1 e2;clear hsl;go_wp2_with fail;have d0:∀d os,(Sort.grow (redrawn wr d) os).cell? ⟨g,k*3,G5⟩=G6 (S0 fn):=fun d os=>cell_regrown e0 d os;have d1:∀d os,(Sort.grow (redrawn wr d) os).cell? ⟨g,k*3+1,G5⟩=G6 (S0 fss):=fun d os=>cell_regrown e1 d os;have d2:∀d os,(Sort.grow (redrawn wr d) os).cell? ⟨g,k*3+2,G5⟩=G6 (S0 ft):=fun d os=>cell_regrown e2 d os;have g0:∀d os,(Sort.grow (redrawn wr d) os).frozen? ⟨g,k*3,G5⟩=false:=fun d os=>by rw[(below_regrown wr d os).frozen (p:=⟨g,k*3,G5⟩) QS];exact f0
    have g1:∀d os,(Sort.grow (redrawn wr d) os).frozen? ⟨g,k*3+1,G5⟩=false:=fun d os=>by rw[(below_regrown wr d os).frozen (p:=⟨g,k*3+1,G5⟩) QS];exact f1
    have g2:∀d os,(Sort.grow (redrawn wr d) os).frozen? ⟨g,k*3+2,G5⟩=false:=fun d os=>by rw[(below_regrown wr d os).frozen (p:=⟨g,k*3+2,G5⟩) QS];exact f2
    have s0:∀d os,(Sort.grow (redrawn wr d) os).setCell ⟨g,k*3,G5⟩ (S0 fn)=Sort.grow (redrawn wr d) os:=fun d os=>qP (d0 d os);have s1:∀d os,(Sort.grow (redrawn wr d) os).setCell ⟨g,k*3+1,G5⟩ (S0 fss)=Sort.grow (redrawn wr d) os:=fun d os=>qP (d1 d os);have s2:∀d os,(Sort.grow (redrawn wr d) os).setCell ⟨g,k*3+2,G5⟩ (S0 ft)=Sort.grow (redrawn wr d) os:=fun d os=>qP (d2 d os);have c0:=fun d os=>Calls.regrown_of (w:=wr) (d:=d) (os:=os) (k0 _);have c1':=fun d os=>Calls.regrown_of (w:=wr) (d:=d) (os:=os) (k1 _);have c2:=fun d os=>Calls.regrown_of (w:=wr) (d:=d) (os:=os) (k2 _);clear k0 k1 k2 e0 e1 e2 f0 f1 f2;refine wp_region_quiet_below (by kernel_rfl) (by kernel_rfl) ?_
    repeat (first|go_big_quiet_step (first|with_reducible exact c0 _ _|with_reducible exact c1' _ _|with_reducible exact c2 _ _)|quiet_step (first|with_reducible exact c0 _ _|with_reducible exact c1' _ _|with_reducible exact c2 _ _))
    refine wpQuiet_nil ?_;intro _ hw';obtain⟨⟨dq,osq⟩,hw''⟩:=hw';subst hw'';have hb2:=PY (G7 hB) (below_regrown wr dq osq);clear c0 c1' c2 s0 s1 s2 d0 d1 d2 g0 g1 g2;go_wp2_with fail
    go_roundg (fs.length-(k+1))
    case measure=>omega
    case rel=>exact⟨k+1,rfl,by omega,A8 _,G8 hb2⟩
   .have c2:wr.cell? ⟨w.heap.size+1,0,G5⟩=G6 (N0):=by
     rw[(G7 hB).cell (p:=⟨w.heap.size+1,0,G5⟩) hz];exact c1
    have f2:wr.frozen? ⟨w.heap.size+1,0,G5⟩=false:=by
     rw[(G7 hB).frozen (p:=⟨w.heap.size+1,0,G5⟩) hz];exact f1
    have hgw:g≠w.heap.size+1:=by omega
    go_wp2_with fail;exact bodyPost_ret (v:=.agg #[FU (G6 ⟨g,0,G5⟩) fs.length cap]) (by simp[results,results105,go_sem,c2]) rfl
     ⟨_,rfl,.inr ⟨g,cap,rfl,by omega,((G7 HO).next (G7 hB)).other hgw _⟩,(PY hB1 (G7 hB)).setCell (by simp) _⟩
theorem XB{j:Nat}(v:FX):w.grownBy (w.setCell ⟨g,j,G5⟩ v) (G6 g):=⟨rfl,rfl,rfl,by simp[World.setCell],fun k _ hne=>Below.heap_setCell w ⟨g,j,G5⟩ v k (fun e=>hne (by rw[e]))⟩
theorem AJ7{r:Option Nat}(h:w.grownBy w' r):w.grownBy w'.drew r:=⟨h.os,h.tape,h.output,h.size,h.block⟩
theorem SK{w'':FW}(h:w.grownBy w' (G6 g))(h':w'.grownBy w'' (G6 g)):w.grownBy w'' (G6 g):=
 ⟨h'.os.trans h.os,h'.tape.trans h.tape,h'.output.trans h.output,BO h.size h'.size,fun k hk hne=>(h'.block k (AY hk h.size) hne).trans (h.block k hk hne)⟩
theorem vI(h:B0 w w'):w.grownBy w' (G6 g):=⟨h.os,h.tape,h.output,h.size,fun k hk _=>h.block k hk⟩
theorem qQ(l m:List UInt8):(AU l.toArray)++(AU m.toArray)=⟨(l++m).toArray⟩:=by
 have h:((AU l.toArray)++(AU m.toArray)).data.toList=l++m:=by simp[ByteArray.data_append]
 exact congrArg (fun l:List UInt8=>AU l.toArray) h
theorem AY5(l:List UInt8)(d:Nat):(AU l.toArray).extract 0 d=⟨(l.take d).toArray⟩:=by
 apply ByteArray.ext
 apply Array.toList_inj.1
 have h:=Lib.extract_toList (AU l.toArray) 0 d;rw[Lib.toList_data]at h;refine h.trans ?_;show (l.drop 0).take (d-0)=_;simp
theorem dU(g cap k:Nat)(fs:List DF)(f:DF)(n:Nat)(w:FW)(ho:Own w g cap fs)(hk:fs[k]?=G6 f)(hn:n<=f.s.length+f.t.length)(hf:f.s.length+f.t.length<=1048576):
  FZ prog 110 #[.pointer (G6 ⟨g,k*3,G5⟩),I0 n] w fun e w'=>
   e=.returned (.tuple #[])/\Own w' g cap (fs.set k ⟨f.n,(f.s++f.t).take n,[]⟩)/\w.grownBy w' (G6 g):=by
 have e1:=ho.c1 hk;have e2:=ho.c2 hk;have f1:=ho.frozen (k*3+1);have f2:=ho.frozen (k*3+2);have HO:=G8 ho;have HK:=G8 hk;clear ho hk;obtain⟨fn,fss,ft⟩:=f;simp only at*;have hn1:(n:Int)<=(fss.length:Int)+(ft.length:Int):=by omega
 go_enter func110,ntmps110;go_wp2_with fail;go_region;go_wp2_with fail
 go_end0
 refine⟨rfl,?_,?_⟩
 .rw[qQ,AY5];have h1:=(G7 HO).s1 (G7 HK) ((fss++ft).take n);have h2:=h1.s2 (f:=⟨fn,(fss++ft).take n,ft⟩) (by rw[List.getElem?_set_self (AV.1 (G7 HK)).1]) [];rw[List.set_set]at h2;exact h2
 .exact AJ7 (SK (XB _) (XB _))
theorem o9(g cap k:Nat)(fs:List DF)(f:DF)(x:List UInt8)(w:FW)(ho:Own w g cap fs)(hk:fs[k]?=G6 f)(hx:x.length<=1048576)(hf:f.t.length<=1048576):
  FZ prog 107 #[.pointer (G6 ⟨g,k*3,G5⟩),S0 x] w fun e w'=>
   e=.returned (.tuple #[])/\Own w' g cap (fs.set k ⟨f.n,f.s,f.t++x⟩)/\w.grownBy w' (G6 g):=by
 have e2:=ho.c2 hk;have f2:=ho.frozen (k*3+2);have HO:=G8 ho;have HK:=G8 hk;have hg:=ho.lt;clear ho hk;obtain⟨fn,fss,ft⟩:=f;simp only at*;have C:=fun W=>OQ x W (by omega);have hlen:¬9223372036854775807<ft.length+x.length:=by omega
 go_enter func107,ntmps107;go_wp2_with fail
 go_region_with (first|(go_at_call 48;refine(C _).mono ?_;rintro e w1 ⟨rfl,hb1⟩;have e3:w1.cell? ⟨g,k*3+2,G5⟩=G6 (S0 ft):=(hb1.cell (p:=⟨g,k*3+2,G5⟩) hg).trans e2;have f3:w1.frozen? ⟨g,k*3+2,G5⟩=false:=(hb1.frozen (p:=⟨g,k*3+2,G5⟩) hg).trans f2))
 all_goals go_wp2_with fail
 all_goals
  have hb:B0 w w1:=((AA _ w).drew).trans hb1
  go_end0
  refine⟨rfl,?_,SK (vI hb) (XB _)⟩;rw[qQ];exact((G7 HO).next hb).s2 (G7 HK) (ft++x)
theorem QD{t:TypeId}{fz:Nat×Nat}:∀ (vs:List FX) (o:Nat) (w:FW) (l:List FX),w.heap[g]?=G6 (FV l.toArray t fz)->o+vs.length<=l.length->
  (w.setCells g o vs).heap[g]?=G6 (FV (l.take o++vs++l.drop (o+vs.length)).toArray t fz)
 |[],o,w,l,h,_=>by simpa [World.setCells]using h
 |v::r,o,w,l,h,hl=>by
  have h1:(w.setCell ⟨g,o,G5⟩ v).heap[g]?=G6 (FV (l.set o v).toArray t fz):=by rw[GV v h];simp
  rw[World.setCells,QD r (o+1) _ _ h1 (by simp at hl⊢;omega)];have ho:o<l.length:=by simp at hl;omega
  have e1:(l.set o v).take (o+1)=l.take o++[v]:=by
   rw[List.take_set,List.take_succ_eq_append_getElem ho,List.set_append_right _ _ (by simp;omega)];simp[Nat.min_eq_left (Nat.le_of_lt ho)]
  have e2:(l.set o v).drop (o+1+r.length)=l.drop (o+(r.length+1)):=by
   rw[List.drop_set_of_lt (by omega)];congr 1;omega
  rw[e1,e2];simp
theorem LV:∀ (vs:List FX) (o:Nat) (w:FW),w.grownBy (w.setCells g o vs) (G6 g)
 |[],_,_=>⟨rfl,rfl,rfl,A8 _,fun _ _ _=>rfl⟩
 |v::r,o,_=>SK (XB v) (LV r (o+1) _)
theorem Own.splice{pre tl:List DF}(h:Own W g cap (pre++tl))(new:List DF)(hfit:pre.length+new.length<=cap):Own (W.setCells g (pre.length*3) (H8 new)) g cap (pre++new):=by
 obtain⟨rest,h1,h2,h3⟩:=h;have hlen:(H8 (pre++tl)++rest).length=cap*3:=by rw[AP,H7];exact h2
 refine⟨(H8 (pre++tl)++rest).drop (pre.length*3+(H8 new).length),?_,?_,h3⟩
 .rw[QD (H8 new) (pre.length*3) W _ h1 (by rw[hlen,H7];omega),JR pre new]
  congr 3
  have e:H8 (pre++tl)++rest=H8 pre++(H8 tl++rest):=by rw[JR,BU]
  rw[e,<-H7 pre,List.take_left]
 .rw[List.length_drop,hlen,H7,AP];omega
theorem Own.spare(h:Own W g cap fs)(vs:List FX)(o:Nat)(ho:fs.length*3<=o)(hfit:o+vs.length<=cap*3):Own (W.setCells g o vs) g cap fs:=by
 obtain⟨rest,h1,h2,h3⟩:=h;have hlen:(H8 fs++rest).length=cap*3:=by rw[AP,H7];exact h2
 have hc:=H7 fs;refine⟨rest.take (o-fs.length*3)++vs++(H8 fs++rest).drop (o+vs.length),?_,?_,h3⟩
 .rw[QD vs o W _ h1 (by rw[hlen];omega)]
  congr 2
  rw[List.take_append,BN (by omega),hc];simp only[BU]
 .simp only[AP,List.length_take,List.length_drop,hc];omega
theorem Own.vC{A B:List DF}{y:DF}(h:Own W g cap (A++y::B))(x:DF):Own (W.setCells g (A.length*3) (JD x)) g cap (A++x::B):=by
 obtain⟨rest,h1,h2,h3⟩:=h;have hlen:(H8 (A++y::B)++rest).length=cap*3:=by rw[AP,H7];exact h2
 refine⟨rest,?_,by simpa using h2,h3⟩;have hA:=H7 A;rw[QD (JD x) (A.length*3) W _ h1 (by rw[hlen];simp[JD]at h2⊢;omega)];have e:H8 (A++y::B)++rest=H8 A++(JD y++(H8 B++rest)):=by simp[JR,H8]
 have e':H8 (A++x::B)++rest=H8 A++(JD x++(H8 B++rest)):=by simp[JR,H8]
 rw[e,e'];have hx3:(JD x).length=3:=rfl;have hy3:(JD y).length=3:=rfl
 congr 2
 rw[hx3,<-hA,List.take_left,show (H8 A).length+3=(H8 A++JD y).length by rw[AP,hy3],<-BU (H8 A) (JD y),List.drop_left,BU]
def AY6(fs:List DF)(name:List UInt8)(E:Int):Prop:=(VH fs=false/\E=3)\/(LQ fs/\(∃A B,Gap fs A B name)/\E=7)
theorem jT(fs:List DF)(name:List UInt8):(∃E,AY6 fs name E)\/(LQ fs/\∃A f B,There fs A f B name):=by
 cases hg:VH fs with
 |false=>exact .inl ⟨3,.inl ⟨hg,rfl⟩⟩
 |true=>
  have g:=MR.1 hg;rcases A73 name fs g.asc with h|h
  .exact .inr ⟨g,h⟩
  .exact .inl ⟨7,.inr ⟨g,h,rfl⟩⟩
theorem IZ(hv:IV w v fs):∃a n c,v=FU a n c:=by
 rcases hv with⟨a,cap,rfl,_,_⟩|⟨b,off,cap,rfl,_⟩
 .exact⟨_,_,_,rfl⟩
 .exact⟨_,_,_,rfl⟩
theorem jU(v:FX)(fs:List DF)(name:List UInt8)(E:Int)(w:FW)(hv:IV w v fs)(hs:mW fs)(h:AY6 fs name E):
  FZ prog 100 #[.agg #[v],.string ⟨name.toArray⟩] w fun e w'=>e=.returned (.tuple #[.int .i64 0,.int .i64 E])/\Below w.heap.size w w':=by
 obtain⟨a,n,c,rfl⟩:=IZ hv;have HV:=G8 hv;have CG:=fun W (h:Below w.heap.size w W)=>UJ _ fs W (hv.next h) hs;rcases h with⟨hg,rfl⟩|⟨g,⟨A,B,G⟩,rfl⟩
 .rw[hg]at CG;clear hg hv hs;go_enter func100,ntmps100;go_wp2_with fail;refine(CG _ ((AA _ _).alloc (A8 _) _)).mono ?_;rintro e w1 ⟨rfl,hb1⟩;have hbz:=LJ hb1;clear CG;go_wp2_with fail
  go_ret2
  exact⟨rfl,hbz⟩
 .rw[MR.2 g]at CG;have CF:=fun W (h:Below w.heap.size w W)=>A95 _ fs A B name W (hv.next h) g.few G;clear hv hs g G;go_enter func100,ntmps100;go_wp2_with fail;refine(CG _ ((AA _ _).alloc (A8 _) _)).mono ?_;rintro e w1 ⟨rfl,hb1⟩;have hbz:=LJ hb1;have c1:w1.cell? ⟨w.heap.size,0,G5⟩=G6 (FU a n c):=by rw[hb1.cell (p:=⟨w.heap.size,0,G5⟩) (by simp)];simp
  clear CG hb1;go_wp2_with fail;refine(CF _ hbz).mono ?_;rintro e w2 ⟨rfl,hb2⟩;have hbx:=PY hbz hb2;clear CF;go_wp2_with fail
  go_ret2
  exact⟨rfl,hbx⟩
theorem TP(v:FX)(fs A B:List DF)(f:DF)(name:List UInt8)(w:FW)(hv:IV w v fs)(hs:mW fs)(g:LQ fs)(T:There fs A f B name):
  FZ prog 100 #[.agg #[v],.string ⟨name.toArray⟩] w fun e w'=>e=.returned (.tuple #[.int .i64 A.length,.int .i64 0])/\Below w.heap.size w w':=by
 obtain⟨a,n,c,rfl⟩:=IZ hv;have CG:=fun W (h:Below w.heap.size w W)=>UJ _ fs W (hv.next h) hs;rw[MR.2 g]at CG;have CF:=fun W (h:Below w.heap.size w W)=>o8 _ fs A B f name W (hv.next h) g.few T;clear hv hs g T;go_enter func100,ntmps100;go_wp2_with fail;refine(CG _ ((AA _ _).alloc (A8 _) _)).mono ?_;rintro e w1 ⟨rfl,hb1⟩;have hbz:=LJ hb1;have c1:w1.cell? ⟨w.heap.size,0,G5⟩=G6 (FU a n c):=by rw[hb1.cell (p:=⟨w.heap.size,0,G5⟩) (by simp)];simp
 clear CG hb1;go_wp2_with fail;refine(CF _ hbz).mono ?_;rintro e w2 ⟨rfl,hb2⟩;have hbx:=PY hbz hb2;clear CF;go_wp2_with fail
 go_ret2
 exact⟨rfl,hbx⟩
theorem XC{A B:List DF}{name:List UInt8}(hv:IV w v fs)(T:There fs A f B name):
  ∃b off cap,v=FU (G6 ⟨b,off,G5⟩) fs.length cap/\b<w.heap.size/\IC w b off (H8 fs)/\fs[A.length]?=G6 f/\A.length<fs.length:=by
 have hk:fs[A.length]?=G6 f:=by rw[T.eq];simp
 rcases hv with⟨a,cap,rfl,rfl,_⟩|⟨b,off,cap,rfl,_,_,hb,_,hr⟩
 .simp at hk
 .exact⟨b,off,cap,rfl,hb,hr,hk,(AV.1 hk).1⟩
theorem A00(v:FX)(fs:List DF)(name:List UInt8)(E:Int)(w:FW)(hv:IV w v fs)(hs:mW fs)(h:AY6 fs name E):
  FZ prog 70 #[.agg #[v],.string ⟨name.toArray⟩] w fun e w'=>e=.returned (.tuple #[.string ⟨#[]⟩,.int .i64 E])/\Below w.heap.size w w':=by
 obtain⟨a,n,c,rfl⟩:=IZ hv;have C:=fun W (hW:Below w.heap.size w W)=>jU _ fs name E W (hv.next hW) hs h;have hne:(E !=0)=true:=by rcases h with⟨_,rfl⟩|⟨_,_,rfl⟩<;>decide
 clear hv hs h;go_enter func70,ntmps70;go_wp2_with fail;refine(C _ ((AA _ _).alloc (A8 _) _)).mono ?_;rintro e w1 ⟨rfl,hb1⟩;have hbz:=LJ hb1;clear C;go_wp2_with fail
 go_ret2
 exact⟨rfl,hbz⟩
theorem oC(v:FX)(fs A B:List DF)(f:DF)(name:List UInt8)(w:FW)(hv:IV w v fs)(hs:mW fs)(g:LQ fs)(T:There fs A f B name):
  FZ prog 70 #[.agg #[v],.string ⟨name.toArray⟩] w fun e w'=>e=.returned (.tuple #[.string ⟨(f.s++f.t).toArray⟩,.int .i64 0])/\Below w.heap.size w w':=by
 have C:=fun W (hW:Below w.heap.size w W)=>TP _ fs A B f name W (hv.next hW) hs g T;obtain⟨b,off,cap,rfl,hb,hr,hk,hlt⟩:=XC hv T;have hfl:=NM (T.ok g);have HR:=G8 hr;have HK:=G8 hk;have hb0:b≠w.heap.size:=by omega
 have BE5:(A.length:Int)<(fs.length:Int):=by omega
 clear hv hs g T hr hk;go_enter func70,ntmps70;go_wp2_with fail;refine(C _ ((AA _ _).alloc (A8 _) _)).mono ?_;rintro e w1 ⟨rfl,hb1⟩;have hbz:=LJ hb1;have c1:w1.cell? ⟨w.heap.size,0,G5⟩=G6 (FU (G6 ⟨b,off,G5⟩) fs.length cap):=by rw[hb1.cell (p:=⟨w.heap.size,0,G5⟩) (by simp)];simp
 have r:=(G7 HR).kept hbz hb;have e0:=r.c0 (G7 HK);have e1:=r.c1 (G7 HK);have e2:=r.c2 (G7 HK);obtain⟨fn,fss,ft⟩:=f;simp only at*;have k1:=fun W=>OQ fss W (by omega);have k2:=fun W=>OQ ft W (by omega);have hlen:¬9223372036854775807<fss.length+ft.length:=by omega
 clear C hb1 r;go_wp2_with fail;have a1:(w1.alloc (Obj.cells #[Value.string ⟨fn.toArray⟩,Value.string ⟨fss.toArray⟩,Value.string ⟨ft.toArray⟩] 81)).cell? ⟨w1.heap.size,1,G5⟩=G6 (.string ⟨fss.toArray⟩):=by simp
 have a2:(w1.alloc (Obj.cells #[Value.string ⟨fn.toArray⟩,Value.string ⟨fss.toArray⟩,Value.string ⟨ft.toArray⟩] 81)).cell? ⟨w1.heap.size,2,G5⟩=G6 (.string ⟨ft.toArray⟩):=by simp
 have hbw:=hbz.alloc hbz.size (Obj.cells #[Value.string ⟨fn.toArray⟩,Value.string ⟨fss.toArray⟩,Value.string ⟨ft.toArray⟩] 81);generalize w1.alloc (Obj.cells #[Value.string ⟨fn.toArray⟩,Value.string ⟨fss.toArray⟩,Value.string ⟨ft.toArray⟩] 81)=W at a1 a2 hbw⊢;have d1:∀d os,(Sort.grow (redrawn W d) os).cell? ⟨w1.heap.size,1,G5⟩=G6 (.string ⟨fss.toArray⟩):=fun d os=>cell_regrown a1 d os;have d2:∀d os,(Sort.grow (redrawn W d) os).cell? ⟨w1.heap.size,2,G5⟩=G6 (.string ⟨ft.toArray⟩):=fun d os=>cell_regrown a2 d os;have c1':=fun d os=>Calls.regrown_of (w:=W) (d:=d) (os:=os) (k1 _);have c2:=fun d os=>Calls.regrown_of (w:=W) (d:=d) (os:=os) (k2 _);clear k1 k2 a1 a2 e0 e1 e2 c1;refine wp_region_quiet_below (by kernel_rfl) (by kernel_rfl) ?_
 repeat (first|go_big_quiet_step (first|with_reducible exact c1' _ _|with_reducible exact c2 _ _)|quiet_step (first|with_reducible exact c1' _ _|with_reducible exact c2 _ _))
 refine wpQuiet_nil ?_;intro _ hw';obtain⟨⟨dq,osq⟩,hw''⟩:=hw';subst hw'';have hb2:=PY hbw (below_regrown W dq osq);clear c1' c2 d1 d2;go_wp2_with fail
 go_ret2
 exact⟨by rw[<-qQ];rfl,hb2⟩
structure PO(w W:FW)(v:FX):Prop where
 below:B0 w W
 size:w.heap.size+2<=W.heap.size
 cd:W.cell? ⟨w.heap.size,0,G5⟩=G6 v
 cr:W.cell? ⟨w.heap.size+1,0,G5⟩=G6 (N0)
 fr:W.frozen? ⟨w.heap.size+1,0,G5⟩=false
theorem PO.next(h:PO w W v)(hb:B0 W V):PO w V v:=
 ⟨PY h.below hb,BO h.size hb.size,by rw[hb.cell (p:=⟨w.heap.size,0,G5⟩) (by have:=h.size;show w.heap.size<_;omega)];exact h.cd,
  by rw[hb.cell (p:=⟨w.heap.size+1,0,G5⟩) (by have:=h.size;show w.heap.size+1<_;omega)];exact h.cr,by rw[hb.frozen (p:=⟨w.heap.size+1,0,G5⟩) (by have:=h.size;show w.heap.size+1<_;omega)];exact h.fr⟩
theorem PO.grown(h:PO w W v)(hg:W.grownBy V (G6 g))(hl:w.heap.size+2<=g):PO w V v:=by
 have hs:=h.size;have b0:V.heap[w.heap.size]?=W.heap[w.heap.size]? :=hg.block _ (by omega) (fun e=>by cases e;omega);have b1:V.heap[w.heap.size+1]?=W.heap[w.heap.size+1]? :=hg.block _ (by omega) (fun e=>by cases e;omega);exact⟨h.below.grown hg (by omega) (fun k e=>by cases e;omega),BO h.size hg.size,(World.cell?_of_block b0).trans h.cd,(World.cell?_of_block b1).trans h.cr,(World.frozen?_of_block b1).trans h.fr⟩
theorem PO.start(w:FW)(v:FX)(t t':TypeId):PO w ((w.alloc (FV #[v] t)).alloc (FV #[N0] t')) v:=
 ⟨((AA _ _).alloc (A8 _) _).alloc (by simp) _,by simp,by simp,by simp,by simp⟩
theorem PO.alloc(h:PO w W v)(o:Obj):PO w (W.alloc o) v:=h.next ((AA _ _).alloc (A8 _) o)
theorem UL(h:Below W.drew.heap.size W.drew V):B0 W V:=((AA _ W).drew).trans h
theorem CU4(v:FX)(fs:List DF)(name:List UInt8)(E:Int)(w:FW)(hv:IV w v fs)(hs:mW fs)(h:AY6 fs name E):
  FZ prog 138 #[.agg #[v],S0 name] w (R0 w (.tuple #[.agg #[N0],I0 E])):=by
 obtain⟨a,n0,c,rfl⟩:=IZ hv;have C:=fun W (hW:B0 w W)=>jU _ fs name E W (hv.next hW) hs h;have hne:(E !=0)=true:=by rcases h with⟨_,rfl⟩|⟨_,_,rfl⟩<;>decide
 clear hv hs h;go_enter func138,ntmps138;go_wp2_with fail;refine(C _ (((AA _ _).alloc (A8 _) _).alloc (by simp) _)).mono ?_;rintro e w1 ⟨rfl,hb1⟩;have hbz:=LJ (LJ hb1);have c1:w1.cell? ⟨w.heap.size+1,0,G5⟩=G6 (N0):=by rw[hb1.cell (p:=⟨w.heap.size+1,0,G5⟩) (by simp)];simp
 have f1:w1.frozen? ⟨w.heap.size+1,0,G5⟩=false:=by rw[hb1.frozen (p:=⟨w.heap.size+1,0,G5⟩) (by simp)];simp
 clear C hb1;go_wp2_with fail;exact bodyPost_ret (v:=.tuple #[.agg #[N0],I0 E]) (by simp[results,results138,go_sem,c1]) rfl ⟨rfl,hbz.setCell (by simp) _⟩
theorem AY7(v:FX)(fs:List DF)(name:List UInt8)(E:Int)(w:FW)(hv:IV w v fs)(hs:mW fs)(h:AY6 fs name E):
  FZ prog 137 #[.agg #[v],S0 name] w (R0 w (.tuple #[.agg #[N0],I0 E])):=by
 obtain⟨a,n0,c,rfl⟩:=IZ hv;have C:=fun W (hW:B0 w W)=>jU _ fs name E W (hv.next hW) hs h;have hne:(E !=0)=true:=by rcases h with⟨_,rfl⟩|⟨_,_,rfl⟩<;>decide
 clear hv hs h;go_enter func137,ntmps137;go_wp2_with fail;refine(C _ (((AA _ _).alloc (A8 _) _).alloc (by simp) _)).mono ?_;rintro e w1 ⟨rfl,hb1⟩;have hbz:=LJ (LJ hb1);have c1:w1.cell? ⟨w.heap.size+1,0,G5⟩=G6 (N0):=by rw[hb1.cell (p:=⟨w.heap.size+1,0,G5⟩) (by simp)];simp
 have f1:w1.frozen? ⟨w.heap.size+1,0,G5⟩=false:=by rw[hb1.frozen (p:=⟨w.heap.size+1,0,G5⟩) (by simp)];simp
 clear C hb1;go_wp2_with fail;exact bodyPost_ret (v:=.tuple #[.agg #[N0],I0 E]) (by simp[results,results137,go_sem,c1]) rfl ⟨rfl,hbz.setCell (by simp) _⟩
theorem YH{B:Nat}(h:YG W B v fs){k:Nat}(hk:k<fs.length):∃g cap,v=FU (G6 ⟨g,0,G5⟩) fs.length cap/\B<=g/\Own W g cap fs:=by
 rcases h with⟨rfl,rfl⟩|h
 .simp at hk
 .exact h
theorem YI(v:FX)(fs A B:List DF)(f:DF)(name:List UInt8)(w:FW)(hv:IV w v fs)(hs:mW fs)(g:LQ fs)(T:There fs A f B name):
  FZ prog 138 #[.agg #[v],S0 name] w fun e w'=>∃v',e=.returned (.tuple #[.agg #[v'],I0 0])/\YG w' w.heap.size v' (A++⟨f.n,f.s++f.t,[]⟩::B)/\B0 w w':=by
 have C:=fun W (hW:B0 w W)=>TP _ fs A B f name W (hv.next hW) hs g T;have CC:=fun W (hW:B0 w W)=>SH _ fs W (hv.next hW) hs g.few;obtain⟨b,off,cap,rfl,hb,hr,hk,hlt⟩:=XC hv T;have hfl:=NM (T.ok g);have HR:=G8 hr;have HK:=G8 hk;have HT:=G8 T.eq;have hb0:b≠w.heap.size:=by omega
 have BE5:(A.length:Int)<(fs.length:Int):=by omega
 have CS:=fun W=>aY f W (by omega);have CT:=fun(g c:Nat) (W:FW) (ho:Own W g c fs)=>dU g c A.length fs f (f.s.length+f.t.length) W ho hk (by omega) hfl;have hset:fs.set A.length ⟨f.n,(f.s++f.t).take (f.s.length+f.t.length),[]⟩=A++⟨f.n,f.s++f.t,[]⟩::B:=by rw[T.eq];simp[BN]
 have hsl:fs.length=(A++⟨f.n,f.s++f.t,[]⟩::B).length:=by rw[T.eq];simp
 rw[hset]at CT;obtain⟨fs',BX4⟩:∃x,A++⟨f.n,f.s++f.t,[]⟩::B=x:=⟨_,rfl⟩;rw[BX4]at CT hsl⊢;have HSL:=G8 hsl;obtain⟨L,hL⟩:∃L,f.s.length+f.t.length=L:=⟨_,rfl⟩;rw[hL]at CS hfl CT;clear hv hs g T hr hk hset BX4 hsl hL HT;go_enter func138,ntmps138;go_wp2_with fail;have X:=PO.start w (FU (G6 ⟨b,off,G5⟩) fs.length cap) 30 30;generalize (w.alloc (FV #[FU (G6 ⟨b,off,G5⟩) fs.length cap] 30)).alloc (FV #[N0] 30)=w0 at*;refine(C _ X.below).mono ?_;rintro e w1 ⟨rfl,hb1⟩;have X1:=X.next hb1;have HX:=G8 X1;have cd:=X1.cd;have r:=(G7 HR).kept X1.below hb;have e0:=r.c0 (G7 HK);have e1:=r.c1 (G7 HK);have e2:=r.c2 (G7 HK);clear C hb1 r X X1;go_wp2_with fail;refine(CC _ (G7 HX).below).mono ?_;rintro e w2 ⟨v',rfl,ho,hb2⟩;obtain⟨g,cap2,rfl,hg,ho⟩:=YH ho hlt;have hgl:=ho.lt;have hg2:w.heap.size+2<=g:=by have:=(G7 HX).size;omega
 have X2:=((G7 HX).next hb2).alloc (FV #[FU (G6 ⟨g,0,G5⟩) fs.length cap2] 30);have ho2:=ho.alloc (FV #[FU (G6 ⟨g,0,G5⟩) fs.length cap2] 30);have ca:(w2.alloc (FV #[FU (G6 ⟨g,0,G5⟩) fs.length cap2] 30)).cell? ⟨w2.heap.size,0,G5⟩=G6 (FU (G6 ⟨g,0,G5⟩) fs.length cap2):=by simp
 have haz:w2.heap.size<(w2.alloc (FV #[FU (G6 ⟨g,0,G5⟩) fs.length cap2] 30)).heap.size:=by simp
 clear CC hb2 ho HX cd e0 e1 e2;go_wp2_with fail;generalize w2.alloc (FV #[FU (G6 ⟨g,0,G5⟩) fs.length cap2] 30)=W at*;have HX:=G8 X2;have HO:=G8 ho2;have cd:=X2.cd;have r:=(G7 HR).kept X2.below hb;have e0:=r.c0 (G7 HK);have e1:=r.c1 (G7 HK);have e2:=r.c2 (G7 HK);clear r X2 ho2
 go_region_with (first
  |(go_at_call 104;refine(CS _).mono ?_;rintro e w3 ⟨rfl,hb3⟩;have ca3:w3.cell? ⟨w2.heap.size,0,G5⟩=G6 (FU (G6 ⟨g,0,G5⟩) fs.length cap2):=(hb3.cell (p:=⟨w2.heap.size,0,G5⟩) haz).trans ca)
  |(go_at_call 110;refine(CT g cap2 w3 ((G7 HO).next (UL hb3))).mono ?_;rintro e w4 ⟨rfl,ho4,hg4⟩))
 all_goals
  have X4:=((G7 HX).next (UL hb3)).grown hg4 hg2;have ca4:w4.cell? ⟨w2.heap.size,0,G5⟩=G6 (FU (G6 ⟨g,0,G5⟩) fs.length cap2):=hg4.cell ca3 (fun e=>by have e3:w2.heap.size=g:=BP e;omega);have cr:=X4.cr;have fr:=X4.fr;have HB:=G8 X4.below;have HO4:=G8 ho4;clear X4 ho4 hg4;clear CS CT;go_wp2_with fail;refine bodyPost_ret (v:=.tuple #[.agg #[FU (G6 ⟨g,0,G5⟩) fs.length cap2],I0 0]) (by simp[results,results138,go_sem,cr]) rfl ⟨_,rfl,.inr ⟨g,cap2,by rw[G7 HSL],by omega,(G7 HO4).other (by show g≠w.heap.size+1;omega) _⟩,(G7 HB).setCell (by simp) _⟩
theorem vJ(v:FX)(fs A B:List DF)(f:DF)(name:List UInt8)(n:Nat)(w:FW)(hv:IV w v fs)(hs:mW fs)(g:LQ fs)(T:There fs A f B name)(hn:n<=f.s.length+f.t.length):
  FZ prog 73 #[.agg #[v],S0 name,I0 n] w fun e w'=>∃v',e=.returned (.tuple #[.agg #[v'],I0 0])/\YG w' w.heap.size v' (A++⟨f.n,(f.s++f.t).take n,[]⟩::B)/\B0 w w':=by
 have C:=fun W (hW:B0 w W)=>TP _ fs A B f name W (hv.next hW) hs g T;have CC:=fun W (hW:B0 w W)=>SH _ fs W (hv.next hW) hs g.few;obtain⟨b,off,cap,rfl,hb,hr,hk,hlt⟩:=XC hv T;have hfl:=NM (T.ok g);have HR:=G8 hr;have HK:=G8 hk;have HT:=G8 T.eq;have hb0:b≠w.heap.size:=by omega
 have BE5:(A.length:Int)<(fs.length:Int):=by omega
 have CS:=fun W=>aY f W (by omega);have CT:=fun(g c:Nat) (W:FW) (ho:Own W g c fs)=>dU g c A.length fs f n W ho hk (by omega) hfl;have hset:fs.set A.length ⟨f.n,(f.s++f.t).take n,[]⟩=A++⟨f.n,(f.s++f.t).take n,[]⟩::B:=by rw[T.eq];simp
 have hsl:fs.length=(A++⟨f.n,(f.s++f.t).take n,[]⟩::B).length:=by rw[T.eq];simp
 rw[hset]at CT;obtain⟨fs',BX4⟩:∃x,A++⟨f.n,(f.s++f.t).take n,[]⟩::B=x:=⟨_,rfl⟩;rw[BX4]at CT hsl⊢;have HSL:=G8 hsl;obtain⟨L,hL⟩:∃L,f.s.length+f.t.length=L:=⟨_,rfl⟩;rw[hL]at CS hfl hn;have hn0:¬ ((n:Int)<0):=by omega
 have hn1:¬ ((L:Int)<(n:Int)):=by omega
 clear hv hs g T hr hk hset BX4 hsl hL HT;go_enter func73,ntmps73;go_wp2_with fail;have X:=PO.start w (FU (G6 ⟨b,off,G5⟩) fs.length cap) 30 30;generalize (w.alloc (FV #[FU (G6 ⟨b,off,G5⟩) fs.length cap] 30)).alloc (FV #[N0] 30)=w0 at*;refine(C _ X.below).mono ?_;rintro e w1 ⟨rfl,hb1⟩;have X1:=X.next hb1;have HX:=G8 X1;have cd:=X1.cd;have r:=(G7 HR).kept X1.below hb;have e0:=r.c0 (G7 HK);have e1:=r.c1 (G7 HK);have e2:=r.c2 (G7 HK);clear C hb1 r X X1;go_wp2_with fail;refine(CS _).mono ?_;rintro e wx ⟨rfl,hbx⟩;have X1:=(G7 HX).next hbx;clear HX;have HX:=G8 X1;have cdx:=X1.cd;clear hbx X1;go_wp2_with fail;refine(CC _ (G7 HX).below).mono ?_;rintro e w2 ⟨v',rfl,ho,hb2⟩;obtain⟨g,cap2,rfl,hg,ho⟩:=YH ho hlt;have hgl:=ho.lt;have hg2:w.heap.size+2<=g:=by have:=(G7 HX).size;omega
 have X2:=((G7 HX).next hb2).alloc (FV #[FU (G6 ⟨g,0,G5⟩) fs.length cap2] 30);have ho2:=ho.alloc (FV #[FU (G6 ⟨g,0,G5⟩) fs.length cap2] 30);have ca:(w2.alloc (FV #[FU (G6 ⟨g,0,G5⟩) fs.length cap2] 30)).cell? ⟨w2.heap.size,0,G5⟩=G6 (FU (G6 ⟨g,0,G5⟩) fs.length cap2):=by simp
 have haz:w2.heap.size<(w2.alloc (FV #[FU (G6 ⟨g,0,G5⟩) fs.length cap2] 30)).heap.size:=by simp
 clear CC hb2 ho HX cd e0 e1 e2 cdx;go_wp2_with fail;generalize w2.alloc (FV #[FU (G6 ⟨g,0,G5⟩) fs.length cap2] 30)=W at*;have HX:=G8 X2;have HO:=G8 ho2;have cd:=X2.cd;have r:=(G7 HR).kept X2.below hb;have e0:=r.c0 (G7 HK);have e1:=r.c1 (G7 HK);have e2:=r.c2 (G7 HK);clear r X2 ho2;refine(CT g cap2 W (G7 HO)).mono ?_;rintro e w4 ⟨rfl,ho4,hg4⟩
 all_goals
  have X4:=(G7 HX).grown hg4 hg2;have ca4:w4.cell? ⟨w2.heap.size,0,G5⟩=G6 (FU (G6 ⟨g,0,G5⟩) fs.length cap2):=hg4.cell ca (fun e=>by have e3:w2.heap.size=g:=BP e;omega);have cr:=X4.cr;have fr:=X4.fr;have HB:=G8 X4.below;have HO4:=G8 ho4;clear X4 ho4 hg4;clear CS CT;go_wp2_with fail;refine bodyPost_ret (v:=.tuple #[.agg #[FU (G6 ⟨g,0,G5⟩) fs.length cap2],I0 0]) (by simp[results,results73,go_sem,cr]) rfl ⟨_,rfl,.inr ⟨g,cap2,by rw[G7 HSL],by omega,(G7 HO4).other (by show g≠w.heap.size+1;omega) _⟩,(G7 HB).setCell (by simp) _⟩
def jV:List FX:=[.string ⟨#[]⟩,.string ⟨#[]⟩,.string ⟨#[]⟩]
theorem AJ8(w:FW)(ty:TypeId)(b o c:Nat)(hc:∀j,j<3->(w.cell? ⟨b,o+j,G5⟩).isSome=true)(hf:∀j,j<3->w.frozen? ⟨b,o+j,G5⟩=false):
  (Builtin.clear_ #[28] ty #[FU (G6 ⟨b,o,G5⟩) 1 c]).run prog w=.ok (.tuple #[]) (w.setCells b o jV):=by
 have hzc:(Builtin.zeroCells (Value.agg #[.string ⟨#[]⟩,.string ⟨#[]⟩,.string ⟨#[]⟩]).cells 1).toList=jV:=by kernel_rfl
 have hst:=run_storeCells_cells (P:=prog) b o jV 0 w (by simpa [jV]using hc) (by simpa [jV]using hf) (by simp[jV,Value.oneCell']);simp only[Nat.add_zero]at hst;simp[Builtin.clear_,run_underlying underlying28,hzc,hst]
theorem Own.some(h:Own W g cap fs){j:Nat}(hj:j<cap*3):(W.cell? ⟨g,j,G5⟩).isSome=true:=by
 obtain⟨rest,h1,h2,_⟩:=h;have hl:j<(H8 fs++rest).length:=by rw[AP,H7,h2];exact hj
 rw[AP]at hl;simp[World.cell?,h1,hl]
theorem A01(g cap:Nat)(A B:List DF)(f:DF)(n:Nat)(w:FW)(ho:Own w g cap (A++f::B))(hn:n=A.length+B.length+1)(hsm:n<=1000):
  FZ prog 189 #[FU (G6 ⟨g,0,G5⟩) n cap,I0 A.length,I0 (A.length+1:Nat)] w fun e w'=>
   e=.returned (FU (G6 ⟨g,0,G5⟩) (A.length+B.length) cap)/\Own w' g cap (A++B)/\w.grownBy w' (G6 g):=by
 obtain⟨i0,hi0,hz0,hz1,hz2⟩:=UK;have hle:=ho.le;have hcl:=ho.capLe;simp only[maxLen]at hcl;rw[AP,BH]at hle;have hrow:=ho.row;obtain⟨AD,hAD,hsrc⟩:∃AD:Addr,(if cap=A.length+1 then G6 (⟨g,0,G5⟩:Addr)else G6 ⟨g,(A.length+1)*3,G5⟩)=G6 AD/\Hid (∀t u,(H8 B)[t]?=G6 u->w.drew.cell? (AD.add t)=G6 u):=by
  by_cases h:cap=A.length+1
  .refine⟨⟨g,0,G5⟩,by simp[h],fun t u hu=>?_⟩;have h0:B=[]:=BZ (by omega);rw[h0]at hu;simp[H8]at hu
  .refine⟨⟨g,(A.length+1)*3,G5⟩,by simp[h],fun t u hu=>?_⟩;rw[Addr.add_lit];have:=hrow ((A.length+1)*3+t) u (by
    rw[JR,BD (by rw[H7];omega),H7,H8,BD (by simp[JD];omega)];simp only[JD,BH,List.length_nil];rw[<-hu];congr 1;omega)
   rw[BJ]at this;exact this
 have s1:Hid ((H8 B).length=B.length*3):=H7 B;have s2:Hid (∀u∈H8 B,u.oneCell'=true):=YF B;have s3:Hid (∀t,t<(H8 B).length->(w.drew.cell? ⟨g,0+A.length*3+t,G5⟩).isSome=true/\w.drew.frozen? ⟨g,0+A.length*3+t,G5⟩=false):=by
  intro t ht;rw[H7]at ht;exact⟨ho.some (by omega),ho.frozen _⟩
 obtain⟨W1,hW1⟩:∃W1,W1=w.drew.setCells g (0+A.length*3) (H8 B):=⟨_,rfl⟩;have ho1:Own W1 g cap (A++B):=by rw[hW1,BJ];exact ho.drew.splice B (by omega)
 have hg1:w.grownBy W1 (G6 g):=by rw[hW1];have:=LV (g:=g) (H8 B) (0+A.length*3) w.drew;exact⟨this.os,this.tape,this.output,this.size,this.block⟩
 have CS5:∀ty c,(Builtin.clear_ #[28] ty #[FU (G6 ⟨g,(A.length+B.length)*3,G5⟩) 1 c]).run prog W1=.ok (.tuple #[]) (W1.setCells g ((A.length+B.length)*3) jV):=fun ty c=>
  AJ8 W1 ty g _ c (fun j hj=>ho1.some (by omega)) (fun j hj=>ho1.frozen _)
 have FIN:Hid (Own (W1.setCells g ((A.length+B.length)*3) jV) g cap (A++B)/\w.grownBy (W1.setCells g ((A.length+B.length)*3) jV) (G6 g)):=
  ⟨ho1.spare jV _ (by rw[AP];omega) (by simp[jV];omega),SK hg1 (LV _ _ _)⟩
 have hW:Hid (W1=w.drew.setCells g (0+A.length*3) (H8 B)):=hW1;have hic:A.length<=cap:=by omega
 have hjc:A.length+1<=cap:=by omega
 have hne:¬ (cap=A.length+B.length):=by omega
 have hb1:(0:Int)<=(A.length:Int)+1:=by omega
 have hb2:(A.length:Int)<=(A.length:Int)+(B.length:Int):=by omega
 have hb3:(0:Int)<=(A.length:Int)+(B.length:Int):=by omega
 have hs1:A.length+B.length+1-(A.length+B.length)=1:=by omega
 clear hW1 ho1 hg1 hrow ho;subst hn;go_enter func189,ntmps189;go_wp2_with fail
 go_region_law (refine step_append_room rfl (.tmp 22) (.tmp 25) 28 rfl 81 i0 3 underlying28 hi0 hz1 g 0 A.length cap (by simp[Act.eval,Act.put]) AD B.length (cap-(A.length+1)) (H8 B) (by simp[Act.eval,Act.put]) s1.out hsrc.out s2.out (by omega) s3.out ?_;rw[<-hW.out])
 go_wp2
 go_ret;exact⟨rfl,FIN.out⟩
theorem vK(v:FX)(fs A B:List DF)(f:DF)(name:List UInt8)(w:FW)(hv:IV w v fs)(hs:mW fs)(g:LQ fs)(T:There fs A f B name):
  FZ prog 137 #[.agg #[v],S0 name] w fun e w'=>∃v',e=.returned (.tuple #[.agg #[v'],I0 0])/\YG w' w.heap.size v' (A++B)/\B0 w w':=by
 have C:=fun W (hW:B0 w W)=>TP _ fs A B f name W (hv.next hW) hs g T;have CC:=fun W (hW:B0 w W)=>SH _ fs W (hv.next hW) hs g.few;obtain⟨b,off,cap,rfl,hb,hr,hk,hlt⟩:=XC hv T;have hb0:b≠w.heap.size:=by omega
 have hsm:=g.few;have hlen:fs.length=A.length+B.length+1:=by rw[T.eq];simp;omega
 have CD:=fun(q c:Nat) (W:FW) (ho:Own W q c fs)=>A01 q c A B f fs.length W (by rw[<-T.eq];exact ho) hlen (by omega);have HL:=G8 hlen;clear hv hs g T hr hk hlen;go_enter func137,ntmps137;go_wp2_with fail;have X:=PO.start w (FU (G6 ⟨b,off,G5⟩) fs.length cap) 30 30;generalize (w.alloc (FV #[FU (G6 ⟨b,off,G5⟩) fs.length cap] 30)).alloc (FV #[N0] 30)=w0 at*;refine(C _ X.below).mono ?_;rintro e w1 ⟨rfl,hb1⟩;have X1:=X.next hb1;have HX:=G8 X1;have cd:=X1.cd;clear C hb1 X X1;go_wp2_with fail;refine(CC _ (G7 HX).below).mono ?_;rintro e w2 ⟨v',rfl,ho,hb2⟩;obtain⟨q,cap2,rfl,hq,ho⟩:=YH ho hlt;have hql:=ho.lt;have hq2:w.heap.size+2<=q:=by have:=(G7 HX).size;omega
 have X2:=((G7 HX).next hb2).alloc (FV #[FU (G6 ⟨q,0,G5⟩) fs.length cap2] 30);have ho2:=ho.alloc (FV #[FU (G6 ⟨q,0,G5⟩) fs.length cap2] 30);have ca:(w2.alloc (FV #[FU (G6 ⟨q,0,G5⟩) fs.length cap2] 30)).cell? ⟨w2.heap.size,0,G5⟩=G6 (FU (G6 ⟨q,0,G5⟩) fs.length cap2):=by simp
 have fa:(w2.alloc (FV #[FU (G6 ⟨q,0,G5⟩) fs.length cap2] 30)).frozen? ⟨w2.heap.size,0,G5⟩=false:=by simp
 have hz2:w.heap.size+2<=w2.heap.size:=by omega
 have haz:w2.heap.size<(w2.alloc (FV #[FU (G6 ⟨q,0,G5⟩) fs.length cap2] 30)).heap.size:=by simp
 clear CC hb2 ho HX cd;go_wp2_with fail;generalize w2.alloc (FV #[FU (G6 ⟨q,0,G5⟩) fs.length cap2] 30)=W at*;refine(CD q cap2 _ ho2).mono ?_;rintro e w4 ⟨rfl,ho4,hg4⟩;have X4:=X2.grown hg4 hq2;have ca4:w4.cell? ⟨w2.heap.size,0,G5⟩=G6 (FU (G6 ⟨q,0,G5⟩) fs.length cap2):=hg4.cell ca (fun e=>by have e3:w2.heap.size=q:=BP e;omega);have fa4:w4.frozen? ⟨w2.heap.size,0,G5⟩=false:=(World.frozen?_of_block (hg4.block w2.heap.size haz (fun e=>by have e3:w2.heap.size=q:=BP e;omega))).trans fa;have cr:=X4.cr;have fr:=X4.fr;have HB:=G8 X4.below;have HO4:=G8 ho4;clear X4 ho4 hg4 X2 ho2 CD ca fa;go_wp2_with fail;exact bodyPost_ret (v:=.tuple #[.agg #[FU (G6 ⟨q,0,G5⟩) (A.length+B.length) cap2],I0 0]) (by simp[results,results137,go_sem,cr]) rfl
  ⟨_,rfl,.inr ⟨q,cap2,by rw[AP],by omega,((G7 HO4).other (by show q≠w2.heap.size;omega) _).other (by show q≠w.heap.size+1;omega) _⟩,((G7 HB).setCell (by show w.heap.size<=w2.heap.size;omega) _).setCell (by simp) _⟩
