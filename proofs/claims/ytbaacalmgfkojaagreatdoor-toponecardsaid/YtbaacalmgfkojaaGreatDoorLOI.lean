/-
  Part.
-/
import Derived.Test.YtbaacalmgfkojaaGreatDoorLOC
import Derived.Deep.RegionHeld3
import Derived.Lib.AppendZeros
import Derived.Lib.JoinLaws
set_option maxRecDepth 20000
set_option maxHeartbeats 8000000
namespace Go.Proofs.YtbaacalmgfkojaaGreatDoor
open Go.RowKit Go.Proofs.Tryz
open _root_.Nat renaming le_refl->A8,lt_of_lt_of_le->AX,zero_le->AY,zero_add->BI,le_trans->BM
open Go.RowKit.Below renaming refl->AA
open _root_.List renaming getElem?_eq_getElem->AL,length_append->AO,getElem?_eq_some_iff->AU,mem_of_getElem?->AZ,getElem?_append_right->BA,length_cons->BG,take_of_length_le->BL,append_assoc->BQ,eq_nil_of_length_eq_zero->BR
open _root_.ByteArray renaming mk->AQ
open _root_.Option.some renaming inj->BN
open Go.Lib renaming run_eql_slice_nil->EN,compareBytes->EO
open Go.Value renaming slice->FQ
open Go.Obj renaming cells->FT
open Go renaming World->FU,Value->FV,Calls->FW
open _root_.Option renaming none->FX,some->FZ
variable{w W V w':FU}{f:DF}{v:FV}{g cap:Nat}{fs:List DF}
theorem LG{o:Obj}{w1:FU}(h:Below (w.alloc o).heap.size (w.alloc o) w1):B0 w w1:=
 ((AA _ _).alloc (A8 _) _).trans (h.mono (by simp))
theorem ZQ(f:DF)(w:FU)(h:f.s.length+f.t.length<=9223372036854775807):
  FW prog 82 #[BD0 f] w (R0 w (I0 ((f.s.length+f.t.length:Nat):Int))):=by
 unfold BD0;go_enter func82,ntmps82
 go_wp2
 go_ret;exact⟨rfl,(AA _ _).alloc (A8 _) _⟩
theorem A67(f:DF)(name:List UInt8)(w:FU):
  FW prog 116 #[BD0 f,S0 name] w (R0 w (I0 (EO f.n name))):=by
 unfold BD0;go_enter func116,ntmps116;go_wp2_with fail;refine(strings_Compare _ _ _).mono ?_;rintro e w1 ⟨rfl,rfl⟩;go_wp2_with fail;go_ret;exact⟨rfl,(AA _ _).alloc (A8 _) _⟩
def ZR(R:List DF)(name:List UInt8):Bool:=match R with
 |[]=>false
 |f::_=>decide (f.n=name)
theorem AU2(A R:List DF)(name:List UInt8)(lo:∀a∈A,bl a.n name=true)(hi:∀a∈R,bl a.n name=false)(i:Nat)(h:i<A.length+R.length):∃y,(A++R)[i]?=FZ y/\bl y.n name=decide (i<A.length):=by
 by_cases h1:i<A.length
 .refine⟨A[i],by rw[List.getElem?_append_left h1,AL h1],?_⟩;rw[lo _ (List.getElem_mem h1)];simp[h1]
 .have h2:i-A.length<R.length:=by omega
  refine⟨R[i-A.length],by rw[BA (by omega),AL h2],?_⟩;rw[hi _ (List.getElem_mem h2)];simp[h1]
theorem BW8(b off cap:Nat)(A R:List DF)(name:List UInt8)(w:FU)(hcap:A.length+R.length<=16)(hb:b<w.heap.size)(h:IB w b off (H6 (A++R)))
  (lo:∀a∈A,bl a.n name=true) (hi:∀a∈R,bl a.n name=false):
  FW prog 115 #[FQ (FZ ⟨b,off,FX⟩) (A.length+R.length) cap,S0 name,.func (.func 116) #[] #[]] w fun e w'=>
   e=.returned (.tuple #[I0 A.length,.bool (ZR R name)])/\B0 w w':=by
 have H:=G6 h;have SG:=G6 (AU2 A R name lo hi);obtain⟨fin,hfin⟩:∃x,ZR R name=x:=⟨_,rfl⟩;have HF:=G6 hfin;rw[hfin];clear h hfin lo hi;go_enter func115,ntmps115;go_wp2_with fail
 go_loopg [9,10] (A.length+R.length) (fun kx s9 s10 wr=>∃lo hi:Nat,s9=I0 lo/\s10=I0 hi/\lo<=A.length/\A.length<=hi/\hi<=A.length+R.length/\hi-lo<=kx/\Hid (B0 w wr))
 case atStart=>exact⟨0,A.length+R.length,rfl,rfl,AY _,by omega,A8 _,by omega,G6 (AA _ _)⟩
 case round=>
  obtain⟨lo,hi,rfl,rfl,h1,h2,h3,hg,hB⟩:=hrel;by_cases hlt:lo<hi
  .obtain⟨y,hy,hyn⟩:=G5 SG ((lo+hi)/2) (by omega);have HY:=G6 hyn;have r:=(G5 H).kept (G5 hB) hb;have e0:=r.c0 hy;have e1:=r.c1 hy;have e2:=r.c2 hy;clear hyn hy r;have hc:=A45 y.n name;rw[G5 HY]at hc;have CM:=fun W=>A67 y name W;generalize EO y.n name=cv at hc CM;by_cases hm:(lo+hi)/2<A.length
   .have hn:cv<0:=by simpa [hm]using hc
    clear hc;go_wp2_with fail;refine(CM _).mono ?_;rintro e w1 ⟨rfl,hb1⟩;have hB2:B0 w w1:=(G5 hB).trans (hb1.mono (G5 hB).size);clear CM;go_wp2_with fail
    go_roundg (hi-((lo+hi)/2+1))
    case measure=>omega
    case rel=>exact⟨(lo+hi)/2+1,hi,by rw[show ((lo:Int)+(hi:Int))/2+1=(((lo+hi)/2+1:Nat):Int) by omega],rfl,by omega,h2,h3,A8 _,G6 hB2⟩
   .have hn:¬cv<0:=by simpa [hm]using hc
    clear hc;go_wp2_with fail;refine(CM _).mono ?_;rintro e w1 ⟨rfl,hb1⟩;have hB2:B0 w w1:=(G5 hB).trans (hb1.mono (G5 hB).size);clear CM;go_wp2_with fail
    go_roundg ((lo+hi)/2-lo)
    case measure=>omega
    case rel=>exact⟨lo,(lo+hi)/2,rfl,by rw[show ((lo:Int)+(hi:Int))/2=(((lo+hi)/2:Nat):Int) by omega],h1,by omega,by omega,A8 _,G6 hB2⟩
  .obtain rfl:lo=A.length:=by omega
   obtain rfl:hi=A.length:=by omega
   cases R with
   |nil=>
    go_wp2_with fail
    go_ret2
    exact⟨by rw[<-G5 HF];rfl,G5 hB⟩
   |cons f R=>
    have r:=(G5 H).kept (G5 hB) hb;have hy:(A++f::R)[A.length]?=FZ f:=by simp
    have e0:=r.c0 hy;have e1:=r.c1 hy;have e2:=r.c2 hy;clear hy r;have hc:=fF f.n name;have CM:=fun W=>A67 f name W;have hf:fin=decide (f.n=name):=(G5 HF).symm;rw[<-hc]at hf;clear hc HF;generalize EO f.n name=cv at hf CM;subst hf;simp only[BG];go_wp2_with fail;refine(CM _).mono ?_;rintro e w1 ⟨rfl,hb1⟩;have hB2:B0 w w1:=(G5 hB).trans (hb1.mono (G5 hB).size);clear CM;go_wp2_with fail
    go_ret2
    exact⟨by rfl,hB2⟩
theorem BD3(a:Option Addr)(cap:Nat)(name:List UInt8)(w:FU):
  FW prog 115 #[FQ a 0 cap,S0 name,.func (.func 116) #[] #[]] w fun e w'=>
   e=.returned (.tuple #[I0 0,.bool false])/\B0 w w':=by
 go_enter func115,ntmps115;go_wp2_with fail
 go_loopg [9,10] 1 (fun _ s9 s10 wr=>s9=I0 0/\s10=I0 0/\Hid (B0 w wr))
 case atStart=>exact⟨rfl,rfl,G6 (AA _ _)⟩
 case round=>
  obtain⟨rfl,rfl,hB⟩:=hrel;go_wp2_with fail
  go_ret2
  exact⟨rfl,G5 hB⟩
theorem mM(v:FV)(fs A R:List DF)(name:List UInt8)(w:FU)(hv:IK w v fs)(hl:fs.length<=16)(he:fs=A++R)(lo:∀a∈A,bl a.n name=true)(hi:∀a∈R,bl a.n name=false):
  FW prog 81 #[.agg #[v],S0 name] w (R0 w (.tuple #[I0 A.length,.bool (ZR R name)])):=by
 have C:∀W:FU,B0 w W->FW prog 115 #[v,S0 name,.func (.func 116) #[] #[]] W fun e w'=>
   e=.returned (.tuple #[I0 A.length,.bool (ZR R name)])/\B0 W w':=fun W hW=>by
  rcases hv with⟨a,cap,rfl,h0,_⟩|⟨b,off,cap,rfl,_,_,hb,_,hr⟩
  .rw[h0]at he;obtain⟨rfl,rfl⟩:A=[]/\R=[]:=by
    have:=congrArg List.length he;simp at this;exact⟨BR (by omega),BR (by omega)⟩
   exact BD3 a cap name W
  .subst he;rw[AO];exact BW8 b off cap A R name W (by simpa using hl) (AX hb hW.size) (hr.kept hW hb) lo hi
 have C':=G6 C;have V:∃a n c,v=FQ a n c:=by
  rcases hv with⟨a,cap,rfl,_,_⟩|⟨b,off,cap,rfl,_⟩
  .exact⟨_,_,_,rfl⟩
  .exact⟨_,_,_,rfl⟩
 obtain⟨a,n,c,rfl⟩:=V;clear C hv hl he lo hi;generalize ZR R name=hd at C'⊢;go_enter func81,ntmps81;go_wp2_with fail;refine(G5 C' _ ((AA _ _).alloc (A8 _) _)).mono ?_;rintro e w1 ⟨rfl,hb1⟩;have hbz:=LG hb1;go_wp2_with fail
 go_ret2
 exact⟨rfl,hbz⟩
theorem mO(v:FV)(fs A B:List DF)(f:DF)(name:List UInt8)(w:FU)(hv:IK w v fs)(hl:fs.length<=16)(T:There fs A f B name):
  FW prog 81 #[.agg #[v],S0 name] w (R0 w (.tuple #[I0 A.length,.bool true])):=by
 have:=mM v fs A (f::B) name w hv hl T.eq T.lo (fun a ha=>by
  rcases List.mem_cons.1 ha with rfl|h
  .rw[T.nm];exact QB _
  .exact O9 (T.hi a h))
 rwa[show ZR (f::B) name=true from by simp[ZR,T.nm]]at this
theorem A68(v:FV)(fs A B:List DF)(name:List UInt8)(w:FU)(hv:IK w v fs)(hl:fs.length<=16)(G:Gap fs A B name):
  FW prog 81 #[.agg #[v],S0 name] w (R0 w (.tuple #[I0 A.length,.bool false])):=by
 have:=mM v fs A B name w hv hl G.eq G.lo (fun a ha=>O9 (G.hi a ha));rwa[show ZR B name=false from by
  cases B with
  |nil=>rfl
  |cons f B=>have:=TU (G.hi f (by simp));simp[ZR,this.symm]]at this
theorem uF(h1:J9 f.n=false):QC f=false:=by simp[QC,h1]
theorem yV(h:1048576<f.s.length+f.t.length):QC f=false:=by simp[QC];intro _;omega
theorem AF8(h1:J9 f.n=true)(h:f.s.length+f.t.length<=1048576):QC f=true:=by simp[QC,h1,h]
theorem CB5{w1:FU}(hb:B0 W w1):(∀b o,b<W.heap.size->w1.cell? ⟨b,o,FX⟩=W.cell? ⟨b,o,FX⟩)/\(∀b o,b<W.heap.size->w1.frozen? ⟨b,o,FX⟩=W.frozen? ⟨b,o,FX⟩):=
 ⟨fun b o h=>hb.cell (p:=⟨b,o,FX⟩) h,fun b o h=>hb.frozen (p:=⟨b,o,FX⟩) h⟩
def l7(fs:List DF):Prop:=∀f∈fs,f.n.length<=140737488355328/\f.s.length<=140737488355328/\f.t.length<=140737488355328
theorem A69(n:List UInt8)(h:n.length<=140737488355328)(w:FU):
  FW prog 80 #[S0 n] w fun e w'=>e=.returned (.bool (J9 n))/\w'=w:=
 TV ⟨n.toArray⟩ w (by have:(AQ n.toArray).size=n.length:=rfl;unfold maxLen;omega)
theorem AF9(a:Option Addr)(cap:Nat)(w:FU):
  FW prog 79 #[.agg #[FQ a 0 cap]] w (R0 w (.bool true)):=by
 go_enter func79,ntmps79;go_wp2_with fail
 go_loopg [12] 1 (fun _ s12 wr=>s12=I0 0/\Hid (B0 w wr))
 case atStart=>exact⟨rfl,G6 ((AA _ _).alloc (A8 _) _)⟩
 case round=>
  obtain⟨rfl,hB⟩:=hrel;go_wp2_with fail;go_ret;exact⟨rfl,G5 hB⟩
theorem AG0(b off cap n:Nat)(hn:16<n)(w:FU):
  FW prog 79 #[.agg #[FQ (FZ ⟨b,off,FX⟩) n cap]] w (R0 w (.bool false)):=by
 go_enter func79,ntmps79;go_wp2_with fail;go_ret;exact⟨rfl,(AA _ _).alloc (A8 _) _⟩
theorem AG1(b off cap:Nat)(fs:List DF)(w:FU)(hs:l7 fs)(hl:fs.length<=16)(hb:b<w.heap.size)(h:IB w b off (H6 fs)):
  FW prog 79 #[.agg #[FQ (FZ ⟨b,off,FX⟩) fs.length cap]] w (R0 w (.bool (UQ fs))):=by
 have H:=G6 h;have HS:=G6 hs;have NO:=G6 (fun(k:Nat) (f:DF)=> @BA8 fs k f);have NR:=G6 (fun(k:Nat) (f g:DF)=> @AQ3 fs k f g);have YES:=G6 (sN hl);have Z:=G6 (AQ1 fs);have SU:=G6 (fun(k:Nat) (f:DF) (h:BU9 fs k)=>AQ2 (f:=f) h);have hb0:b≠w.heap.size:=by omega
 clear h hs;generalize UQ fs=G at NO NR YES⊢;go_enter func79,ntmps79;go_wp2_with fail
 go_loopg [12] fs.length (fun kx s12 wr=>∃k:Nat,s12=I0 k/\k<=fs.length/\fs.length-k<=kx/\Hid (B0 w wr/\w.heap.size<wr.heap.size/\wr.cell? ⟨w.heap.size,0,FX⟩=FZ (FQ (FZ ⟨b,off,FX⟩) fs.length cap))/\Hid (BU9 fs k))
 case atStart=>exact⟨0,rfl,AY _,by omega,G6 ⟨(AA _ _).alloc (A8 _) _,by simp,by simp⟩,Z⟩
 case round=>
  obtain⟨k,rfl,hk,hg,hB,hO⟩:=hrel;by_cases hlt:k<fs.length
  .obtain⟨f,hf⟩:∃f,fs[k]?=FZ f:=⟨_,AL hlt⟩;have HF:=G6 hf;have r:=(G5 H).kept (G5 hB).1 hb;have e0:=r.c0 hf;have e1:=r.c1 hf;have e2:=r.c2 hf;have hsl:=G5 HS f (AZ hf);have hbw:b<wr.heap.size:=AX hb (G5 hB).1.size;have h00:=(G5 hB).2.2;clear hf r
   cases hn:J9 f.n with
   |false=>
    have HN:=G6 hn;have CN:=fun W=>A69 f.n hsl.1 W;rw[hn]at CN;clear hn;go_wp2_with fail;refine(CN _).mono ?_;rintro e w1 ⟨rfl,rfl⟩;clear CN;go_wp2_with fail;go_ret;exact⟨QU (G5 NO k f (G5 HF) (uF (G5 HN))).symm,(G5 hB).1.alloc (by have:=(G5 hB).1.size;omega) _⟩
   |true=>
    have HN:=G6 hn;have CN:=fun W=>A69 f.n hsl.1 W;rw[hn]at CN;clear hn;have HL:=G6 hsl;have hsum:f.s.length+f.t.length<=9223372036854775807:=by omega
    have CS:=fun W=>ZQ f W hsum;obtain⟨L,hL⟩:∃L,f.s.length+f.t.length=L:=⟨_,rfl⟩;rw[hL]at CS;have HL2:=G6 hL;have hLb:L<=9223372036854775807:=by omega
    clear hsl hsum hL;go_wp2_with fail;refine(CN _).mono ?_;rintro e w1 ⟨rfl,rfl⟩;clear CN;by_cases hbig:L<=1048576
    .have hok:=AF8 (G5 HN) (by rw[G5 HL2];exact hbig);go_wp2_with fail;refine(CS _).mono ?_;rintro e w2 ⟨rfl,hb2⟩;clear CS;obtain⟨hc,hf⟩:=CB5 hb2;have hB2:B0 w w2:=(G5 hB).1.trans (LG hb2|>.mono (G5 hB).1.size);have h01:w2.cell? ⟨w.heap.size,0,FX⟩=FZ (FQ (FZ ⟨b,off,FX⟩) fs.length cap):=by
      rw[hc _ _ (by have:=(G5 hB).2.1;simp;omega),((AA wr.heap.size wr).alloc (A8 _) _).cell (p:=⟨w.heap.size,0,FX⟩) (G5 hB).2.1];exact h00
     have hz:w2.cell? ⟨wr.heap.size,0,FX⟩=FZ (S0 f.n):=by
      rw[hc _ _ (by simp)];simp
     have hlt2:w.heap.size<w2.heap.size:=by have:=hb2.size;have:=(G5 hB).2.1;simp at*;omega
     clear hc hf hb2 h00 e0 e1 e2;rcases Nat.eq_zero_or_pos k with hk0|hk0
     .subst hk0;have OK2:=G6 (G5 SU 0 f (G5 hO) (G5 HF) hok (fun g h=>absurd h (Nat.lt_irrefl 0)));go_wp2_with fail;go_region;go_wp2_with fail
      go_roundg (fs.length-1)
      case measure=>omega
      case rel=>exact⟨1,rfl,by omega,A8 _,G6 ⟨hB2.drew,hlt2,h01⟩,OK2⟩
     .obtain⟨m,rfl⟩:∃m,k=m+1:=⟨k-1,by omega⟩;obtain⟨g,hg⟩:∃g,fs[m]?=FZ g:=⟨_,AL (by omega)⟩;have r:=(G5 H).kept hB2 hb;have e0:=r.c0 hg;have HG:=G6 hg;clear r hg;have hm1:(m:Int)<(fs.length:Int):=by omega
      cases hbl:bl g.n f.n with
      |true=>
       have OK2:=G6 (G5 SU (m+1) f (G5 hO) (G5 HF) hok (fun g' _ h=>by
        rw[Nat.add_sub_cancel,G5 HG]at h
        cases h
        exact hbl))
       have hbl':Op.bytesLess g.n f.n=true:=hbl;clear hbl;go_wp2_with fail;go_region;go_wp2_with fail
       go_roundg (fs.length-(m+1+1))
       case measure=>omega
       case rel=>exact⟨m+1+1,rfl,by omega,A8 _,G6 ⟨hB2.drew,hlt2,h01⟩,OK2⟩
      |false=>
       have hbl':Op.bytesLess g.n f.n=false:=hbl;have GF:=(G5 NR (m+1) f g (G5 HF) (by simpa using G5 HG) (by omega) hbl).symm;have HGF:=G6 GF;clear hbl GF;go_wp2_with fail;go_region;go_wp2_with fail;go_ret;exact⟨QU (G5 HGF),hB2.drew⟩
    .go_wp2_with fail;refine(CS _).mono ?_;rintro e w2 ⟨rfl,hb2⟩;have hB2:B0 w w2:=(G5 hB).1.trans (LG hb2|>.mono (G5 hB).1.size);clear CS hb2;go_wp2_with fail;go_ret;exact⟨QU (G5 NO k f (G5 HF) (yV (by rw[G5 HL2];omega))).symm,hB2⟩
  .have hkk:k=fs.length:=by omega
   subst hkk;go_wp2_with fail;go_ret;exact⟨QU (G5 YES (G5 hO)).symm,(G5 hB).1⟩
theorem AU3:UQ []=true:=MP.2 ⟨by decide,by simp,List.Pairwise.nil⟩
theorem U4(v:FV)(fs:List DF)(w:FU)(hv:IK w v fs)(hs:l7 fs):
  FW prog 79 #[.agg #[v]] w (R0 w (.bool (UQ fs))):=by
 rcases hv with⟨a,cap,rfl,rfl,_⟩|⟨b,off,cap,rfl,_,_,hb,_,hr⟩
 .rw[AU3];exact AF9 a cap w
 .by_cases hl:fs.length<=16
  .exact AG1 b off cap fs w hs hl hb hr
  .rw[BV0 (by omega)];exact AG0 b off cap fs.length (by omega) w
theorem OJ(s:List UInt8)(w:FU)(hs:s.length<=281474976710656):
  FW prog 42 #[S0 s] w (R0 w (S0 s)):=by
 have C:=fun W=>stringslite_Clone ⟨s.toArray⟩ W (show (AQ s.toArray).size<=_ from hs);go_enter func42,ntmps42;go_wp2_with fail;refine(C _).mono ?_;rintro e w1 ⟨rfl,hb1⟩;go_wp2_with fail;go_ret;exact⟨rfl,hb1⟩
theorem AG2:(prog.info? 88).map (fun i=>(i.zero,i.size,i.bytes))=FZ (FZ (.agg #[.string ⟨#[]⟩,.string ⟨#[]⟩,.string ⟨#[]⟩]),3,48):=by kernel_rfl
theorem U5:∃i0,prog.info? 88=FZ i0/\i0.zero=FZ (.agg #[.string ⟨#[]⟩,.string ⟨#[]⟩,.string ⟨#[]⟩])/\i0.size=3/\i0.bytes=48:=by
 obtain⟨i0,h,e⟩:=Option.map_eq_some_iff.1 AG2;simp only[Prod.mk.injEq]at e;exact⟨i0,h,e⟩
theorem iR(a:Addr)(cap:Nat)(fs:List DF)(w:FU)(hl:fs.length<=1000000)(hc:∀j u,(H6 fs)[j]?=FZ u->w.cell? (a.add j)=FZ u):
  FW prog 20 #[FQ (FZ a) fs.length cap] w fun e w'=>∃v',e=.returned v'/\XL w' w.heap.size v' fs/\B0 w w':=by
 have q22:∀ (w:FU) (a:Option Addr) (n c n' c':Nat),(binOp .eql 40 (FQ a n c) (FQ FX n' c')).run prog w=.ok (.bool a.isNone) w:=fun w a n c n' c'=>EN w _ _ a n c n' c' underlying40;have H:Hid (∀j u,(H6 fs)[j]?=FZ u->w.cell? (a.add j)=FZ u):=hc;clear hc;obtain⟨i0,hi0,hz0,hz1,hz2⟩:=U5;go_enter func20,ntmps20;go_wp2_with (at_builtin;refine wpList_append_own _ rfl _ _ 40 rfl w.heap.size 88 i0 _ 3 48 underlying40 hi0 hz0 hz1 hz2 rfl (by decide) _ _ _ rfl (World.ownsRow_made w #[] 0 (A8 _) (AY _) (by simp)) a fs.length cap (H6 fs) rfl ?qc1 ?qc2 ?qc3 ?qc4 ?qc5 ?qc6 ?_)
 case qc1=>exact GY fs
 case qc2=>
  intro j u hj;exact Lib.cell?_alloc_some _ (H.out j u hj)
 case qc3=>exact XK fs
 case qc4=>simp only[maxLen];omega
 case qc5=>omega
 case qc6=>simp
 intro v' w1 hown hgrow hnil
 go_wp2
 go_ret;refine⟨v',rfl,XL.KY (by simpa using hown),?_⟩;exact((AA _ w).alloc (A8 _) _).grown hgrow (by simp) (by intro k hk;simp[Value.ownBlock]at hk;omega)
theorem AG3(n c:Nat)(w:FU):
  FW prog 20 #[FQ FX n c] w fun e w'=>e=.returned (N0)/\w'=w:=by
 have q22:∀ (w:FU) (a:Option Addr) (n c n' c':Nat),(binOp .eql 40 (FQ a n c) (FQ FX n' c')).run prog w=.ok (.bool a.isNone) w:=fun w a n c n' c'=>EN w _ _ a n c n' c' underlying40;go_enter func20,ntmps20
 go_wp2
 go_ret;exact⟨rfl,rfl⟩
theorem AG4(v:FV)(fs:List DF)(w:FU)(hv:IK w v fs)(hl:fs.length<=1000000):
  FW prog 20 #[v] w fun e w'=>∃v',e=.returned v'/\XL w' w.heap.size v' fs/\B0 w w':=by
 rcases hv with⟨a,cap,rfl,rfl,_⟩|⟨b,off,cap,rfl,_,_,hb,_,hr⟩
 .cases a with
  |none=>exact(AG3 0 cap w).mono fun e w' ⟨he,hw⟩=>⟨_,he,.inl ⟨rfl,rfl⟩,by rw[hw];exact AA _ _⟩
  |some a=>exact iR a cap [] w (by simp) (fun j u h=>by simp[H6]at h)
 .exact iR ⟨b,off,FX⟩ cap fs w hl (fun j u h=>by rw[Addr.add_lit];exact hr j u h)
theorem pJ{a:Addr}(h:w.cell? a=FZ v):w.setCell a v=w:=by
 obtain⟨heap,tape,drawn,os,output⟩:=w;simp only[World.setCell,World.cell?]at*
 congr 1
 apply Array.ext_getElem?
 intro k;rw[Array.getElem?_modify];by_cases hk:a.block=k
 .subst hk;simp only[if_true]
  cases ho:heap[a.block]? with
  |none=>rfl
  |some o=>
   rw[ho]at h
   cases o with
   |cells c e fz=>
    simp only at h;by_cases hs:a.spot.isSome=true
    .simp[hs]at h
    .simp only[hs]at h;simp[hs];have hlt:a.off<c.size:=(Array.getElem?_eq_some_iff.1 (by simpa using h)).1;have hv:c[a.off]=v:=(Array.getElem?_eq_some_iff.1 (by simpa using h)).2;rw[<-hv];simp[Array.setIfInBounds,hlt]
   |_=>simp at h
 .simp[hk]
theorem PO(h:B0 w W)(h':B0 W V):B0 w V:=h.trans (h'.mono h.size)
theorem RS(v:FV)(fs:List DF)(w:FU)(hv:IK w v fs)(hs:l7 fs)(hl:fs.length<=16):
  FW prog 83 #[.agg #[v]] w fun e w'=>∃v',e=.returned (.agg #[v'])/\XL w' w.heap.size v' fs/\B0 w w':=by
 have V:∃a n c,v=FQ a n c:=by
  rcases hv with⟨a,cap,rfl,_,_⟩|⟨b,off,cap,rfl,_⟩
  .exact⟨_,_,_,rfl⟩
  .exact⟨_,_,_,rfl⟩
 have HV:=G6 hv;have HS:=G6 hs;obtain⟨a,n,c,rfl⟩:=V;clear hv hs;go_enter func83,ntmps83;go_wp2_with fail;refine(AG4 _ fs _ ((G5 HV).next (((AA _ _).alloc (A8 _) _).alloc (by simp) _)) (by omega)).mono ?_;rintro e w1 ⟨v',rfl,ho,hb1⟩;have hB1:B0 w w1:=LG (LG hb1);have c1:w1.cell? ⟨w.heap.size+1,0,FX⟩=FZ (N0):=by
  rw[hb1.cell (p:=⟨w.heap.size+1,0,FX⟩) (by simp)];simp
 have f1:w1.frozen? ⟨w.heap.size+1,0,FX⟩=false:=by
  rw[hb1.frozen (p:=⟨w.heap.size+1,0,FX⟩) (by simp)];simp
 have hz:w.heap.size+1<w1.heap.size:=by have:=hb1.size;simp at this;omega
 have hs2:((w.alloc (Obj.cells #[Value.slice a n c] 42)).alloc (Obj.cells #[N0] 42)).heap.size=w.heap.size+2:=by simp
 rw[hs2]at ho;clear hb1 hs2;rcases ho with⟨rfl,rfl⟩|⟨g,cap,rfl,hg,ho⟩
 .go_wp2_with fail
  go_loopg [11] 1 (fun _ s wr=>s=I0 0/\wr=w1)
  case atStart=>exact⟨rfl,rfl⟩
  case round=>
   obtain⟨rfl,rfl⟩:=hrel;go_wp2_with fail;exact bodyPost_ret (v:=.agg #[N0]) (by simp[results,results83,go_sem,c1]) rfl ⟨_,rfl,.inl ⟨rfl,rfl⟩,hB1.setCell (by simp) _⟩
 .have HO:=G6 ho;have hgl:=ho.lt;clear ho;go_wp2_with fail
  go_loopg [11] fs.length (fun kx s wr=>∃k:Nat,s=I0 k/\k<=fs.length/\fs.length-k<=kx/\Hid (B0 w1 wr))
  case atStart=>exact⟨0,rfl,AY _,by omega,G6 (AA _ _)⟩
  case round=>
   obtain⟨k,rfl,hk,hkx,hB⟩:=hrel;by_cases hlt:k<fs.length
   .obtain⟨f,hf⟩:∃f,fs[k]?=FZ f:=⟨_,AL hlt⟩;have o:=(G5 HO).next (G5 hB);have QI:=o.lt;have e0:=o.c0 hf;have e1:=o.c1 hf;have e2:=o.c2 hf;have f0:=o.frozen (k*3);have f1:=o.frozen (k*3+1);have f2:=o.frozen (k*3+2);have hsl:=G5 HS f (AZ hf);clear hf o;obtain⟨fn,fss,ft⟩:=f;have k0:=fun W=>OJ fn W (by have:=hsl.1;simp at this;omega);have k1:=fun W=>OJ fss W (by have:=hsl.2.1;simp at this;omega);have k2:=fun W=>OJ ft W (by have:=hsl.2.2;simp at this;omega);simp only at e0 e1 e2;clear hsl;go_wp2_with fail;have d0:∀d os,(Sort.grow (redrawn wr d) os).cell? ⟨g,k*3,FX⟩=FZ (S0 fn):=fun d os=>cell_regrown e0 d os;have d1:∀d os,(Sort.grow (redrawn wr d) os).cell? ⟨g,k*3+1,FX⟩=FZ (S0 fss):=fun d os=>cell_regrown e1 d os;have d2:∀d os,(Sort.grow (redrawn wr d) os).cell? ⟨g,k*3+2,FX⟩=FZ (S0 ft):=fun d os=>cell_regrown e2 d os;have g0:∀d os,(Sort.grow (redrawn wr d) os).frozen? ⟨g,k*3,FX⟩=false:=fun d os=>by rw[(below_regrown wr d os).frozen (p:=⟨g,k*3,FX⟩) QI];exact f0
    have g1:∀d os,(Sort.grow (redrawn wr d) os).frozen? ⟨g,k*3+1,FX⟩=false:=fun d os=>by rw[(below_regrown wr d os).frozen (p:=⟨g,k*3+1,FX⟩) QI];exact f1
    have g2:∀d os,(Sort.grow (redrawn wr d) os).frozen? ⟨g,k*3+2,FX⟩=false:=fun d os=>by rw[(below_regrown wr d os).frozen (p:=⟨g,k*3+2,FX⟩) QI];exact f2
    have s0:∀d os,(Sort.grow (redrawn wr d) os).setCell ⟨g,k*3,FX⟩ (S0 fn)=Sort.grow (redrawn wr d) os:=fun d os=>pJ (d0 d os);have s1:∀d os,(Sort.grow (redrawn wr d) os).setCell ⟨g,k*3+1,FX⟩ (S0 fss)=Sort.grow (redrawn wr d) os:=fun d os=>pJ (d1 d os);have s2:∀d os,(Sort.grow (redrawn wr d) os).setCell ⟨g,k*3+2,FX⟩ (S0 ft)=Sort.grow (redrawn wr d) os:=fun d os=>pJ (d2 d os);have c0:=fun d os=>Calls.regrown_of (w:=wr) (d:=d) (os:=os) (k0 _);have c1':=fun d os=>Calls.regrown_of (w:=wr) (d:=d) (os:=os) (k1 _);have c2:=fun d os=>Calls.regrown_of (w:=wr) (d:=d) (os:=os) (k2 _);clear k0 k1 k2 e0 e1 e2 f0 f1 f2;refine wp_region_quiet_below (by kernel_rfl) (by kernel_rfl) ?_
    repeat (first|go_big_quiet_step (first|with_reducible exact c0 _ _|with_reducible exact c1' _ _|with_reducible exact c2 _ _)|quiet_step (first|with_reducible exact c0 _ _|with_reducible exact c1' _ _|with_reducible exact c2 _ _))
    refine wpQuiet_nil ?_;intro _ hw';obtain⟨⟨dq,osq⟩,hw''⟩:=hw';subst hw'';have hb2:=PO (G5 hB) (below_regrown wr dq osq);clear c0 c1' c2 s0 s1 s2 d0 d1 d2 g0 g1 g2;go_wp2_with fail
    go_roundg (fs.length-(k+1))
    case measure=>omega
    case rel=>exact⟨k+1,rfl,by omega,A8 _,G6 hb2⟩
   .have c2:wr.cell? ⟨w.heap.size+1,0,FX⟩=FZ (N0):=by
     rw[(G5 hB).cell (p:=⟨w.heap.size+1,0,FX⟩) hz];exact c1
    have f2:wr.frozen? ⟨w.heap.size+1,0,FX⟩=false:=by
     rw[(G5 hB).frozen (p:=⟨w.heap.size+1,0,FX⟩) hz];exact f1
    have hgw:g≠w.heap.size+1:=by omega
    go_wp2_with fail;exact bodyPost_ret (v:=.agg #[FQ (FZ ⟨g,0,FX⟩) fs.length cap]) (by simp[results,results83,go_sem,c2]) rfl
     ⟨_,rfl,.inr ⟨g,cap,rfl,by omega,((G5 HO).next (G5 hB)).other hgw _⟩,(PO hB1 (G5 hB)).setCell (by simp) _⟩
theorem WE{j:Nat}(v:FV):w.grownBy (w.setCell ⟨g,j,FX⟩ v) (FZ g):=⟨rfl,rfl,rfl,by simp[World.setCell],fun k _ hne=>Below.heap_setCell w ⟨g,j,FX⟩ v k (fun e=>hne (by rw[e]))⟩
theorem AG5{r:Option Nat}(h:w.grownBy w' r):w.grownBy w'.drew r:=⟨h.os,h.tape,h.output,h.size,h.block⟩
theorem RX{w'':FU}(h:w.grownBy w' (FZ g))(h':w'.grownBy w'' (FZ g)):w.grownBy w'' (FZ g):=
 ⟨h'.os.trans h.os,h'.tape.trans h.tape,h'.output.trans h.output,BM h.size h'.size,fun k hk hne=>(h'.block k (AX hk h.size) hne).trans (h.block k hk hne)⟩
theorem uG(h:B0 w w'):w.grownBy w' (FZ g):=⟨h.os,h.tape,h.output,h.size,fun k hk _=>h.block k hk⟩
theorem pK(l m:List UInt8):(AQ l.toArray)++(AQ m.toArray)=⟨(l++m).toArray⟩:=by
 have h:((AQ l.toArray)++(AQ m.toArray)).data.toList=l++m:=by simp[ByteArray.data_append]
 exact congrArg (fun l:List UInt8=>AQ l.toArray) h
theorem AU4(l:List UInt8)(d:Nat):(AQ l.toArray).extract 0 d=⟨(l.take d).toArray⟩:=by
 apply ByteArray.ext
 apply Array.toList_inj.1
 have h:=Lib.extract_toList (AQ l.toArray) 0 d;rw[Lib.toList_data]at h;refine h.trans ?_;show (l.drop 0).take (d-0)=_;simp
theorem bQ(g cap k:Nat)(fs:List DF)(f:DF)(n:Nat)(w:FU)(ho:Own w g cap fs)(hk:fs[k]?=FZ f)(hn:n<=f.s.length+f.t.length)(hf:f.s.length+f.t.length<=1048576):
  FW prog 88 #[.pointer (FZ ⟨g,k*3,FX⟩),I0 n] w fun e w'=>
   e=.returned (.tuple #[])/\Own w' g cap (fs.set k ⟨f.n,(f.s++f.t).take n,[]⟩)/\w.grownBy w' (FZ g):=by
 have e1:=ho.c1 hk;have e2:=ho.c2 hk;have f1:=ho.frozen (k*3+1);have f2:=ho.frozen (k*3+2);have HO:=G6 ho;have HK:=G6 hk;clear ho hk;obtain⟨fn,fss,ft⟩:=f;simp only at*;have hn1:(n:Int)<=(fss.length:Int)+(ft.length:Int):=by omega
 go_enter func88,ntmps88;go_wp2_with fail;go_region;go_wp2_with fail
 go_end0
 refine⟨rfl,?_,?_⟩
 .rw[pK,AU4];have h1:=(G5 HO).s1 (G5 HK) ((fss++ft).take n);have h2:=h1.s2 (f:=⟨fn,(fss++ft).take n,ft⟩) (by rw[List.getElem?_set_self (AU.1 (G5 HK)).1]) [];rw[List.set_set]at h2;exact h2
 .exact AG5 (RX (WE _) (WE _))
theorem mP(g cap k:Nat)(fs:List DF)(f:DF)(x:List UInt8)(w:FU)(ho:Own w g cap fs)(hk:fs[k]?=FZ f)(hx:x.length<=1048576)(hf:f.t.length<=1048576):
  FW prog 85 #[.pointer (FZ ⟨g,k*3,FX⟩),S0 x] w fun e w'=>
   e=.returned (.tuple #[])/\Own w' g cap (fs.set k ⟨f.n,f.s,f.t++x⟩)/\w.grownBy w' (FZ g):=by
 have e2:=ho.c2 hk;have f2:=ho.frozen (k*3+2);have HO:=G6 ho;have HK:=G6 hk;have hg:=ho.lt;clear ho hk;obtain⟨fn,fss,ft⟩:=f;simp only at*;have C:=fun W=>OJ x W (by omega);have hlen:¬9223372036854775807<ft.length+x.length:=by omega
 go_enter func85,ntmps85;go_wp2_with fail
 go_region_with (first|(go_at_call 42;refine(C _).mono ?_;rintro e w1 ⟨rfl,hb1⟩;have e3:w1.cell? ⟨g,k*3+2,FX⟩=FZ (S0 ft):=(hb1.cell (p:=⟨g,k*3+2,FX⟩) hg).trans e2;have f3:w1.frozen? ⟨g,k*3+2,FX⟩=false:=(hb1.frozen (p:=⟨g,k*3+2,FX⟩) hg).trans f2))
 all_goals go_wp2_with fail
 all_goals
  have hb:B0 w w1:=((AA _ w).drew).trans hb1
  go_end0
  refine⟨rfl,?_,RX (uG hb) (WE _)⟩;rw[pK];exact((G5 HO).next hb).s2 (G5 HK) (ft++x)
theorem PX{t:TypeId}{fz:Nat×Nat}:∀ (vs:List FV) (o:Nat) (w:FU) (l:List FV),w.heap[g]?=FZ (FT l.toArray t fz)->o+vs.length<=l.length->
  (w.setCells g o vs).heap[g]?=FZ (FT (l.take o++vs++l.drop (o+vs.length)).toArray t fz)
 |[],o,w,l,h,_=>by simpa [World.setCells]using h
 |v::r,o,w,l,h,hl=>by
  have h1:(w.setCell ⟨g,o,FX⟩ v).heap[g]?=FZ (FT (l.set o v).toArray t fz):=by rw[GL v h];simp
  rw[World.setCells,PX r (o+1) _ _ h1 (by simp at hl⊢;omega)];have ho:o<l.length:=by simp at hl;omega
  have e1:(l.set o v).take (o+1)=l.take o++[v]:=by
   rw[List.take_set,List.take_succ_eq_append_getElem ho,List.set_append_right _ _ (by simp;omega)];simp[Nat.min_eq_left (Nat.le_of_lt ho)]
  have e2:(l.set o v).drop (o+1+r.length)=l.drop (o+(r.length+1)):=by
   rw[List.drop_set_of_lt (by omega)];congr 1;omega
  rw[e1,e2];simp
theorem LP:∀ (vs:List FV) (o:Nat) (w:FU),w.grownBy (w.setCells g o vs) (FZ g)
 |[],_,_=>⟨rfl,rfl,rfl,A8 _,fun _ _ _=>rfl⟩
 |v::r,o,_=>RX (WE v) (LP r (o+1) _)
theorem Own.splice{pre tl:List DF}(h:Own W g cap (pre++tl))(new:List DF)(hfit:pre.length+new.length<=cap):Own (W.setCells g (pre.length*3) (H6 new)) g cap (pre++new):=by
 obtain⟨rest,h1,h2,h3⟩:=h;have hlen:(H6 (pre++tl)++rest).length=cap*3:=by rw[AO,GY];exact h2
 refine⟨(H6 (pre++tl)++rest).drop (pre.length*3+(H6 new).length),?_,?_,h3⟩
 .rw[PX (H6 new) (pre.length*3) W _ h1 (by rw[hlen,GY];omega),JO pre new]
  congr 3
  have e:H6 (pre++tl)++rest=H6 pre++(H6 tl++rest):=by rw[JO,BQ]
  rw[e,<-GY pre,List.take_left]
 .rw[List.length_drop,hlen,GY,AO];omega
theorem Own.spare(h:Own W g cap fs)(vs:List FV)(o:Nat)(ho:fs.length*3<=o)(hfit:o+vs.length<=cap*3):Own (W.setCells g o vs) g cap fs:=by
 obtain⟨rest,h1,h2,h3⟩:=h;have hlen:(H6 fs++rest).length=cap*3:=by rw[AO,GY];exact h2
 have hc:=GY fs;refine⟨rest.take (o-fs.length*3)++vs++(H6 fs++rest).drop (o+vs.length),?_,?_,h3⟩
 .rw[PX vs o W _ h1 (by rw[hlen];omega)]
  congr 2
  rw[List.take_append,BL (by omega),hc];simp only[BQ]
 .simp only[AO,List.length_take,List.length_drop,hc];omega
theorem Own.tY{A B:List DF}{y:DF}(h:Own W g cap (A++y::B))(x:DF):Own (W.setCells g (A.length*3) (JB x)) g cap (A++x::B):=by
 obtain⟨rest,h1,h2,h3⟩:=h;have hlen:(H6 (A++y::B)++rest).length=cap*3:=by rw[AO,GY];exact h2
 refine⟨rest,?_,by simpa using h2,h3⟩;have hA:=GY A;rw[PX (JB x) (A.length*3) W _ h1 (by rw[hlen];simp[JB]at h2⊢;omega)];have e:H6 (A++y::B)++rest=H6 A++(JB y++(H6 B++rest)):=by simp[JO,H6]
 have e':H6 (A++x::B)++rest=H6 A++(JB x++(H6 B++rest)):=by simp[JO,H6]
 rw[e,e'];have hx3:(JB x).length=3:=rfl;have hy3:(JB y).length=3:=rfl
 congr 2
 rw[hx3,<-hA,List.take_left,show (H6 A).length+3=(H6 A++JB y).length by rw[AO,hy3],<-BQ (H6 A) (JB y),List.drop_left,BQ]
def AU5(fs:List DF)(name:List UInt8)(E:Int):Prop:=(UQ fs=false/\E=3)\/(LK fs/\(∃A B,Gap fs A B name)/\E=7)
theorem iT(fs:List DF)(name:List UInt8):(∃E,AU5 fs name E)\/(LK fs/\∃A f B,There fs A f B name):=by
 cases hg:UQ fs with
 |false=>exact .inl ⟨3,.inl ⟨hg,rfl⟩⟩
 |true=>
  have g:=MP.1 hg;rcases A46 name fs g.asc with h|h
  .exact .inr ⟨g,h⟩
  .exact .inl ⟨7,.inr ⟨g,h,rfl⟩⟩
theorem IU(hv:IK w v fs):∃a n c,v=FQ a n c:=by
 rcases hv with⟨a,cap,rfl,_,_⟩|⟨b,off,cap,rfl,_⟩
 .exact⟨_,_,_,rfl⟩
 .exact⟨_,_,_,rfl⟩
theorem iU(v:FV)(fs:List DF)(name:List UInt8)(E:Int)(w:FU)(hv:IK w v fs)(hs:l7 fs)(h:AU5 fs name E):
  FW prog 78 #[.agg #[v],.string ⟨name.toArray⟩] w fun e w'=>e=.returned (.tuple #[.int .i64 0,.int .i64 E])/\Below w.heap.size w w':=by
 obtain⟨a,n,c,rfl⟩:=IU hv;have HV:=G6 hv;have CG:=fun W (h:Below w.heap.size w W)=>U4 _ fs W (hv.next h) hs;rcases h with⟨hg,rfl⟩|⟨g,⟨A,B,G⟩,rfl⟩
 .rw[hg]at CG;clear hg hv hs;go_enter func78,ntmps78;go_wp2_with fail;refine(CG _ ((AA _ _).alloc (A8 _) _)).mono ?_;rintro e w1 ⟨rfl,hb1⟩;have hbz:=LG hb1;clear CG;go_wp2_with fail
  go_ret2
  exact⟨rfl,hbz⟩
 .rw[MP.2 g]at CG;have CF:=fun W (h:Below w.heap.size w W)=>A68 _ fs A B name W (hv.next h) g.few G;clear hv hs g G;go_enter func78,ntmps78;go_wp2_with fail;refine(CG _ ((AA _ _).alloc (A8 _) _)).mono ?_;rintro e w1 ⟨rfl,hb1⟩;have hbz:=LG hb1;have c1:w1.cell? ⟨w.heap.size,0,FX⟩=FZ (FQ a n c):=by rw[hb1.cell (p:=⟨w.heap.size,0,FX⟩) (by simp)];simp
  clear CG hb1;go_wp2_with fail;refine(CF _ hbz).mono ?_;rintro e w2 ⟨rfl,hb2⟩;have hbx:=PO hbz hb2;clear CF;go_wp2_with fail
  go_ret2
  exact⟨rfl,hbx⟩
theorem SY(v:FV)(fs A B:List DF)(f:DF)(name:List UInt8)(w:FU)(hv:IK w v fs)(hs:l7 fs)(g:LK fs)(T:There fs A f B name):
  FW prog 78 #[.agg #[v],.string ⟨name.toArray⟩] w fun e w'=>e=.returned (.tuple #[.int .i64 A.length,.int .i64 0])/\Below w.heap.size w w':=by
 obtain⟨a,n,c,rfl⟩:=IU hv;have CG:=fun W (h:Below w.heap.size w W)=>U4 _ fs W (hv.next h) hs;rw[MP.2 g]at CG;have CF:=fun W (h:Below w.heap.size w W)=>mO _ fs A B f name W (hv.next h) g.few T;clear hv hs g T;go_enter func78,ntmps78;go_wp2_with fail;refine(CG _ ((AA _ _).alloc (A8 _) _)).mono ?_;rintro e w1 ⟨rfl,hb1⟩;have hbz:=LG hb1;have c1:w1.cell? ⟨w.heap.size,0,FX⟩=FZ (FQ a n c):=by rw[hb1.cell (p:=⟨w.heap.size,0,FX⟩) (by simp)];simp
 clear CG hb1;go_wp2_with fail;refine(CF _ hbz).mono ?_;rintro e w2 ⟨rfl,hb2⟩;have hbx:=PO hbz hb2;clear CF;go_wp2_with fail
 go_ret2
 exact⟨rfl,hbx⟩
theorem WG{A B:List DF}{name:List UInt8}(hv:IK w v fs)(T:There fs A f B name):
  ∃b off cap,v=FQ (FZ ⟨b,off,FX⟩) fs.length cap/\b<w.heap.size/\IB w b off (H6 fs)/\fs[A.length]?=FZ f/\A.length<fs.length:=by
 have hk:fs[A.length]?=FZ f:=by rw[T.eq];simp
 rcases hv with⟨a,cap,rfl,rfl,_⟩|⟨b,off,cap,rfl,_,_,hb,_,hr⟩
 .simp at hk
 .exact⟨b,off,cap,rfl,hb,hr,hk,(AU.1 hk).1⟩
theorem yX(v:FV)(fs:List DF)(name:List UInt8)(E:Int)(w:FU)(hv:IK w v fs)(hs:l7 fs)(h:AU5 fs name E):
  FW prog 56 #[.agg #[v],.string ⟨name.toArray⟩] w fun e w'=>e=.returned (.tuple #[.string ⟨#[]⟩,.int .i64 E])/\Below w.heap.size w w':=by
 obtain⟨a,n,c,rfl⟩:=IU hv;have C:=fun W (hW:Below w.heap.size w W)=>iU _ fs name E W (hv.next hW) hs h;have hne:(E !=0)=true:=by rcases h with⟨_,rfl⟩|⟨_,_,rfl⟩<;>decide
 clear hv hs h;go_enter func56,ntmps56;go_wp2_with fail;refine(C _ ((AA _ _).alloc (A8 _) _)).mono ?_;rintro e w1 ⟨rfl,hb1⟩;have hbz:=LG hb1;clear C;go_wp2_with fail
 go_ret2
 exact⟨rfl,hbz⟩
theorem mQ(v:FV)(fs A B:List DF)(f:DF)(name:List UInt8)(w:FU)(hv:IK w v fs)(hs:l7 fs)(g:LK fs)(T:There fs A f B name):
  FW prog 56 #[.agg #[v],.string ⟨name.toArray⟩] w fun e w'=>e=.returned (.tuple #[.string ⟨(f.s++f.t).toArray⟩,.int .i64 0])/\Below w.heap.size w w':=by
 have C:=fun W (hW:Below w.heap.size w W)=>SY _ fs A B f name W (hv.next hW) hs g T;obtain⟨b,off,cap,rfl,hb,hr,hk,hlt⟩:=WG hv T;have hfl:=NC (T.ok g);have HR:=G6 hr;have HK:=G6 hk;have hb0:b≠w.heap.size:=by omega
 have C85:(A.length:Int)<(fs.length:Int):=by omega
 clear hv hs g T hr hk;go_enter func56,ntmps56;go_wp2_with fail;refine(C _ ((AA _ _).alloc (A8 _) _)).mono ?_;rintro e w1 ⟨rfl,hb1⟩;have hbz:=LG hb1;have c1:w1.cell? ⟨w.heap.size,0,FX⟩=FZ (FQ (FZ ⟨b,off,FX⟩) fs.length cap):=by rw[hb1.cell (p:=⟨w.heap.size,0,FX⟩) (by simp)];simp
 have r:=(G5 HR).kept hbz hb;have e0:=r.c0 (G5 HK);have e1:=r.c1 (G5 HK);have e2:=r.c2 (G5 HK);obtain⟨fn,fss,ft⟩:=f;simp only at*;have k1:=fun W=>OJ fss W (by omega);have k2:=fun W=>OJ ft W (by omega);have hlen:¬9223372036854775807<fss.length+ft.length:=by omega
 clear C hb1 r;go_wp2_with fail;have a1:(w1.alloc (Obj.cells #[Value.string ⟨fn.toArray⟩,Value.string ⟨fss.toArray⟩,Value.string ⟨ft.toArray⟩] 88)).cell? ⟨w1.heap.size,1,FX⟩=FZ (.string ⟨fss.toArray⟩):=by simp
 have a2:(w1.alloc (Obj.cells #[Value.string ⟨fn.toArray⟩,Value.string ⟨fss.toArray⟩,Value.string ⟨ft.toArray⟩] 88)).cell? ⟨w1.heap.size,2,FX⟩=FZ (.string ⟨ft.toArray⟩):=by simp
 have hbw:=hbz.alloc hbz.size (Obj.cells #[Value.string ⟨fn.toArray⟩,Value.string ⟨fss.toArray⟩,Value.string ⟨ft.toArray⟩] 88);generalize w1.alloc (Obj.cells #[Value.string ⟨fn.toArray⟩,Value.string ⟨fss.toArray⟩,Value.string ⟨ft.toArray⟩] 88)=W at a1 a2 hbw⊢;have d1:∀d os,(Sort.grow (redrawn W d) os).cell? ⟨w1.heap.size,1,FX⟩=FZ (.string ⟨fss.toArray⟩):=fun d os=>cell_regrown a1 d os;have d2:∀d os,(Sort.grow (redrawn W d) os).cell? ⟨w1.heap.size,2,FX⟩=FZ (.string ⟨ft.toArray⟩):=fun d os=>cell_regrown a2 d os;have c1':=fun d os=>Calls.regrown_of (w:=W) (d:=d) (os:=os) (k1 _);have c2:=fun d os=>Calls.regrown_of (w:=W) (d:=d) (os:=os) (k2 _);clear k1 k2 a1 a2 e0 e1 e2 c1;refine wp_region_quiet_below (by kernel_rfl) (by kernel_rfl) ?_
 repeat (first|go_big_quiet_step (first|with_reducible exact c1' _ _|with_reducible exact c2 _ _)|quiet_step (first|with_reducible exact c1' _ _|with_reducible exact c2 _ _))
 refine wpQuiet_nil ?_;intro _ hw';obtain⟨⟨dq,osq⟩,hw''⟩:=hw';subst hw'';have hb2:=PO hbw (below_regrown W dq osq);clear c1' c2 d1 d2;go_wp2_with fail
 go_ret2
 exact⟨by rw[<-pK];rfl,hb2⟩
structure P9(w W:FU)(v:FV):Prop where
 below:B0 w W
 size:w.heap.size+2<=W.heap.size
 cd:W.cell? ⟨w.heap.size,0,FX⟩=FZ v
 cr:W.cell? ⟨w.heap.size+1,0,FX⟩=FZ (N0)
 fr:W.frozen? ⟨w.heap.size+1,0,FX⟩=false
theorem P9.next(h:P9 w W v)(hb:B0 W V):P9 w V v:=
 ⟨PO h.below hb,BM h.size hb.size,by rw[hb.cell (p:=⟨w.heap.size,0,FX⟩) (by have:=h.size;show w.heap.size<_;omega)];exact h.cd,
  by rw[hb.cell (p:=⟨w.heap.size+1,0,FX⟩) (by have:=h.size;show w.heap.size+1<_;omega)];exact h.cr,by rw[hb.frozen (p:=⟨w.heap.size+1,0,FX⟩) (by have:=h.size;show w.heap.size+1<_;omega)];exact h.fr⟩
theorem P9.grown(h:P9 w W v)(hg:W.grownBy V (FZ g))(hl:w.heap.size+2<=g):P9 w V v:=by
 have hs:=h.size;have b0:V.heap[w.heap.size]?=W.heap[w.heap.size]? :=hg.block _ (by omega) (fun e=>by cases e;omega);have b1:V.heap[w.heap.size+1]?=W.heap[w.heap.size+1]? :=hg.block _ (by omega) (fun e=>by cases e;omega);exact⟨h.below.grown hg (by omega) (fun k e=>by cases e;omega),BM h.size hg.size,(World.cell?_of_block b0).trans h.cd,(World.cell?_of_block b1).trans h.cr,(World.frozen?_of_block b1).trans h.fr⟩
theorem P9.start(w:FU)(v:FV)(t t':TypeId):P9 w ((w.alloc (FT #[v] t)).alloc (FT #[N0] t')) v:=
 ⟨((AA _ _).alloc (A8 _) _).alloc (by simp) _,by simp,by simp,by simp,by simp⟩
theorem P9.alloc(h:P9 w W v)(o:Obj):P9 w (W.alloc o) v:=h.next ((AA _ _).alloc (A8 _) o)
theorem U6(h:Below W.drew.heap.size W.drew V):B0 W V:=((AA _ W).drew).trans h
theorem CN6(v:FV)(fs:List DF)(name:List UInt8)(E:Int)(w:FU)(hv:IK w v fs)(hs:l7 fs)(h:AU5 fs name E):
  FW prog 148 #[.agg #[v],S0 name] w (R0 w (.tuple #[.agg #[N0],I0 E])):=by
 obtain⟨a,n0,c,rfl⟩:=IU hv;have C:=fun W (hW:B0 w W)=>iU _ fs name E W (hv.next hW) hs h;have hne:(E !=0)=true:=by rcases h with⟨_,rfl⟩|⟨_,_,rfl⟩<;>decide
 clear hv hs h;go_enter func148,ntmps148;go_wp2_with fail;refine(C _ (((AA _ _).alloc (A8 _) _).alloc (by simp) _)).mono ?_;rintro e w1 ⟨rfl,hb1⟩;have hbz:=LG (LG hb1);have c1:w1.cell? ⟨w.heap.size+1,0,FX⟩=FZ (N0):=by rw[hb1.cell (p:=⟨w.heap.size+1,0,FX⟩) (by simp)];simp
 have f1:w1.frozen? ⟨w.heap.size+1,0,FX⟩=false:=by rw[hb1.frozen (p:=⟨w.heap.size+1,0,FX⟩) (by simp)];simp
 clear C hb1;go_wp2_with fail;exact bodyPost_ret (v:=.tuple #[.agg #[N0],I0 E]) (by simp[results,results148,go_sem,c1]) rfl ⟨rfl,hbz.setCell (by simp) _⟩
theorem AU6(v:FV)(fs:List DF)(name:List UInt8)(E:Int)(w:FU)(hv:IK w v fs)(hs:l7 fs)(h:AU5 fs name E):
  FW prog 147 #[.agg #[v],S0 name] w (R0 w (.tuple #[.agg #[N0],I0 E])):=by
 obtain⟨a,n0,c,rfl⟩:=IU hv;have C:=fun W (hW:B0 w W)=>iU _ fs name E W (hv.next hW) hs h;have hne:(E !=0)=true:=by rcases h with⟨_,rfl⟩|⟨_,_,rfl⟩<;>decide
 clear hv hs h;go_enter func147,ntmps147;go_wp2_with fail;refine(C _ (((AA _ _).alloc (A8 _) _).alloc (by simp) _)).mono ?_;rintro e w1 ⟨rfl,hb1⟩;have hbz:=LG (LG hb1);have c1:w1.cell? ⟨w.heap.size+1,0,FX⟩=FZ (N0):=by rw[hb1.cell (p:=⟨w.heap.size+1,0,FX⟩) (by simp)];simp
 have f1:w1.frozen? ⟨w.heap.size+1,0,FX⟩=false:=by rw[hb1.frozen (p:=⟨w.heap.size+1,0,FX⟩) (by simp)];simp
 clear C hb1;go_wp2_with fail;exact bodyPost_ret (v:=.tuple #[.agg #[N0],I0 E]) (by simp[results,results147,go_sem,c1]) rfl ⟨rfl,hbz.setCell (by simp) _⟩
theorem XM{B:Nat}(h:XL W B v fs){k:Nat}(hk:k<fs.length):∃g cap,v=FQ (FZ ⟨g,0,FX⟩) fs.length cap/\B<=g/\Own W g cap fs:=by
 rcases h with⟨rfl,rfl⟩|h
 .simp at hk
 .exact h
theorem XO(v:FV)(fs A B:List DF)(f:DF)(name:List UInt8)(w:FU)(hv:IK w v fs)(hs:l7 fs)(g:LK fs)(T:There fs A f B name):
  FW prog 148 #[.agg #[v],S0 name] w fun e w'=>∃v',e=.returned (.tuple #[.agg #[v'],I0 0])/\XL w' w.heap.size v' (A++⟨f.n,f.s++f.t,[]⟩::B)/\B0 w w':=by
 have C:=fun W (hW:B0 w W)=>SY _ fs A B f name W (hv.next hW) hs g T;have CC:=fun W (hW:B0 w W)=>RS _ fs W (hv.next hW) hs g.few;obtain⟨b,off,cap,rfl,hb,hr,hk,hlt⟩:=WG hv T;have hfl:=NC (T.ok g);have HR:=G6 hr;have HK:=G6 hk;have HT:=G6 T.eq;have hb0:b≠w.heap.size:=by omega
 have C85:(A.length:Int)<(fs.length:Int):=by omega
 have CS:=fun W=>ZQ f W (by omega);have CT:=fun(g c:Nat) (W:FU) (ho:Own W g c fs)=>bQ g c A.length fs f (f.s.length+f.t.length) W ho hk (by omega) hfl;have hset:fs.set A.length ⟨f.n,(f.s++f.t).take (f.s.length+f.t.length),[]⟩=A++⟨f.n,f.s++f.t,[]⟩::B:=by rw[T.eq];simp[BL]
 have hsl:fs.length=(A++⟨f.n,f.s++f.t,[]⟩::B).length:=by rw[T.eq];simp
 rw[hset]at CT;obtain⟨fs',BR5⟩:∃x,A++⟨f.n,f.s++f.t,[]⟩::B=x:=⟨_,rfl⟩;rw[BR5]at CT hsl⊢;have HSL:=G6 hsl;obtain⟨L,hL⟩:∃L,f.s.length+f.t.length=L:=⟨_,rfl⟩;rw[hL]at CS hfl CT;clear hv hs g T hr hk hset BR5 hsl hL HT;go_enter func148,ntmps148;go_wp2_with fail;have X:=P9.start w (FQ (FZ ⟨b,off,FX⟩) fs.length cap) 42 42;generalize (w.alloc (FT #[FQ (FZ ⟨b,off,FX⟩) fs.length cap] 42)).alloc (FT #[N0] 42)=w0 at*;refine(C _ X.below).mono ?_;rintro e w1 ⟨rfl,hb1⟩;have X1:=X.next hb1;have HX:=G6 X1;have cd:=X1.cd;have r:=(G5 HR).kept X1.below hb;have e0:=r.c0 (G5 HK);have e1:=r.c1 (G5 HK);have e2:=r.c2 (G5 HK);clear C hb1 r X X1;go_wp2_with fail;refine(CC _ (G5 HX).below).mono ?_;rintro e w2 ⟨v',rfl,ho,hb2⟩;obtain⟨g,cap2,rfl,hg,ho⟩:=XM ho hlt;have hgl:=ho.lt;have hg2:w.heap.size+2<=g:=by have:=(G5 HX).size;omega
 have X2:=((G5 HX).next hb2).alloc (FT #[FQ (FZ ⟨g,0,FX⟩) fs.length cap2] 42);have ho2:=ho.alloc (FT #[FQ (FZ ⟨g,0,FX⟩) fs.length cap2] 42);have ca:(w2.alloc (FT #[FQ (FZ ⟨g,0,FX⟩) fs.length cap2] 42)).cell? ⟨w2.heap.size,0,FX⟩=FZ (FQ (FZ ⟨g,0,FX⟩) fs.length cap2):=by simp
 have haz:w2.heap.size<(w2.alloc (FT #[FQ (FZ ⟨g,0,FX⟩) fs.length cap2] 42)).heap.size:=by simp
 clear CC hb2 ho HX cd e0 e1 e2;go_wp2_with fail;generalize w2.alloc (FT #[FQ (FZ ⟨g,0,FX⟩) fs.length cap2] 42)=W at*;have HX:=G6 X2;have HO:=G6 ho2;have cd:=X2.cd;have r:=(G5 HR).kept X2.below hb;have e0:=r.c0 (G5 HK);have e1:=r.c1 (G5 HK);have e2:=r.c2 (G5 HK);clear r X2 ho2
 go_region_with (first
  |(go_at_call 82;refine(CS _).mono ?_;rintro e w3 ⟨rfl,hb3⟩;have ca3:w3.cell? ⟨w2.heap.size,0,FX⟩=FZ (FQ (FZ ⟨g,0,FX⟩) fs.length cap2):=(hb3.cell (p:=⟨w2.heap.size,0,FX⟩) haz).trans ca)
  |(go_at_call 88;refine(CT g cap2 w3 ((G5 HO).next (U6 hb3))).mono ?_;rintro e w4 ⟨rfl,ho4,hg4⟩))
 all_goals
  have X4:=((G5 HX).next (U6 hb3)).grown hg4 hg2;have ca4:w4.cell? ⟨w2.heap.size,0,FX⟩=FZ (FQ (FZ ⟨g,0,FX⟩) fs.length cap2):=hg4.cell ca3 (fun e=>by have e3:w2.heap.size=g:=BN e;omega);have cr:=X4.cr;have fr:=X4.fr;have HB:=G6 X4.below;have HO4:=G6 ho4;clear X4 ho4 hg4;clear CS CT;go_wp2_with fail;refine bodyPost_ret (v:=.tuple #[.agg #[FQ (FZ ⟨g,0,FX⟩) fs.length cap2],I0 0]) (by simp[results,results148,go_sem,cr]) rfl ⟨_,rfl,.inr ⟨g,cap2,by rw[G5 HSL],by omega,(G5 HO4).other (by show g≠w.heap.size+1;omega) _⟩,(G5 HB).setCell (by simp) _⟩
theorem uH(v:FV)(fs A B:List DF)(f:DF)(name:List UInt8)(n:Nat)(w:FU)(hv:IK w v fs)(hs:l7 fs)(g:LK fs)(T:There fs A f B name)(hn:n<=f.s.length+f.t.length):
  FW prog 59 #[.agg #[v],S0 name,I0 n] w fun e w'=>∃v',e=.returned (.tuple #[.agg #[v'],I0 0])/\XL w' w.heap.size v' (A++⟨f.n,(f.s++f.t).take n,[]⟩::B)/\B0 w w':=by
 have C:=fun W (hW:B0 w W)=>SY _ fs A B f name W (hv.next hW) hs g T;have CC:=fun W (hW:B0 w W)=>RS _ fs W (hv.next hW) hs g.few;obtain⟨b,off,cap,rfl,hb,hr,hk,hlt⟩:=WG hv T;have hfl:=NC (T.ok g);have HR:=G6 hr;have HK:=G6 hk;have HT:=G6 T.eq;have hb0:b≠w.heap.size:=by omega
 have C85:(A.length:Int)<(fs.length:Int):=by omega
 have CS:=fun W=>ZQ f W (by omega);have CT:=fun(g c:Nat) (W:FU) (ho:Own W g c fs)=>bQ g c A.length fs f n W ho hk (by omega) hfl;have hset:fs.set A.length ⟨f.n,(f.s++f.t).take n,[]⟩=A++⟨f.n,(f.s++f.t).take n,[]⟩::B:=by rw[T.eq];simp
 have hsl:fs.length=(A++⟨f.n,(f.s++f.t).take n,[]⟩::B).length:=by rw[T.eq];simp
 rw[hset]at CT;obtain⟨fs',BR5⟩:∃x,A++⟨f.n,(f.s++f.t).take n,[]⟩::B=x:=⟨_,rfl⟩;rw[BR5]at CT hsl⊢;have HSL:=G6 hsl;obtain⟨L,hL⟩:∃L,f.s.length+f.t.length=L:=⟨_,rfl⟩;rw[hL]at CS hfl hn;have hn0:¬ ((n:Int)<0):=by omega
 have hn1:¬ ((L:Int)<(n:Int)):=by omega
 clear hv hs g T hr hk hset BR5 hsl hL HT;go_enter func59,ntmps59;go_wp2_with fail;have X:=P9.start w (FQ (FZ ⟨b,off,FX⟩) fs.length cap) 42 42;generalize (w.alloc (FT #[FQ (FZ ⟨b,off,FX⟩) fs.length cap] 42)).alloc (FT #[N0] 42)=w0 at*;refine(C _ X.below).mono ?_;rintro e w1 ⟨rfl,hb1⟩;have X1:=X.next hb1;have HX:=G6 X1;have cd:=X1.cd;have r:=(G5 HR).kept X1.below hb;have e0:=r.c0 (G5 HK);have e1:=r.c1 (G5 HK);have e2:=r.c2 (G5 HK);clear C hb1 r X X1;go_wp2_with fail;refine(CS _).mono ?_;rintro e wx ⟨rfl,hbx⟩;have X1:=(G5 HX).next hbx;clear HX;have HX:=G6 X1;have cdx:=X1.cd;clear hbx X1;go_wp2_with fail;refine(CC _ (G5 HX).below).mono ?_;rintro e w2 ⟨v',rfl,ho,hb2⟩;obtain⟨g,cap2,rfl,hg,ho⟩:=XM ho hlt;have hgl:=ho.lt;have hg2:w.heap.size+2<=g:=by have:=(G5 HX).size;omega
 have X2:=((G5 HX).next hb2).alloc (FT #[FQ (FZ ⟨g,0,FX⟩) fs.length cap2] 42);have ho2:=ho.alloc (FT #[FQ (FZ ⟨g,0,FX⟩) fs.length cap2] 42);have ca:(w2.alloc (FT #[FQ (FZ ⟨g,0,FX⟩) fs.length cap2] 42)).cell? ⟨w2.heap.size,0,FX⟩=FZ (FQ (FZ ⟨g,0,FX⟩) fs.length cap2):=by simp
 have haz:w2.heap.size<(w2.alloc (FT #[FQ (FZ ⟨g,0,FX⟩) fs.length cap2] 42)).heap.size:=by simp
 clear CC hb2 ho HX cd e0 e1 e2 cdx;go_wp2_with fail;generalize w2.alloc (FT #[FQ (FZ ⟨g,0,FX⟩) fs.length cap2] 42)=W at*;have HX:=G6 X2;have HO:=G6 ho2;have cd:=X2.cd;have r:=(G5 HR).kept X2.below hb;have e0:=r.c0 (G5 HK);have e1:=r.c1 (G5 HK);have e2:=r.c2 (G5 HK);clear r X2 ho2;refine(CT g cap2 W (G5 HO)).mono ?_;rintro e w4 ⟨rfl,ho4,hg4⟩
 all_goals
  have X4:=(G5 HX).grown hg4 hg2;have ca4:w4.cell? ⟨w2.heap.size,0,FX⟩=FZ (FQ (FZ ⟨g,0,FX⟩) fs.length cap2):=hg4.cell ca (fun e=>by have e3:w2.heap.size=g:=BN e;omega);have cr:=X4.cr;have fr:=X4.fr;have HB:=G6 X4.below;have HO4:=G6 ho4;clear X4 ho4 hg4;clear CS CT;go_wp2_with fail;refine bodyPost_ret (v:=.tuple #[.agg #[FQ (FZ ⟨g,0,FX⟩) fs.length cap2],I0 0]) (by simp[results,results59,go_sem,cr]) rfl ⟨_,rfl,.inr ⟨g,cap2,by rw[G5 HSL],by omega,(G5 HO4).other (by show g≠w.heap.size+1;omega) _⟩,(G5 HB).setCell (by simp) _⟩
def iV:List FV:=[.string ⟨#[]⟩,.string ⟨#[]⟩,.string ⟨#[]⟩]
theorem AG6(w:FU)(ty:TypeId)(b o c:Nat)(hc:∀j,j<3->(w.cell? ⟨b,o+j,FX⟩).isSome=true)(hf:∀j,j<3->w.frozen? ⟨b,o+j,FX⟩=false):
  (Builtin.clear_ #[40] ty #[FQ (FZ ⟨b,o,FX⟩) 1 c]).run prog w=.ok (.tuple #[]) (w.setCells b o iV):=by
 have hzc:(Builtin.zeroCells (Value.agg #[.string ⟨#[]⟩,.string ⟨#[]⟩,.string ⟨#[]⟩]).cells 1).toList=iV:=by kernel_rfl
 have hst:=run_storeCells_cells (P:=prog) b o iV 0 w (by simpa [iV]using hc) (by simpa [iV]using hf) (by simp[iV,Value.oneCell']);simp only[Nat.add_zero]at hst;simp[Builtin.clear_,run_underlying underlying40,hzc,hst]
theorem Own.some(h:Own W g cap fs){j:Nat}(hj:j<cap*3):(W.cell? ⟨g,j,FX⟩).isSome=true:=by
 obtain⟨rest,h1,h2,_⟩:=h;have hl:j<(H6 fs++rest).length:=by rw[AO,GY,h2];exact hj
 rw[AO]at hl;simp[World.cell?,h1,hl]
theorem yY(g cap:Nat)(A B:List DF)(f:DF)(n:Nat)(w:FU)(ho:Own w g cap (A++f::B))(hn:n=A.length+B.length+1)(hsm:n<=1000):
  FW prog 189 #[FQ (FZ ⟨g,0,FX⟩) n cap,I0 A.length,I0 (A.length+1:Nat)] w fun e w'=>
   e=.returned (FQ (FZ ⟨g,0,FX⟩) (A.length+B.length) cap)/\Own w' g cap (A++B)/\w.grownBy w' (FZ g):=by
 obtain⟨i0,hi0,hz0,hz1,hz2⟩:=U5;have hle:=ho.le;have hcl:=ho.capLe;simp only[maxLen]at hcl;rw[AO,BG]at hle;have hrow:=ho.row;obtain⟨AD,hAD,hsrc⟩:∃AD:Addr,(if cap=A.length+1 then FZ (⟨g,0,FX⟩:Addr)else FZ ⟨g,(A.length+1)*3,FX⟩)=FZ AD/\Hid (∀t u,(H6 B)[t]?=FZ u->w.drew.cell? (AD.add t)=FZ u):=by
  by_cases h:cap=A.length+1
  .refine⟨⟨g,0,FX⟩,by simp[h],fun t u hu=>?_⟩;have h0:B=[]:=BR (by omega);rw[h0]at hu;simp[H6]at hu
  .refine⟨⟨g,(A.length+1)*3,FX⟩,by simp[h],fun t u hu=>?_⟩;rw[Addr.add_lit];have:=hrow ((A.length+1)*3+t) u (by
    rw[JO,BA (by rw[GY];omega),GY,H6,BA (by simp[JB];omega)];simp only[JB,BG,List.length_nil];rw[<-hu];congr 1;omega)
   rw[BI]at this;exact this
 have s1:Hid ((H6 B).length=B.length*3):=GY B;have s2:Hid (∀u∈H6 B,u.oneCell'=true):=XK B;have s3:Hid (∀t,t<(H6 B).length->(w.drew.cell? ⟨g,0+A.length*3+t,FX⟩).isSome=true/\w.drew.frozen? ⟨g,0+A.length*3+t,FX⟩=false):=by
  intro t ht;rw[GY]at ht;exact⟨ho.some (by omega),ho.frozen _⟩
 obtain⟨W1,hW1⟩:∃W1,W1=w.drew.setCells g (0+A.length*3) (H6 B):=⟨_,rfl⟩;have ho1:Own W1 g cap (A++B):=by rw[hW1,BI];exact ho.drew.splice B (by omega)
 have hg1:w.grownBy W1 (FZ g):=by rw[hW1];have:=LP (g:=g) (H6 B) (0+A.length*3) w.drew;exact⟨this.os,this.tape,this.output,this.size,this.block⟩
 have CM1:∀ty c,(Builtin.clear_ #[40] ty #[FQ (FZ ⟨g,(A.length+B.length)*3,FX⟩) 1 c]).run prog W1=.ok (.tuple #[]) (W1.setCells g ((A.length+B.length)*3) iV):=fun ty c=>
  AG6 W1 ty g _ c (fun j hj=>ho1.some (by omega)) (fun j hj=>ho1.frozen _)
 have FIN:Hid (Own (W1.setCells g ((A.length+B.length)*3) iV) g cap (A++B)/\w.grownBy (W1.setCells g ((A.length+B.length)*3) iV) (FZ g)):=
  ⟨ho1.spare iV _ (by rw[AO];omega) (by simp[iV];omega),RX hg1 (LP _ _ _)⟩
 have hW:Hid (W1=w.drew.setCells g (0+A.length*3) (H6 B)):=hW1;have hic:A.length<=cap:=by omega
 have hjc:A.length+1<=cap:=by omega
 have hne:¬ (cap=A.length+B.length):=by omega
 have hb1:(0:Int)<=(A.length:Int)+1:=by omega
 have hb2:(A.length:Int)<=(A.length:Int)+(B.length:Int):=by omega
 have hb3:(0:Int)<=(A.length:Int)+(B.length:Int):=by omega
 have hs1:A.length+B.length+1-(A.length+B.length)=1:=by omega
 clear hW1 ho1 hg1 hrow ho;subst hn;go_enter func189,ntmps189;go_wp2_with fail
 go_region_law (refine step_append_room rfl (.tmp 22) (.tmp 25) 40 rfl 88 i0 3 underlying40 hi0 hz1 g 0 A.length cap (by simp[Act.eval,Act.put]) AD B.length (cap-(A.length+1)) (H6 B) (by simp[Act.eval,Act.put]) s1.out hsrc.out s2.out (by omega) s3.out ?_;rw[<-hW.out])
 go_wp2
 go_ret;exact⟨rfl,FIN.out⟩
theorem uI(v:FV)(fs A B:List DF)(f:DF)(name:List UInt8)(w:FU)(hv:IK w v fs)(hs:l7 fs)(g:LK fs)(T:There fs A f B name):
  FW prog 147 #[.agg #[v],S0 name] w fun e w'=>∃v',e=.returned (.tuple #[.agg #[v'],I0 0])/\XL w' w.heap.size v' (A++B)/\B0 w w':=by
 have C:=fun W (hW:B0 w W)=>SY _ fs A B f name W (hv.next hW) hs g T;have CC:=fun W (hW:B0 w W)=>RS _ fs W (hv.next hW) hs g.few;obtain⟨b,off,cap,rfl,hb,hr,hk,hlt⟩:=WG hv T;have hb0:b≠w.heap.size:=by omega
 have hsm:=g.few;have hlen:fs.length=A.length+B.length+1:=by rw[T.eq];simp;omega
 have CD:=fun(q c:Nat) (W:FU) (ho:Own W q c fs)=>yY q c A B f fs.length W (by rw[<-T.eq];exact ho) hlen (by omega);have HL:=G6 hlen;clear hv hs g T hr hk hlen;go_enter func147,ntmps147;go_wp2_with fail;have X:=P9.start w (FQ (FZ ⟨b,off,FX⟩) fs.length cap) 42 42;generalize (w.alloc (FT #[FQ (FZ ⟨b,off,FX⟩) fs.length cap] 42)).alloc (FT #[N0] 42)=w0 at*;refine(C _ X.below).mono ?_;rintro e w1 ⟨rfl,hb1⟩;have X1:=X.next hb1;have HX:=G6 X1;have cd:=X1.cd;clear C hb1 X X1;go_wp2_with fail;refine(CC _ (G5 HX).below).mono ?_;rintro e w2 ⟨v',rfl,ho,hb2⟩;obtain⟨q,cap2,rfl,hq,ho⟩:=XM ho hlt;have hql:=ho.lt;have hq2:w.heap.size+2<=q:=by have:=(G5 HX).size;omega
 have X2:=((G5 HX).next hb2).alloc (FT #[FQ (FZ ⟨q,0,FX⟩) fs.length cap2] 42);have ho2:=ho.alloc (FT #[FQ (FZ ⟨q,0,FX⟩) fs.length cap2] 42);have ca:(w2.alloc (FT #[FQ (FZ ⟨q,0,FX⟩) fs.length cap2] 42)).cell? ⟨w2.heap.size,0,FX⟩=FZ (FQ (FZ ⟨q,0,FX⟩) fs.length cap2):=by simp
 have fa:(w2.alloc (FT #[FQ (FZ ⟨q,0,FX⟩) fs.length cap2] 42)).frozen? ⟨w2.heap.size,0,FX⟩=false:=by simp
 have hz2:w.heap.size+2<=w2.heap.size:=by omega
 have haz:w2.heap.size<(w2.alloc (FT #[FQ (FZ ⟨q,0,FX⟩) fs.length cap2] 42)).heap.size:=by simp
 clear CC hb2 ho HX cd;go_wp2_with fail;generalize w2.alloc (FT #[FQ (FZ ⟨q,0,FX⟩) fs.length cap2] 42)=W at*;refine(CD q cap2 _ ho2).mono ?_;rintro e w4 ⟨rfl,ho4,hg4⟩;have X4:=X2.grown hg4 hq2;have ca4:w4.cell? ⟨w2.heap.size,0,FX⟩=FZ (FQ (FZ ⟨q,0,FX⟩) fs.length cap2):=hg4.cell ca (fun e=>by have e3:w2.heap.size=q:=BN e;omega);have fa4:w4.frozen? ⟨w2.heap.size,0,FX⟩=false:=(World.frozen?_of_block (hg4.block w2.heap.size haz (fun e=>by have e3:w2.heap.size=q:=BN e;omega))).trans fa;have cr:=X4.cr;have fr:=X4.fr;have HB:=G6 X4.below;have HO4:=G6 ho4;clear X4 ho4 hg4 X2 ho2 CD ca fa;go_wp2_with fail;exact bodyPost_ret (v:=.tuple #[.agg #[FQ (FZ ⟨q,0,FX⟩) (A.length+B.length) cap2],I0 0]) (by simp[results,results147,go_sem,cr]) rfl
  ⟨_,rfl,.inr ⟨q,cap2,by rw[AO],by omega,((G5 HO4).other (by show q≠w2.heap.size;omega) _).other (by show q≠w.heap.size+1;omega) _⟩,((G5 HB).setCell (by show w.heap.size<=w2.heap.size;omega) _).setCell (by simp) _⟩
