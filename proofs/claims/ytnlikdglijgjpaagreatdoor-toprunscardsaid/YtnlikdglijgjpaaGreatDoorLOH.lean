/-
  Part.
-/
import Derived.Test.YtnlikdglijgjpaaGreatDoorLOG
set_option maxRecDepth 20000
set_option maxHeartbeats 8000000
namespace Go.Proofs.YtnlikdglijgjpaaGreatDoor
open Go.RowKit Go.Proofs.Tryz
open _root_.List renaming getElem?_eq_some_iff->AU,mem_of_getElem?->AZ,mem_cons->BP,mem_append->BZ,pairwise_append->DK,pairwise_cons->FI
open _root_.Option.some renaming inj->BO
open Go.Value renaming slice->FT
open Go.Obj renaming cells->FU
open Go renaming World->FV,Value->FW,Calls->FX
open _root_.Option renaming none->FZ,some->G5
variable{W V:FV}{B fs A:List DF}{v:FW}{k:Nat}{f':DF}{name:List UInt8}
theorem AY4{B:Nat}(h:XO W B v fs):∃a c,v=FT a fs.length c/\fs.length<=c:=by
 rcases h with⟨rfl,rfl⟩|⟨g,cap,rfl,_,h⟩
 .exact⟨FZ,0,rfl,Nat.le_refl _⟩
 .exact⟨_,cap,rfl,h.le⟩
theorem uT{B:Nat}(h:XO W B v fs):∀k,v.ownBlock=G5 k->B<=k/\k<W.heap.size:=by
 intro k hk;rcases h with⟨rfl,rfl⟩|⟨g,cap,rfl,hB,h⟩
 .cases hk
 .cases hk;exact⟨hB,h.lt⟩
theorem zN(v:FW)(A R:List DF)(x:DF)(B b:Nat)(w:FV)(ho:XO w B v (A++R))(hB:B<=w.heap.size)(hl:(A++R).length<=15)(h1:One w b x)(hb:v.ownBlock≠G5 b):
  FX prog 71 #[v,I0 A.length,FT (G5 ⟨b,0,FZ⟩) 1 1] w fun e w'=>
   ∃v',e=.returned v'/\XO w' B v' (A++x::R)/\w.grownBy w' v.ownBlock:=by
 cases R with
 |nil=>
  rw[List.append_nil]at ho hl;exact zL v A x B b w ho hB (by omega) h1
 |cons y R=>
  obtain⟨g,cap,rfl,hg,ho⟩:=XP ho (k:=0) (by simp;omega);have hlen:(A++y::R).length=A.length+R.length+1:=by simp;omega
  have hlen':(A++x::y::R).length=(A++y::R).length+1:=by simp;omega
  by_cases hroom:(A++y::R).length+1<=cap
  .exact(pY g cap A R y x _ b w ho hlen (by omega) hroom h1 (fun e=>hb (by rw[e];rfl))).mono fun e w' ⟨he,ho',hg'⟩=>⟨_,he,.inr ⟨g,cap,by rw[hlen'],hg,ho'⟩,hg'⟩
  .exact(uS g cap A R y x _ b w ho hlen (by omega) (by omega) h1).mono fun e w' ⟨c,he,ho',hb'⟩=>⟨_,he,.inr ⟨w.heap.size,c,by rw[hlen'],hB,ho'⟩,hb'.os,hb'.tape,hb'.output,hb'.size,fun k hk _=>hb'.block k hk⟩
def KJ(W:FV)(k:Nat)(v:FW):Prop:=W.heap[k]?=G5 (FU #[v] 51 (0,0))
theorem KJ.c(h:KJ W k v):W.cell? ⟨k,0,FZ⟩=G5 v:=by unfold KJ at h;simp[World.cell?,h]
theorem KJ.f(h:KJ W k v):W.frozen? ⟨k,0,FZ⟩=false:=by unfold KJ at h;simp[World.frozen?,h]
theorem KJ.next(h:KJ W k v)(hb:B0 W V):KJ V k v:=(hb.block k (by unfold KJ at h;exact(Array.getElem?_eq_some_iff.1 h).1)).trans h
theorem KJ.grown{r:Option Nat}(h:KJ W k v)(hb:W.grownBy V r)(hr:G5 k≠r):KJ V k v:=(hb.block k (by unfold KJ at h;exact(Array.getElem?_eq_some_iff.1 h).1) hr).trans h
theorem KJ.set(h:KJ W k v)(u:FW):KJ (W.setCell ⟨k,0,FZ⟩ u) k u:=GU u h
theorem KJ.ne{g cap:Nat}(h:KJ W k v)(ho:Own W g cap fs):g≠k:=by
 rintro rfl;obtain⟨rest,h1,_⟩:=ho;unfold KJ at h;rw[h]at h1;have:=BO h1;simp at this
theorem KJ.new(W:FV)(v:FW):KJ (W.alloc (FU #[v] 51)) W.heap.size v:=heap_alloc_new W _
theorem PG.AY5{w:FV}{r:Option Nat}(h:PG w W v)(hg:W.grownBy V r)(hl:∀k,r=G5 k->w.heap.size+2<=k):PG w V v:=by
 have hs:=h.size;have b0:V.heap[w.heap.size]?=W.heap[w.heap.size]? :=hg.block _ (by omega) (fun e=>by have:=hl _ e.symm;omega);have b1:V.heap[w.heap.size+1]?=W.heap[w.heap.size+1]? :=hg.block _ (by omega) (fun e=>by have:=hl _ e.symm;omega);exact⟨h.below.grown hg (by omega) (fun k e=>by have:=hl k e;omega),Nat.le_trans h.size hg.size,(World.cell?_of_block b0).trans h.cd,(World.cell?_of_block b1).trans h.cr,(World.frozen?_of_block b1).trans h.fr⟩
theorem PG.other{w:FV}(h:PG w W v)(hk:w.heap.size+2<=k)(j:Nat)(u:FW):PG w (W.setCell ⟨k,j,FZ⟩ u) v:=h.grown (WH u) hk
theorem jG(v:FW)(fs A B:List DF)(f:DF)(name x:List UInt8)(w:FV)(hv:IQ w v fs)(hs:lQ fs)(g:LP fs)(T:There fs A f B name)(hfit:f.s.length+f.t.length+x.length<=1048576):
  FX prog 43 #[.agg #[v],S0 name,S0 x] w fun e w'=>∃v',e=.returned (.tuple #[.agg #[v'],I0 0])/\XO w' w.heap.size v' (A++⟨f.n,f.s,f.t++x⟩::B)/\B0 w w':=by
 have hn:JA name=true:=by rw[<-T.nm];exact VX (T.ok g)
 have CG:=fun W (hW:B0 w W)=>U0 _ fs W (hv.next hW) hs;have CN:=fun W=>A89 name (by simp only[JA,Bool.and_eq_true,decide_eq_true_eq]at hn;omega) W;have CC:=fun W (hW:B0 w W)=>RY _ fs W (hv.next hW) hs g.few;have CF:=fun W (hW:B0 w W)=>mZ _ fs A B f name W (hv.next hW) g.few T;rw[MS.2 g]at CG;rw[hn]at CN;obtain⟨b,off,cap,rfl,hb,hr,hk,hlt⟩:=WI hv T;have HR:=G7 hr;have HK:=G7 hk;have C16:(A.length:Int)<(fs.length:Int):=by omega
 have CS:=fun W=>aA f W (by omega);have CT:=fun(q c:Nat) (W:FV) (ho:Own W q c fs)=>nC q c A.length fs f x W ho hk (by omega) (by omega);have hset:fs.set A.length ⟨f.n,f.s,f.t++x⟩=A++⟨f.n,f.s,f.t++x⟩::B:=by rw[T.eq];simp
 have hsl:fs.length=(A++(⟨f.n,f.s,f.t++x⟩:DF)::B).length:=by rw[T.eq];simp
 rw[hset]at CT;obtain⟨fs',BV8⟩:∃y,A++(⟨f.n,f.s,f.t++x⟩:DF)::B=y:=⟨_,rfl⟩;rw[BV8]at CT hsl⊢;have HSL:=G7 hsl;obtain⟨L,hL⟩:∃L,f.s.length+f.t.length=L:=⟨_,rfl⟩;rw[hL]at CS hfit;have hlg:(x.length:Int)<=1048576-(L:Int):=by omega
 have hsub:IntKind.i64.wrap (1048576-(L:Int))=1048576-(L:Int):=by rw[IntKind.wrap_i64];omega
 clear hv hs g hn T hr hk hset BV8 hsl hL;go_enter func43,ntmps43;go_wp2_with fail;have X:=PG.start w (FT (G5 ⟨b,off,FZ⟩) fs.length cap) 51 51;refine(CG _ X.below).mono ?_;rintro e w1 ⟨rfl,hb1⟩;have X1:=X.next hb1;have HX:=G7 X1;have cd:=X1.cd;have cr:=X1.cr;have fr:=X1.fr;clear CG hb1 X X1;go_wp2_with fail;refine(CN _).mono ?_;rintro e w2 ⟨rfl,rfl⟩;clear CN;go_wp2_with fail;refine(CF _ (G6 HX).below).mono ?_;rintro e w3 ⟨rfl,hb3⟩;have X3:=(G6 HX).next hb3;clear CF HX cd cr fr;have HX:=G7 X3;have cd:=X3.cd;have cr:=X3.cr;have fr:=X3.fr;have r:=(G6 HR).kept X3.below hb;have e0:=r.c0 (G6 HK);have e1:=r.c1 (G6 HK);have e2:=r.c2 (G6 HK);clear hb3 X3 r;go_wp2_with fail;refine(CS _).mono ?_;rintro e w4 ⟨rfl,hb4⟩;have X4:=(G6 HX).next hb4;clear CS HX cd cr fr e0 e1 e2;have HX:=G7 X4;have cd:=X4.cd;clear hb4 X4;go_wp2_with fail;refine(CC _ (G6 HX).below).mono ?_;rintro e w5 ⟨v',rfl,ho,hb5⟩;obtain⟨q,cap2,rfl,hq,ho⟩:=XP ho hlt;have hq2:w.heap.size+2<=q:=by have:=(G6 HX).size;omega
 have X5:=((G6 HX).next hb5).alloc (FU #[FT (G5 ⟨q,0,FZ⟩) fs.length cap2] 51);have ho5:=ho.alloc (FU #[FT (G5 ⟨q,0,FZ⟩) fs.length cap2] 51);have hbx:=KJ.new w5 (FT (G5 ⟨q,0,FZ⟩) fs.length cap2);have ca:=hbx.c;clear CC hb5 ho HX cd;go_wp2_with fail;generalize w5.alloc (FU #[FT (G5 ⟨q,0,FZ⟩) fs.length cap2] 51)=W at*;refine(CT q cap2 W ho5).mono ?_;rintro e w6 ⟨rfl,ho6,hg6⟩;have hne:=hbx.ne ho5;have X6:=X5.grown hg6 hq2;have ca6:=(hbx.grown hg6 (fun e=>hne (BO e).symm)).c;have cr:=X6.cr;have fr:=X6.fr;have HB:=G7 X6.below;have HO6:=G7 ho6;clear X6 ho6 hg6 X5 ho5 CT ca hbx;go_wp2_with fail;exact bodyPost_ret (v:=.tuple #[.agg #[FT (G5 ⟨q,0,FZ⟩) fs.length cap2],I0 0]) (by simp[results,results43,go_sem,cr]) rfl
  ⟨_,rfl,.inr ⟨q,cap2,by rw[G6 HSL],by omega,(G6 HO6).other (by show q≠w.heap.size+1;omega) _⟩,(G6 HB).setCell (by simp) _⟩
theorem aF(v:FW)(fs A B:List DF)(name x:List UInt8)(w:FV)(hv:IQ w v fs)(hs:lQ fs)(g:LP fs)(hn:JA name=true)(hl:fs.length<16)(G:Gap fs A B name)(hfit:x.length<=1048576):
  FX prog 43 #[.agg #[v],S0 name,S0 x] w fun e w'=>∃v',e=.returned (.tuple #[.agg #[v'],I0 0])/\XO w' w.heap.size v' (A++⟨name,[],x⟩::B)/\B0 w w':=by
 have hnl:name.length<=40:=by simp only[JA,Bool.and_eq_true,decide_eq_true_eq]at hn;omega
 have CG:=fun W (hW:B0 w W)=>U0 _ fs W (hv.next hW) hs;have CN:=fun W=>A89 name (by omega) W;have CC:=fun W (hW:B0 w W)=>RY _ fs W (hv.next hW) hs g.few;have CF:=fun W (hW:B0 w W)=>A88 _ fs A B name W (hv.next hW) g.few G;have CL:=fun W=>OL name W (by omega);have hlen:∃a c,v=FT a fs.length c:=by
  rcases hv with⟨a,cap,rfl,rfl,_⟩|⟨b,off,cap,rfl,_⟩
  .exact⟨_,_,rfl⟩
  .exact⟨_,_,rfl⟩
 rw[MS.2 g]at CG;rw[hn]at CN;obtain⟨a,c,rfl⟩:=hlen;have hl2:¬ ((fs.length:Int)=16):=by omega
 have hlg:¬ ((1048576:Int)<(x.length:Int)):=by omega
 have CI:=fun(v5:FW) (D k:Nat) (W:FV) (ho:XO W D v5 fs) (hD:D<=W.heap.size) (h1:One W k ⟨name,[],[]⟩) (hk:v5.ownBlock≠G5 k)=>zN v5 A B ⟨name,[],[]⟩ D k W (by rw[<-G.eq];exact ho) hD (by rw[<-G.eq];omega) h1 hk;have CT:=fun(q c:Nat) (W:FV) (ho:Own W q c (A++⟨name,[],[]⟩::B))=>nC q c A.length _ ⟨name,[],[]⟩ x W ho (by simp) hfit (by simp);have hset:(A++(⟨name,[],[]⟩:DF)::B).set A.length ⟨name,[],[]++x⟩=A++⟨name,[],x⟩::B:=by simp
 simp only at CT;rw[hset]at CT;have hsl:(A++(⟨name,[],[]⟩:DF)::B).length=(A++(⟨name,[],x⟩:DF)::B).length:=by simp
 have HSL:=G7 hsl;have hat:A.length<(A++(⟨name,[],[]⟩:DF)::B).length:=by simp
 obtain⟨f1,hf1⟩:∃y,A++(⟨name,[],x⟩:DF)::B=y:=⟨_,rfl⟩;obtain⟨f0,hf0⟩:∃y,A++(⟨name,[],[]⟩:DF)::B=y:=⟨_,rfl⟩;rw[hf1]at CT HSL⊢;rw[hf0]at CT HSL hat CI;have HCI:=G7 CI;have hati:(A.length:Int)<(f0.length:Int):=by omega
 clear hv hs g hn G hset hsl hf0 hf1 CI;go_enter func43,ntmps43;go_wp2_with fail;have X:=PG.start w (FT a fs.length c) 51 51;refine(CG _ X.below).mono ?_;rintro e w1 ⟨rfl,hb1⟩;have X1:=X.next hb1;have HX:=G7 X1;have cd:=X1.cd;have cr:=X1.cr;have fr:=X1.fr;clear CG hb1 X X1;go_wp2_with fail;refine(CN _).mono ?_;rintro e w2 ⟨rfl,rfl⟩;clear CN;go_wp2_with fail;refine(CF _ (G6 HX).below).mono ?_;rintro e w3 ⟨rfl,hb3⟩;have X3:=(G6 HX).next hb3;clear CF HX cd cr fr;have HX:=G7 X3;have cd:=X3.cd;have cr:=X3.cr;have fr:=X3.fr;clear hb3 X3;go_wp2_with fail;refine(CC _ (G6 HX).below).mono ?_;rintro e w5 ⟨v',rfl,ho,hb5⟩;have hob:=uT ho;obtain⟨a5,c5,rfl,_⟩:=AY4 ho;have hz:=(G6 HX).size;have X5:=((G6 HX).next hb5).alloc (FU #[FT a5 fs.length c5] 51);have ho5:=ho.next ((Below.refl _ _).alloc (Nat.le_refl _) (FU #[FT a5 fs.length c5] 51));have hbx:=KJ.new w5 (FT a5 fs.length c5);have haz:(w5.alloc (FU #[FT a5 fs.length c5] 51)).heap.size=w5.heap.size+1:=by simp
 have HOB:=G7 hob;have hz35:=hb5.size;clear CC hb5 ho HX cd hob;go_wp2_with fail;generalize w5.alloc (FU #[FT a5 fs.length c5] 51)=W at*;have CI6:∀w6:FV,B0 W w6->FX prog 71 #[FT a5 fs.length c5,I0 A.length,FT (G5 ⟨w6.heap.size,0,FZ⟩) 1 1] (w6.alloc (FU #[S0 name,.string ⟨#[]⟩,.string ⟨#[]⟩] 69)) fun e w'=>
   ∃g7 c7,e=.returned (FT (G5 ⟨g7,0,FZ⟩) f0.length c7)/\Hid (w3.heap.size<=g7/\Own w' g7 c7 f0/\PG w w' (FT a fs.length c)/\KJ w' w5.heap.size (FT a5 fs.length c5)):=fun w6 hb6=>by
  have hal:=(Below.refl w6.heap.size w6).alloc (Nat.le_refl _) (FU #[S0 name,.string ⟨#[]⟩,.string ⟨#[]⟩] 69);have hs6:=hb6.size;refine(G6 HCI _ w3.heap.size w6.heap.size _ ((ho5.next hb6).next hal) (by have:=X5.size;have:=uT ho5;simp;omega) (heap_alloc_new w6 _) (fun e=>by have:=G6 HOB _ e;omega)).mono ?_;rintro e w7 ⟨v7,he,ho7,hg7⟩;obtain⟨g7,c7,rfl,h7,ho7⟩:=XP ho7 hat;exact⟨g7,c7,he,h7,ho7,((X5.next hb6).next hal).AY5 hg7 (fun k e=>by have:=G6 HOB k e;omega),((hbx.next hb6).next hal).grown hg7 (fun e=>by have:=G6 HOB _ e.symm;omega)⟩
 have ca:=hbx.c;have HBX:=G7 hbx;clear X5 ho5 hbx HCI;have hcx:∀w6:FV,B0 W w6->w6.cell? ⟨w5.heap.size,0,FZ⟩=G5 (FT a5 fs.length c5)/\w5.heap.size<w6.heap.size:=fun w6 hb6=>⟨((G6 HBX).next hb6).c,by have:=hb6.size;omega⟩;have HCX:=G7 hcx;have HC6:=G7 CI6;clear hcx CI6
 go_region_with (first
  |(go_at_call 65;refine(CL _).mono ?_;rintro e w6 ⟨rfl,hb6⟩;obtain⟨ca6,hl6⟩:=G6 HCX w6 (U4 hb6))
  |(go_at_call 71;refine(G6 HC6 w6 (U4 hb6)).mono ?_;rintro e w7 ⟨g7,c7,rfl,h7⟩;have ca7:=(G6 h7).2.2.2.c;have fa7:=(G6 h7).2.2.2.f))
 all_goals
  have hz5:w.heap.size+2<=w5.heap.size:=by omega
  have hne:=(G6 h7).2.2.2.ne (G6 h7).2.1;have ho8:=(G6 h7).2.1.other (a:=⟨w5.heap.size,0,FZ⟩) hne (FT (G5 ⟨g7,0,FZ⟩) f0.length c7);have X8:=(G6 h7).2.2.1.other hz5 0 (FT (G5 ⟨g7,0,FZ⟩) f0.length c7);have hb8:=(G6 h7).2.2.2.set (FT (G5 ⟨g7,0,FZ⟩) f0.length c7);have hg7:=(G6 h7).1;have ca8:=hb8.c;clear h7 ca7 fa7 ca6 hb6 ca CL HC6 HCX HBX;generalize w7.setCell ⟨w5.heap.size,0,FZ⟩ (FT (G5 ⟨g7,0,FZ⟩) f0.length c7)=w8 at*;go_wp2_with fail;refine(CT g7 c7 w8 ho8).mono ?_;rintro e w9 ⟨rfl,ho9,hg9⟩;have X9:=X8.grown hg9 (by omega);have ca9:=(hb8.grown hg9 (fun e=>hne (BO e).symm)).c;have cr9:=X9.cr;have fr9:=X9.fr;have HB:=G7 X9.below;have HO9:=G7 ho9;clear X9 ho9 hg9 X8 ho8 CT ca8 hb8 cr fr;go_wp2_with fail;exact bodyPost_ret (v:=.tuple #[.agg #[FT (G5 ⟨g7,0,FZ⟩) f0.length c7],I0 0]) (by simp[results,results43,go_sem,cr9]) rfl
   ⟨_,rfl,.inr ⟨g7,c7,by rw[G6 HSL],by omega,(G6 HO9).other (by show g7≠w.heap.size+1;omega) _⟩,(G6 HB).setCell (by simp) _⟩
def WJ(k:Nat)(f:DF):DF:=⟨f.n,f.s++f.t.take k,[]⟩
def mix(keep:Nat)(fs:List DF)(j:Nat):List DF:=(fs.take j).map (WJ keep)++fs.drop j
theorem AY6(k:Nat)(l:List UInt8):l.take (min k l.length)=l.take k:=by
 by_cases h:k<=l.length
 .rw[Nat.min_eq_left h]
 .rw[Nat.min_eq_right (by omega),List.take_length,List.take_of_length_le (by omega)]
theorem BH4(keep:Nat)(fs:List DF):mix keep fs 0=fs:=by simp[mix]
theorem C18(keep:Nat)(fs:List DF):mix keep fs fs.length=fs.map (WJ keep):=by simp[mix]
theorem zO{keep:Nat}{j:Nat}{f:DF}(h:fs[j]?=G5 f):(mix keep fs j)[j]?=G5 f:=by
 have hl:=(AU.1 h).1;rw[mix,List.getElem?_append_right (by simp;omega)];simp[h,Nat.min_eq_left (Nat.le_of_lt hl)]
theorem C19{keep:Nat}{j:Nat}{f:DF}(h:fs[j]?=G5 f):(mix keep fs j).set j (WJ keep f)=mix keep fs (j+1):=by
 obtain⟨hl,rfl⟩:=AU.1 h;have e:fs.drop j=fs[j]::fs.drop (j+1):=List.drop_eq_getElem_cons hl;have hm:((fs.take j).map (WJ keep)).length=j:=by simp;omega
 rw[mix,mix,e,List.set_append_right _ _ (by omega),hm,Nat.sub_self,List.set_cons_zero,List.take_succ_eq_append_getElem hl];simp only[List.map_append,List.map_cons,List.map_nil,List.append_assoc,List.cons_append,List.nil_append]
theorem BH5(v:FW)(fs:List DF)(keep:Int)(w:FV)(hv:IQ w v fs)(hs:lQ fs)(h:UN fs=false\/keep<0):
  FX prog 96 #[.agg #[v],I0 keep] w (R0 w (.tuple #[.agg #[N0],I0 3])):=by
 obtain⟨a,n0,c,rfl⟩:=IW hv;have C:=fun W (hW:B0 w W)=>U0 _ fs W (hv.next hW) hs;clear hv hs
 cases hg:UN fs with
 |false=>
  rw[hg]at C;clear hg h;go_enter func96,ntmps96;go_wp2_with fail;have X:=PG.start w (FT a n0 c) 51 51;refine(C _ X.below).mono ?_;rintro e w1 ⟨rfl,hb1⟩;have X1:=X.next hb1;have HB:=G7 X1.below;have c1:=X1.cr;have f1:=X1.fr;clear C hb1 X X1;go_wp2_with fail;exact bodyPost_ret (v:=.tuple #[.agg #[N0],I0 3]) (by simp[results,results96,go_sem,c1]) rfl ⟨rfl,(G6 HB).setCell (by simp) _⟩
 |true=>
  rw[hg]at C h;have hk:keep<0:=h.elim (fun h=>by cases h) id;clear hg h;go_enter func96,ntmps96;go_wp2_with fail;have X:=PG.start w (FT a n0 c) 51 51;refine(C _ X.below).mono ?_;rintro e w1 ⟨rfl,hb1⟩;have X1:=X.next hb1;have HB:=G7 X1.below;have c1:=X1.cr;have f1:=X1.fr;clear C hb1 X X1;go_wp2_with fail;exact bodyPost_ret (v:=.tuple #[.agg #[N0],I0 3]) (by simp[results,results96,go_sem,c1]) rfl ⟨rfl,(G6 HB).setCell (by simp) _⟩
theorem AY7(v:FW)(fs:List DF)(keep:Nat)(w:FV)(hv:IQ w v fs)(hs:lQ fs)(g:LP fs):
  FX prog 96 #[.agg #[v],I0 keep] w fun e w'=>∃v',e=.returned (.tuple #[.agg #[v'],I0 0])/\XO w' w.heap.size v' (fs.map (WJ keep))/\B0 w w':=by
 obtain⟨a,n0,c,rfl⟩:=IW hv;have C:=fun W (hW:B0 w W)=>U0 _ fs W (hv.next hW) hs;have CC:=fun W (hW:B0 w W)=>RY _ fs W (hv.next hW) hs g.few;rw[MS.2 g]at C;have hk0:¬ ((keep:Int)<0):=by omega
 have CT:=fun(q c:Nat) (j:Nat) (f:DF) (n:Nat) (W:FV) (ho:Own W q c (mix keep fs j)) (hj:fs[j]?=G5 f) (hn:n=f.s.length+min keep f.t.length)=>
  dB q c j (mix keep fs j) f n W ho (zO hj) (by omega) (NI (g.ok f (AZ hj)))
 have HCT:=G7 CT;have HG:=G7 g;have hfew:=g.few;clear hv hs g CT;go_enter func96,ntmps96;go_wp2_with fail;have X:=PG.start w (FT a n0 c) 51 51;refine(C _ X.below).mono ?_;rintro e w1 ⟨rfl,hb1⟩;have X1:=X.next hb1;have HX:=G7 X1;have cd:=X1.cd;clear C hb1 X X1;go_wp2_with fail;refine(CC _ (G6 HX).below).mono ?_;rintro e w2 ⟨v',rfl,ho,hb2⟩;have hz2:=(G6 HX).size;have X2:=(G6 HX).next hb2;clear CC HX cd;rcases ho with⟨rfl,rfl⟩|⟨q,cap,rfl,hq,ho⟩
 .have HX:=G7 (X2.alloc (FU #[N0] 51));clear X2;have ca:(w2.alloc (FU #[N0] 51)).cell? ⟨w2.heap.size,0,FZ⟩=G5 (N0):=by simp
  go_wp2_with fail
  go_loopg [22] 1 (fun _ s wr=>s=I0 0/\Hid (PG w wr (FT a n0 c))/\wr.cell? ⟨w2.heap.size,0,FZ⟩=G5 (N0))
  case atStart=>exact⟨rfl,HX,ca⟩
  case round=>
   obtain⟨rfl,hX,hca⟩:=hrel;have cr:=(G6 hX).cr;have fr:=(G6 hX).fr;go_wp2_with fail;exact bodyPost_ret (v:=.tuple #[.agg #[N0],I0 0]) (by simp[results,results96,go_sem,cr]) rfl ⟨_,rfl,.inl ⟨rfl,rfl⟩,(G6 hX).below.setCell (by simp) _⟩
 .have HX:=G7 (X2.alloc (FU #[FT (G5 ⟨q,0,FZ⟩) fs.length cap] 51));have HO:=G7 (ho.alloc (FU #[FT (G5 ⟨q,0,FZ⟩) fs.length cap] 51));have hql:=ho.lt;have ca:(w2.alloc (FU #[FT (G5 ⟨q,0,FZ⟩) fs.length cap] 51)).cell? ⟨w2.heap.size,0,FZ⟩=G5 (FT (G5 ⟨q,0,FZ⟩) fs.length cap):=by simp
  have hq2:w.heap.size+2<=q:=by omega
  clear X2 ho;go_wp2_with fail
  go_loopg [22] fs.length (fun kx s wr=>∃k:Nat,s=I0 k/\k<=fs.length/\fs.length-k<=kx/\Hid (PG w wr (FT a n0 c)/\Own wr q cap (mix keep fs k))/\wr.cell? ⟨w2.heap.size,0,FZ⟩=G5 (FT (G5 ⟨q,0,FZ⟩) fs.length cap))
  case atStart=>exact⟨0,rfl,Nat.zero_le _,by omega,G7 ⟨G6 HX,by rw[BH4];exact G6 HO⟩,ca⟩
  case round=>
   obtain⟨k,rfl,hk,hkx,hI,hca⟩:=hrel;clear ca;by_cases hlt:k<fs.length
   .obtain⟨f,hf⟩:∃f,fs[k]?=G5 f:=⟨_,List.getElem?_eq_getElem hlt⟩;have hfl:=NI ((G6 HG).ok f (AZ hf));have e1:=(G6 hI).2.c1 (zO hf);have e2:=(G6 hI).2.c2 (zO hf);have HF:=G7 hf;have CT:=fun(n:Nat) (hn:n=f.s.length+min keep f.t.length)=>G6 HCT q cap k f n wr.drew (G6 hI).2.drew hf hn;have C16:(k:Int)<(fs.length:Int):=by omega
    clear hf;have CT2:=CT _ rfl;have hwm:IntKind.i64.wrap ((f.s.length:Int)+min (keep:Int) (f.t.length:Int))=((f.s.length+min keep f.t.length:Nat):Int):=by
     rw[IntKind.wrap_i64];omega
    have hset:(mix keep fs k).set k ⟨f.n,(f.s++f.t).take (f.s.length+min keep f.t.length),[]⟩=mix keep fs (k+1):=by
     rw[<-C19 (G6 HF),WJ,List.take_length_add_append,AY6]
    rw[hset]at CT2;have HW:=G7 hwm;clear CT hset hwm;generalize f.s.length+min keep f.t.length=M at CT2 HW;go_wp2_with fail
    go_region_with (first|(go_at_call 75;rw[G6 HW];refine CT2.mono ?_;rintro e w4 ⟨rfl,ho4,hg4⟩))
    all_goals
     have hg5:wr.grownBy w4 (G5 q):=⟨hg4.os,hg4.tape,hg4.output,hg4.size,hg4.block⟩;have X4:=(G6 hI).1.grown hg5 hq2;have ca4:w4.cell? ⟨w2.heap.size,0,FZ⟩=G5 (FT (G5 ⟨q,0,FZ⟩) fs.length cap):=hg5.cell hca (fun e=>by have e3:w2.heap.size=q:=BO e;omega);have HI:=G7 (And.intro X4 ho4);clear X4 ho4 hg4 hg5 CT2;go_wp2_with fail
     go_roundg (fs.length-(k+1))
     case measure=>omega
     case rel=>exact⟨k+1,rfl,by omega,Nat.le_refl _,HI,ca4⟩
   .have hkk:k=fs.length:=by omega
    subst hkk;have cr:=(G6 hI).1.cr;have fr:=(G6 hI).1.fr;go_wp2_with fail;exact bodyPost_ret (v:=.tuple #[.agg #[FT (G5 ⟨q,0,FZ⟩) fs.length cap],I0 0]) (by simp[results,results96,go_sem,cr]) rfl
     ⟨_,rfl,.inr ⟨q,cap,by simp,by omega,by have:=(G6 hI).2;rw[C18]at this;exact this.other (by show q≠w.heap.size+1;omega) _⟩,(G6 hI).1.below.setCell (by simp) _⟩
theorem JQ(g:LP fs):lQ fs:=fun f hf=>by
 have h:=g.ok f hf;have h1:=NI h;have h2:=VX h;simp only[JA,Bool.and_eq_true,decide_eq_true_eq]at h2;omega
theorem BH6{f:DF}(g:LP (A++f::B))(hn:f'.n=f.n)(hl:f'.s.length+f'.t.length<=1048576):LP (A++f'::B):=by
 refine⟨by simpa using g.few,?_,?_⟩
 .intro x hx;rcases BZ.1 hx with h|h
  .exact g.ok x (by simp[h])
  .rcases BP.1 h with rfl|h
   .have:=VX (g.ok f (by simp));simp[QG,hn,this,hl]
   .exact g.ok x (by simp[h])
 .have h:=g.asc;unfold Asc at h⊢;rw[DK,FI]at h⊢;refine⟨h.1,⟨fun b hb=>by rw[hn];exact h.2.1.1 b hb,h.2.1.2⟩,fun a ha b hb=>?_⟩;rcases BP.1 hb with rfl|hb
  .rw[hn];exact h.2.2 a ha f (by simp)
  .exact h.2.2 a ha b (by simp[hb])
theorem qA(g:LP fs)(G:Gap fs A B name)(hn:JA name=true)(hl:fs.length<16)(hf:f'.n=name)(hs:f'.s.length+f'.t.length<=1048576):LP (A++f'::B):=by
 have g':=g;rw[G.eq]at g' hl;refine⟨by simp at hl⊢;omega,?_,?_⟩
 .intro x hx;rcases BZ.1 hx with h|h
  .exact g'.ok x (by simp[h])
  .rcases BP.1 h with rfl|h
   .simp[QG,hf,hn,hs]
   .exact g'.ok x (by simp[h])
 .have h:=g'.asc;unfold Asc at h⊢;rw[DK]at h;rw[DK,FI];refine⟨h.1,⟨fun b hb=>by rw[hf];exact G.hi b hb,h.2.1⟩,fun a ha b hb=>?_⟩;rcases BP.1 hb with rfl|hb
  .rw[hf];exact G.lo a ha
  .exact h.2.2 a ha b hb
theorem There.set{f:DF}(T:There fs A f B name)(hf:f'.n=name):There (A++f'::B) A f' B name:=⟨rfl,hf,T.lo,T.hi⟩
theorem Gap.ins(G:Gap fs A B name)(hf:f'.n=name):There (A++f'::B) A f' B name:=⟨rfl,hf,G.lo,G.hi⟩
def zQ(fs:List DF)(name:List UInt8):Option DF:=fs.find? fun f=>decide (f.n=name)
theorem There.look{f:DF}(T:There fs A f B name):zQ fs name=G5 f:=by
 rw[zQ,T.eq,List.find?_append,List.find?_eq_none.2 (fun a ha=>by simp[VW (T.lo a ha)])];simp[T.nm]
theorem Gap.look(G:Gap fs A B name):zQ fs name=FZ:=by
 rw[zQ,G.eq,List.find?_append,List.find?_eq_none.2 (fun a ha=>by simp[VW (G.lo a ha)]),List.find?_eq_none.2 (fun b hb=>by simp[(VW (G.hi b hb)).symm])];rfl
noncomputable def VJ(fs:List DF)(name:List UInt8):List UInt8×Int:=if UN fs=true then match zQ fs name with
 |some f=>(f.s++f.t,0)
 |none=>([],7)else([],3)
theorem jH(h:UN fs=false):VJ fs name=([],3):=by simp[VJ,h]
theorem UR{f:DF}(g:LP fs)(T:There fs A f B name):VJ fs name=(f.s++f.t,0):=by simp[VJ,MS.2 g,T.look]
theorem jI(g:LP fs)(G:Gap fs A B name):VJ fs name=([],7):=by simp[VJ,MS.2 g,G.look]
theorem AY8(fs:List DF)(name:List UInt8):(VJ fs name).1.length<=1048576:=by
 rcases jD fs name with⟨E,⟨h,_⟩|⟨g,⟨A,B,G⟩,_⟩⟩|⟨g,A,f,B,T⟩
 .rw[jH h];simp
 .rw[jI g G];simp
 .rw[UR g T];have:=NI (T.ok g);simp;omega
theorem BH7(v:FW)(fs:List DF)(name:List UInt8)(w:FV)(hv:IQ w v fs)(hs:lQ fs):
  FX prog 42 #[.agg #[v],S0 name] w (R0 w (.tuple #[S0 (VJ fs name).1,I0 (VJ fs name).2])):=by
 rcases jD fs name with⟨E,h⟩|⟨g,A,f,B,T⟩
 .have h':=zJ v fs name E w hv hs h;rcases h with⟨h,rfl⟩|⟨g,⟨A,B,G⟩,rfl⟩
  .rw[jH h];exact h'
  .rw[jI g G];exact h'
 .rw[UR g T];exact nD v fs A B f name w hv hs g T
def NC(f:FuncId)(args:FW->Array FW)(fs d:List DF)(E:Int):Prop:=∀v W,IQ W v fs->FX prog f (args (.agg #[v])) W fun e w'=>∃a n c,e=.returned (.tuple #[.agg #[FT a n c],I0 E])/\Hid (IQ w' (FT a n c) d)/\B0 W w'
theorem uU{f:FuncId}{args:FW->Array FW}{E:Int}(h:∀v W,IQ W v fs->FX prog f (args (.agg #[v])) W (R0 W (.tuple #[.agg #[N0],I0 E]))):NC f args fs [] E:=
 fun v W hv=>(h v W hv).mono fun _ w' ⟨he,hb⟩=>⟨_,_,_,he,IQ.nil w',hb⟩
theorem MR{f:FuncId}{args:FW->Array FW}{d:List DF}(h:∀v W,IQ W v fs->FX prog f (args (.agg #[v])) W fun e w'=>∃v',e=.returned (.tuple #[.agg #[v'],I0 0])/\XO w' W.heap.size v' d/\B0 W w'):NC f args fs d 0:=
 fun v W hv=>(h v W hv).mono fun _ w' ⟨v',he,ho,hb⟩=>by
  obtain⟨a,n,c,rfl⟩:=IW ho.disk;exact⟨a,n,c,he,ho.disk,hb⟩
