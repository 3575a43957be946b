/-
  Part.
-/
import Derived.Test.YtefephchbjfdfaaGreatDoorLMH
set_option maxRecDepth 20000
set_option maxHeartbeats 8000000
namespace Go.Proofs.YtefephchbjfdfaaGreatDoor
open Go.RowKit Go.Proofs.Tryz
open _root_.List renaming getElem?_eq_some_iff->AV,mem_of_getElem?->BA,mem_cons->BR,mem_append->D8,pairwise_append->DN,pairwise_cons->FM
open _root_.Option.some renaming inj->BQ
open Go.Value renaming slice->FV
open Go.Obj renaming cells->FW
open Go renaming World->FX,Value->FZ,Calls->G5
open _root_.Option renaming none->G6,some->G8
variable{W V:FX}{B fs A:List DF}{v:FZ}{k:Nat}{f':DF}{name:List UInt8}
theorem AZ2{B:Nat}(h:YH W B v fs):∃a c,v=FV a fs.length c/\fs.length<=c:=by
 rcases h with⟨rfl,rfl⟩|⟨g,cap,rfl,_,h⟩
 .exact⟨G6,0,rfl,Nat.le_refl _⟩
 .exact⟨_,cap,rfl,h.le⟩
theorem vY{B:Nat}(h:YH W B v fs):∀k,v.ownBlock=G8 k->B<=k/\k<W.heap.size:=by
 intro k hk;rcases h with⟨rfl,rfl⟩|⟨g,cap,rfl,hB,h⟩
 .cases hk
 .cases hk;exact⟨hB,h.lt⟩
theorem A07(v:FZ)(A R:List DF)(x:DF)(B b:Nat)(w:FX)(ho:YH w B v (A++R))(hB:B<=w.heap.size)(hl:(A++R).length<=15)(h1:One w b x)(hb:v.ownBlock≠G8 b):
  G5 prog 69 #[v,I0 A.length,FV (G8 ⟨b,0,G6⟩) 1 1] w fun e w'=>
   ∃v',e=.returned v'/\YH w' B v' (A++x::R)/\w.grownBy w' v.ownBlock:=by
 cases R with
 |nil=>
  rw[List.append_nil]at ho hl;exact A05 v A x B b w ho hB (by omega) h1
 |cons y R=>
  obtain⟨g,cap,rfl,hg,ho⟩:=YI ho (k:=0) (by simp;omega);have hlen:(A++y::R).length=A.length+R.length+1:=by simp;omega
  have hlen':(A++x::y::R).length=(A++y::R).length+1:=by simp;omega
  by_cases hroom:(A++y::R).length+1<=cap
  .exact(qV g cap A R y x _ b w ho hlen (by omega) hroom h1 (fun e=>hb (by rw[e];rfl))).mono fun e w' ⟨he,ho',hg'⟩=>⟨_,he,.inr ⟨g,cap,by rw[hlen'],hg,ho'⟩,hg'⟩
  .exact(vX g cap A R y x _ b w ho hlen (by omega) (by omega) h1).mono fun e w' ⟨c,he,ho',hb'⟩=>⟨_,he,.inr ⟨w.heap.size,c,by rw[hlen'],hB,ho'⟩,hb'.os,hb'.tape,hb'.output,hb'.size,fun k hk _=>hb'.block k hk⟩
def KN(W:FX)(k:Nat)(v:FZ):Prop:=W.heap[k]?=G8 (FW #[v] 45 (0,0))
theorem KN.c(h:KN W k v):W.cell? ⟨k,0,G6⟩=G8 v:=by unfold KN at h;simp[World.cell?,h]
theorem KN.f(h:KN W k v):W.frozen? ⟨k,0,G6⟩=false:=by unfold KN at h;simp[World.frozen?,h]
theorem KN.next(h:KN W k v)(hb:B0 W V):KN V k v:=(hb.block k (by unfold KN at h;exact(Array.getElem?_eq_some_iff.1 h).1)).trans h
theorem KN.grown{r:Option Nat}(h:KN W k v)(hb:W.grownBy V r)(hr:G8 k≠r):KN V k v:=(hb.block k (by unfold KN at h;exact(Array.getElem?_eq_some_iff.1 h).1) hr).trans h
theorem KN.set(h:KN W k v)(u:FZ):KN (W.setCell ⟨k,0,G6⟩ u) k u:=GY u h
theorem KN.ne{g cap:Nat}(h:KN W k v)(ho:Own W g cap fs):g≠k:=by
 rintro rfl;obtain⟨rest,h1,_⟩:=ho;unfold KN at h;rw[h]at h1;have:=BQ h1;simp at this
theorem KN.new(W:FX)(v:FZ):KN (W.alloc (FW #[v] 45)) W.heap.size v:=heap_alloc_new W _
theorem Q8.AZ3{w:FX}{r:Option Nat}(h:Q8 w W v)(hg:W.grownBy V r)(hl:∀k,r=G8 k->w.heap.size+2<=k):Q8 w V v:=by
 have hs:=h.size;have b0:V.heap[w.heap.size]?=W.heap[w.heap.size]? :=hg.block _ (by omega) (fun e=>by have:=hl _ e.symm;omega);have b1:V.heap[w.heap.size+1]?=W.heap[w.heap.size+1]? :=hg.block _ (by omega) (fun e=>by have:=hl _ e.symm;omega);exact⟨h.below.grown hg (by omega) (fun k e=>by have:=hl k e;omega),Nat.le_trans h.size hg.size,(World.cell?_of_block b0).trans h.cd,(World.cell?_of_block b1).trans h.cr,(World.frozen?_of_block b1).trans h.fr⟩
theorem Q8.other{w:FX}(h:Q8 w W v)(hk:w.heap.size+2<=k)(j:Nat)(u:FZ):Q8 w (W.setCell ⟨k,j,G6⟩ u) v:=h.grown (XC u) hk
theorem jW(v:FZ)(fs A B:List DF)(f:DF)(name x:List UInt8)(w:FX)(hv:IY w v fs)(hs:mQ fs)(g:LV fs)(T:There fs A f B name)(hfit:f.s.length+f.t.length+x.length<=1048576):
  G5 prog 40 #[.agg #[v],S0 name,S0 x] w fun e w'=>∃v',e=.returned (.tuple #[.agg #[v'],I0 0])/\YH w' w.heap.size v' (A++⟨f.n,f.s,f.t++x⟩::B)/\B0 w w':=by
 have hn:JF name=true:=by rw[<-T.nm];exact WU (T.ok g)
 have CG:=fun W (hW:B0 w W)=>UM _ fs W (hv.next hW) hs;have CN:=fun W=>AA0 name (by simp only[JF,Bool.and_eq_true,decide_eq_true_eq]at hn;omega) W;have CC:=fun W (hW:B0 w W)=>SY _ fs W (hv.next hW) hs g.few;have CF:=fun W (hW:B0 w W)=>nZ _ fs A B f name W (hv.next hW) g.few T;rw[MZ.2 g]at CG;rw[hn]at CN;obtain⟨b,off,cap,rfl,hb,hr,hk,hlt⟩:=XD hv T;have HR:=GH hr;have HK:=GH hk;have vT:(A.length:Int)<(fs.length:Int):=by omega
 have CS:=fun W=>bC f W (by omega);have CT:=fun(q c:Nat) (W:FX) (ho:Own W q c fs)=>o8 q c A.length fs f x W ho hk (by omega) (by omega);have hset:fs.set A.length ⟨f.n,f.s,f.t++x⟩=A++⟨f.n,f.s,f.t++x⟩::B:=by rw[T.eq];simp
 have hsl:fs.length=(A++(⟨f.n,f.s,f.t++x⟩:DF)::B).length:=by rw[T.eq];simp
 rw[hset]at CT;obtain⟨fs',BX1⟩:∃y,A++(⟨f.n,f.s,f.t++x⟩:DF)::B=y:=⟨_,rfl⟩;rw[BX1]at CT hsl⊢;have HSL:=GH hsl;obtain⟨L,hL⟩:∃L,f.s.length+f.t.length=L:=⟨_,rfl⟩;rw[hL]at CS hfit;have hlg:(x.length:Int)<=1048576-(L:Int):=by omega
 have hsub:IntKind.i64.wrap (1048576-(L:Int))=1048576-(L:Int):=by rw[IntKind.wrap_i64];omega
 clear hv hs g hn T hr hk hset BX1 hsl hL;go_enter func40,ntmps40;go_wp2_with fail;have X:=Q8.start w (FV (G8 ⟨b,off,G6⟩) fs.length cap) 45 45;refine(CG _ X.below).mono ?_;rintro e w1 ⟨rfl,hb1⟩;have X1:=X.next hb1;have HX:=GH X1;have cd:=X1.cd;have cr:=X1.cr;have fr:=X1.fr;clear CG hb1 X X1;go_wp2_with fail;refine(CN _).mono ?_;rintro e w2 ⟨rfl,rfl⟩;clear CN;go_wp2_with fail;refine(CF _ (G9 HX).below).mono ?_;rintro e w3 ⟨rfl,hb3⟩;have X3:=(G9 HX).next hb3;clear CF HX cd cr fr;have HX:=GH X3;have cd:=X3.cd;have cr:=X3.cr;have fr:=X3.fr;have r:=(G9 HR).kept X3.below hb;have e0:=r.c0 (G9 HK);have e1:=r.c1 (G9 HK);have e2:=r.c2 (G9 HK);clear hb3 X3 r;go_wp2_with fail;refine(CS _).mono ?_;rintro e w4 ⟨rfl,hb4⟩;have X4:=(G9 HX).next hb4;clear CS HX cd cr fr e0 e1 e2;have HX:=GH X4;have cd:=X4.cd;clear hb4 X4;go_wp2_with fail;refine(CC _ (G9 HX).below).mono ?_;rintro e w5 ⟨v',rfl,ho,hb5⟩;obtain⟨q,cap2,rfl,hq,ho⟩:=YI ho hlt;have hq2:w.heap.size+2<=q:=by have:=(G9 HX).size;omega
 have X5:=((G9 HX).next hb5).alloc (FW #[FV (G8 ⟨q,0,G6⟩) fs.length cap2] 45);have ho5:=ho.alloc (FW #[FV (G8 ⟨q,0,G6⟩) fs.length cap2] 45);have hbx:=KN.new w5 (FV (G8 ⟨q,0,G6⟩) fs.length cap2);have ca:=hbx.c;clear CC hb5 ho HX cd;go_wp2_with fail;generalize w5.alloc (FW #[FV (G8 ⟨q,0,G6⟩) fs.length cap2] 45)=W at*;refine(CT q cap2 W ho5).mono ?_;rintro e w6 ⟨rfl,ho6,hg6⟩;have hne:=hbx.ne ho5;have X6:=X5.grown hg6 hq2;have ca6:=(hbx.grown hg6 (fun e=>hne (BQ e).symm)).c;have cr:=X6.cr;have fr:=X6.fr;have HB:=GH X6.below;have HO6:=GH ho6;clear X6 ho6 hg6 X5 ho5 CT ca hbx;go_wp2_with fail;exact bodyPost_ret (v:=.tuple #[.agg #[FV (G8 ⟨q,0,G6⟩) fs.length cap2],I0 0]) (by simp[results,results40,go_sem,cr]) rfl
  ⟨_,rfl,.inr ⟨q,cap2,by rw[G9 HSL],by omega,(G9 HO6).other (by show q≠w.heap.size+1;omega) _⟩,(G9 HB).setCell (by simp) _⟩
theorem bG(v:FZ)(fs A B:List DF)(name x:List UInt8)(w:FX)(hv:IY w v fs)(hs:mQ fs)(g:LV fs)(hn:JF name=true)(hl:fs.length<16)(G:Gap fs A B name)(hfit:x.length<=1048576):
  G5 prog 40 #[.agg #[v],S0 name,S0 x] w fun e w'=>∃v',e=.returned (.tuple #[.agg #[v'],I0 0])/\YH w' w.heap.size v' (A++⟨name,[],x⟩::B)/\B0 w w':=by
 have hnl:name.length<=40:=by simp only[JF,Bool.and_eq_true,decide_eq_true_eq]at hn;omega
 have CG:=fun W (hW:B0 w W)=>UM _ fs W (hv.next hW) hs;have CN:=fun W=>AA0 name (by omega) W;have CC:=fun W (hW:B0 w W)=>SY _ fs W (hv.next hW) hs g.few;have CF:=fun W (hW:B0 w W)=>A99 _ fs A B name W (hv.next hW) g.few G;have CL:=fun W=>P9 name W (by omega);have hlen:∃a c,v=FV a fs.length c:=by
  rcases hv with⟨a,cap,rfl,rfl,_⟩|⟨b,off,cap,rfl,_⟩
  .exact⟨_,_,rfl⟩
  .exact⟨_,_,rfl⟩
 rw[MZ.2 g]at CG;rw[hn]at CN;obtain⟨a,c,rfl⟩:=hlen;have hl2:¬ ((fs.length:Int)=16):=by omega
 have hlg:¬ ((1048576:Int)<(x.length:Int)):=by omega
 have CI:=fun(v5:FZ) (D k:Nat) (W:FX) (ho:YH W D v5 fs) (hD:D<=W.heap.size) (h1:One W k ⟨name,[],[]⟩) (hk:v5.ownBlock≠G8 k)=>A07 v5 A B ⟨name,[],[]⟩ D k W (by rw[<-G.eq];exact ho) hD (by rw[<-G.eq];omega) h1 hk;have CT:=fun(q c:Nat) (W:FX) (ho:Own W q c (A++⟨name,[],[]⟩::B))=>o8 q c A.length _ ⟨name,[],[]⟩ x W ho (by simp) hfit (by simp);have hset:(A++(⟨name,[],[]⟩:DF)::B).set A.length ⟨name,[],[]++x⟩=A++⟨name,[],x⟩::B:=by simp
 simp only at CT;rw[hset]at CT;have hsl:(A++(⟨name,[],[]⟩:DF)::B).length=(A++(⟨name,[],x⟩:DF)::B).length:=by simp
 have HSL:=GH hsl;have hat:A.length<(A++(⟨name,[],[]⟩:DF)::B).length:=by simp
 obtain⟨f1,hf1⟩:∃y,A++(⟨name,[],x⟩:DF)::B=y:=⟨_,rfl⟩;obtain⟨f0,hf0⟩:∃y,A++(⟨name,[],[]⟩:DF)::B=y:=⟨_,rfl⟩;rw[hf1]at CT HSL⊢;rw[hf0]at CT HSL hat CI;have HCI:=GH CI;have hati:(A.length:Int)<(f0.length:Int):=by omega
 clear hv hs g hn G hset hsl hf0 hf1 CI;go_enter func40,ntmps40;go_wp2_with fail;have X:=Q8.start w (FV a fs.length c) 45 45;refine(CG _ X.below).mono ?_;rintro e w1 ⟨rfl,hb1⟩;have X1:=X.next hb1;have HX:=GH X1;have cd:=X1.cd;have cr:=X1.cr;have fr:=X1.fr;clear CG hb1 X X1;go_wp2_with fail;refine(CN _).mono ?_;rintro e w2 ⟨rfl,rfl⟩;clear CN;go_wp2_with fail;refine(CF _ (G9 HX).below).mono ?_;rintro e w3 ⟨rfl,hb3⟩;have X3:=(G9 HX).next hb3;clear CF HX cd cr fr;have HX:=GH X3;have cd:=X3.cd;have cr:=X3.cr;have fr:=X3.fr;clear hb3 X3;go_wp2_with fail;refine(CC _ (G9 HX).below).mono ?_;rintro e w5 ⟨v',rfl,ho,hb5⟩;have hob:=vY ho;obtain⟨a5,c5,rfl,_⟩:=AZ2 ho;have hz:=(G9 HX).size;have X5:=((G9 HX).next hb5).alloc (FW #[FV a5 fs.length c5] 45);have ho5:=ho.next ((Below.refl _ _).alloc (Nat.le_refl _) (FW #[FV a5 fs.length c5] 45));have hbx:=KN.new w5 (FV a5 fs.length c5);have haz:(w5.alloc (FW #[FV a5 fs.length c5] 45)).heap.size=w5.heap.size+1:=by simp
 have HOB:=GH hob;have hz35:=hb5.size;clear CC hb5 ho HX cd hob;go_wp2_with fail;generalize w5.alloc (FW #[FV a5 fs.length c5] 45)=W at*;have CI6:∀w6:FX,B0 W w6->G5 prog 69 #[FV a5 fs.length c5,I0 A.length,FV (G8 ⟨w6.heap.size,0,G6⟩) 1 1] (w6.alloc (FW #[S0 name,.string ⟨#[]⟩,.string ⟨#[]⟩] 63)) fun e w'=>
   ∃g7 c7,e=.returned (FV (G8 ⟨g7,0,G6⟩) f0.length c7)/\Hid (w3.heap.size<=g7/\Own w' g7 c7 f0/\Q8 w w' (FV a fs.length c)/\KN w' w5.heap.size (FV a5 fs.length c5)):=fun w6 hb6=>by
  have hal:=(Below.refl w6.heap.size w6).alloc (Nat.le_refl _) (FW #[S0 name,.string ⟨#[]⟩,.string ⟨#[]⟩] 63);have hs6:=hb6.size;refine(G9 HCI _ w3.heap.size w6.heap.size _ ((ho5.next hb6).next hal) (by have:=X5.size;have:=vY ho5;simp;omega) (heap_alloc_new w6 _) (fun e=>by have:=G9 HOB _ e;omega)).mono ?_;rintro e w7 ⟨v7,he,ho7,hg7⟩;obtain⟨g7,c7,rfl,h7,ho7⟩:=YI ho7 hat;exact⟨g7,c7,he,h7,ho7,((X5.next hb6).next hal).AZ3 hg7 (fun k e=>by have:=G9 HOB k e;omega),((hbx.next hb6).next hal).grown hg7 (fun e=>by have:=G9 HOB _ e.symm;omega)⟩
 have ca:=hbx.c;have HBX:=GH hbx;clear X5 ho5 hbx HCI;have hcx:∀w6:FX,B0 W w6->w6.cell? ⟨w5.heap.size,0,G6⟩=G8 (FV a5 fs.length c5)/\w5.heap.size<w6.heap.size:=fun w6 hb6=>⟨((G9 HBX).next hb6).c,by have:=hb6.size;omega⟩;have HCX:=GH hcx;have HC6:=GH CI6;clear hcx CI6
 go_region_with (first
  |(go_at_call 63;refine(CL _).mono ?_;rintro e w6 ⟨rfl,hb6⟩;obtain⟨ca6,hl6⟩:=G9 HCX w6 (UO hb6))
  |(go_at_call 69;refine(G9 HC6 w6 (UO hb6)).mono ?_;rintro e w7 ⟨g7,c7,rfl,h7⟩;have ca7:=(G9 h7).2.2.2.c;have fa7:=(G9 h7).2.2.2.f))
 all_goals
  have hz5:w.heap.size+2<=w5.heap.size:=by omega
  have hne:=(G9 h7).2.2.2.ne (G9 h7).2.1;have ho8:=(G9 h7).2.1.other (a:=⟨w5.heap.size,0,G6⟩) hne (FV (G8 ⟨g7,0,G6⟩) f0.length c7);have X8:=(G9 h7).2.2.1.other hz5 0 (FV (G8 ⟨g7,0,G6⟩) f0.length c7);have hb8:=(G9 h7).2.2.2.set (FV (G8 ⟨g7,0,G6⟩) f0.length c7);have hg7:=(G9 h7).1;have ca8:=hb8.c;clear h7 ca7 fa7 ca6 hb6 ca CL HC6 HCX HBX;generalize w7.setCell ⟨w5.heap.size,0,G6⟩ (FV (G8 ⟨g7,0,G6⟩) f0.length c7)=w8 at*;go_wp2_with fail;refine(CT g7 c7 w8 ho8).mono ?_;rintro e w9 ⟨rfl,ho9,hg9⟩;have X9:=X8.grown hg9 (by omega);have ca9:=(hb8.grown hg9 (fun e=>hne (BQ e).symm)).c;have cr9:=X9.cr;have fr9:=X9.fr;have HB:=GH X9.below;have HO9:=GH ho9;clear X9 ho9 hg9 X8 ho8 CT ca8 hb8 cr fr;go_wp2_with fail;exact bodyPost_ret (v:=.tuple #[.agg #[FV (G8 ⟨g7,0,G6⟩) f0.length c7],I0 0]) (by simp[results,results40,go_sem,cr9]) rfl
   ⟨_,rfl,.inr ⟨g7,c7,by rw[G9 HSL],by omega,(G9 HO9).other (by show g7≠w.heap.size+1;omega) _⟩,(G9 HB).setCell (by simp) _⟩
def XE(k:Nat)(f:DF):DF:=⟨f.n,f.s++f.t.take k,[]⟩
def mix(keep:Nat)(fs:List DF)(j:Nat):List DF:=(fs.take j).map (XE keep)++fs.drop j
theorem AZ4(k:Nat)(l:List UInt8):l.take (min k l.length)=l.take k:=by
 by_cases h:k<=l.length
 .rw[Nat.min_eq_left h]
 .rw[Nat.min_eq_right (by omega),List.take_length,List.take_of_length_le (by omega)]
theorem BI3(keep:Nat)(fs:List DF):mix keep fs 0=fs:=by simp[mix]
theorem C28(keep:Nat)(fs:List DF):mix keep fs fs.length=fs.map (XE keep):=by simp[mix]
theorem A08{keep:Nat}{j:Nat}{f:DF}(h:fs[j]?=G8 f):(mix keep fs j)[j]?=G8 f:=by
 have hl:=(AV.1 h).1;rw[mix,List.getElem?_append_right (by simp;omega)];simp[h,Nat.min_eq_left (Nat.le_of_lt hl)]
theorem C29{keep:Nat}{j:Nat}{f:DF}(h:fs[j]?=G8 f):(mix keep fs j).set j (XE keep f)=mix keep fs (j+1):=by
 obtain⟨hl,rfl⟩:=AV.1 h;have e:fs.drop j=fs[j]::fs.drop (j+1):=List.drop_eq_getElem_cons hl;have hm:((fs.take j).map (XE keep)).length=j:=by simp;omega
 rw[mix,mix,e,List.set_append_right _ _ (by omega),hm,Nat.sub_self,List.set_cons_zero,List.take_succ_eq_append_getElem hl];simp only[List.map_append,List.map_cons,List.map_nil,List.append_assoc,List.cons_append,List.nil_append]
theorem BI4(v:FZ)(fs:List DF)(keep:Int)(w:FX)(hv:IY w v fs)(hs:mQ fs)(h:VH fs=false\/keep<0):
  G5 prog 94 #[.agg #[v],I0 keep] w (R0 w (.tuple #[.agg #[N0],I0 3])):=by
 obtain⟨a,n0,c,rfl⟩:=J4 hv;have C:=fun W (hW:B0 w W)=>UM _ fs W (hv.next hW) hs;clear hv hs
 cases hg:VH fs with
 |false=>
  rw[hg]at C;clear hg h;go_enter func94,ntmps94;go_wp2_with fail;have X:=Q8.start w (FV a n0 c) 45 45;refine(C _ X.below).mono ?_;rintro e w1 ⟨rfl,hb1⟩;have X1:=X.next hb1;have HB:=GH X1.below;have c1:=X1.cr;have f1:=X1.fr;clear C hb1 X X1;go_wp2_with fail;exact bodyPost_ret (v:=.tuple #[.agg #[N0],I0 3]) (by simp[results,results94,go_sem,c1]) rfl ⟨rfl,(G9 HB).setCell (by simp) _⟩
 |true=>
  rw[hg]at C h;have hk:keep<0:=h.elim (fun h=>by cases h) id;clear hg h;go_enter func94,ntmps94;go_wp2_with fail;have X:=Q8.start w (FV a n0 c) 45 45;refine(C _ X.below).mono ?_;rintro e w1 ⟨rfl,hb1⟩;have X1:=X.next hb1;have HB:=GH X1.below;have c1:=X1.cr;have f1:=X1.fr;clear C hb1 X X1;go_wp2_with fail;exact bodyPost_ret (v:=.tuple #[.agg #[N0],I0 3]) (by simp[results,results94,go_sem,c1]) rfl ⟨rfl,(G9 HB).setCell (by simp) _⟩
theorem AZ5(v:FZ)(fs:List DF)(keep:Nat)(w:FX)(hv:IY w v fs)(hs:mQ fs)(g:LV fs):
  G5 prog 94 #[.agg #[v],I0 keep] w fun e w'=>∃v',e=.returned (.tuple #[.agg #[v'],I0 0])/\YH w' w.heap.size v' (fs.map (XE keep))/\B0 w w':=by
 obtain⟨a,n0,c,rfl⟩:=J4 hv;have C:=fun W (hW:B0 w W)=>UM _ fs W (hv.next hW) hs;have CC:=fun W (hW:B0 w W)=>SY _ fs W (hv.next hW) hs g.few;rw[MZ.2 g]at C;have hk0:¬ ((keep:Int)<0):=by omega
 have CT:=fun(q c:Nat) (j:Nat) (f:DF) (n:Nat) (W:FX) (ho:Own W q c (mix keep fs j)) (hj:fs[j]?=G8 f) (hn:n=f.s.length+min keep f.t.length)=>
  dW q c j (mix keep fs j) f n W ho (A08 hj) (by omega) (NZ (g.ok f (BA hj)))
 have HCT:=GH CT;have HG:=GH g;have hfew:=g.few;clear hv hs g CT;go_enter func94,ntmps94;go_wp2_with fail;have X:=Q8.start w (FV a n0 c) 45 45;refine(C _ X.below).mono ?_;rintro e w1 ⟨rfl,hb1⟩;have X1:=X.next hb1;have HX:=GH X1;have cd:=X1.cd;clear C hb1 X X1;go_wp2_with fail;refine(CC _ (G9 HX).below).mono ?_;rintro e w2 ⟨v',rfl,ho,hb2⟩;have hz2:=(G9 HX).size;have X2:=(G9 HX).next hb2;clear CC HX cd;rcases ho with⟨rfl,rfl⟩|⟨q,cap,rfl,hq,ho⟩
 .have HX:=GH (X2.alloc (FW #[N0] 45));clear X2;have ca:(w2.alloc (FW #[N0] 45)).cell? ⟨w2.heap.size,0,G6⟩=G8 (N0):=by simp
  go_wp2_with fail
  go_loopg [22] 1 (fun _ s wr=>s=I0 0/\Hid (Q8 w wr (FV a n0 c))/\wr.cell? ⟨w2.heap.size,0,G6⟩=G8 (N0))
  case atStart=>exact⟨rfl,HX,ca⟩
  case round=>
   obtain⟨rfl,hX,hca⟩:=hrel;have cr:=(G9 hX).cr;have fr:=(G9 hX).fr;go_wp2_with fail;exact bodyPost_ret (v:=.tuple #[.agg #[N0],I0 0]) (by simp[results,results94,go_sem,cr]) rfl ⟨_,rfl,.inl ⟨rfl,rfl⟩,(G9 hX).below.setCell (by simp) _⟩
 .have HX:=GH (X2.alloc (FW #[FV (G8 ⟨q,0,G6⟩) fs.length cap] 45));have HO:=GH (ho.alloc (FW #[FV (G8 ⟨q,0,G6⟩) fs.length cap] 45));have hql:=ho.lt;have ca:(w2.alloc (FW #[FV (G8 ⟨q,0,G6⟩) fs.length cap] 45)).cell? ⟨w2.heap.size,0,G6⟩=G8 (FV (G8 ⟨q,0,G6⟩) fs.length cap):=by simp
  have hq2:w.heap.size+2<=q:=by omega
  clear X2 ho;go_wp2_with fail
  go_loopg [22] fs.length (fun kx s wr=>∃k:Nat,s=I0 k/\k<=fs.length/\fs.length-k<=kx/\Hid (Q8 w wr (FV a n0 c)/\Own wr q cap (mix keep fs k))/\wr.cell? ⟨w2.heap.size,0,G6⟩=G8 (FV (G8 ⟨q,0,G6⟩) fs.length cap))
  case atStart=>exact⟨0,rfl,Nat.zero_le _,by omega,GH ⟨G9 HX,by rw[BI3];exact G9 HO⟩,ca⟩
  case round=>
   obtain⟨k,rfl,hk,hkx,hI,hca⟩:=hrel;clear ca;by_cases hlt:k<fs.length
   .obtain⟨f,hf⟩:∃f,fs[k]?=G8 f:=⟨_,List.getElem?_eq_getElem hlt⟩;have hfl:=NZ ((G9 HG).ok f (BA hf));have e1:=(G9 hI).2.c1 (A08 hf);have e2:=(G9 hI).2.c2 (A08 hf);have HF:=GH hf;have CT:=fun(n:Nat) (hn:n=f.s.length+min keep f.t.length)=>G9 HCT q cap k f n wr.drew (G9 hI).2.drew hf hn;have vT:(k:Int)<(fs.length:Int):=by omega
    clear hf;have CT2:=CT _ rfl;have hwm:IntKind.i64.wrap ((f.s.length:Int)+min (keep:Int) (f.t.length:Int))=((f.s.length+min keep f.t.length:Nat):Int):=by
     rw[IntKind.wrap_i64];omega
    have hset:(mix keep fs k).set k ⟨f.n,(f.s++f.t).take (f.s.length+min keep f.t.length),[]⟩=mix keep fs (k+1):=by
     rw[<-C29 (G9 HF),XE,List.take_length_add_append,AZ4]
    rw[hset]at CT2;have HW:=GH hwm;clear CT hset hwm;generalize f.s.length+min keep f.t.length=M at CT2 HW;go_wp2_with fail
    go_region_with (first|(go_at_call 73;rw[G9 HW];refine CT2.mono ?_;rintro e w4 ⟨rfl,ho4,hg4⟩))
    all_goals
     have hg5:wr.grownBy w4 (G8 q):=⟨hg4.os,hg4.tape,hg4.output,hg4.size,hg4.block⟩;have X4:=(G9 hI).1.grown hg5 hq2;have ca4:w4.cell? ⟨w2.heap.size,0,G6⟩=G8 (FV (G8 ⟨q,0,G6⟩) fs.length cap):=hg5.cell hca (fun e=>by have e3:w2.heap.size=q:=BQ e;omega);have HI:=GH (And.intro X4 ho4);clear X4 ho4 hg4 hg5 CT2;go_wp2_with fail
     go_roundg (fs.length-(k+1))
     case measure=>omega
     case rel=>exact⟨k+1,rfl,by omega,Nat.le_refl _,HI,ca4⟩
   .have hkk:k=fs.length:=by omega
    subst hkk;have cr:=(G9 hI).1.cr;have fr:=(G9 hI).1.fr;go_wp2_with fail;exact bodyPost_ret (v:=.tuple #[.agg #[FV (G8 ⟨q,0,G6⟩) fs.length cap],I0 0]) (by simp[results,results94,go_sem,cr]) rfl
     ⟨_,rfl,.inr ⟨q,cap,by simp,by omega,by have:=(G9 hI).2;rw[C28]at this;exact this.other (by show q≠w.heap.size+1;omega) _⟩,(G9 hI).1.below.setCell (by simp) _⟩
theorem JX(g:LV fs):mQ fs:=fun f hf=>by
 have h:=g.ok f hf;have h1:=NZ h;have h2:=WU h;simp only[JF,Bool.and_eq_true,decide_eq_true_eq]at h2;omega
theorem BI5{f:DF}(g:LV (A++f::B))(hn:f'.n=f.n)(hl:f'.s.length+f'.t.length<=1048576):LV (A++f'::B):=by
 refine⟨by simpa using g.few,?_,?_⟩
 .intro x hx;rcases D8.1 hx with h|h
  .exact g.ok x (by simp[h])
  .rcases BR.1 h with rfl|h
   .have:=WU (g.ok f (by simp));simp[QU,hn,this,hl]
   .exact g.ok x (by simp[h])
 .have h:=g.asc;unfold Asc at h⊢;rw[DN,FM]at h⊢;refine⟨h.1,⟨fun b hb=>by rw[hn];exact h.2.1.1 b hb,h.2.1.2⟩,fun a ha b hb=>?_⟩;rcases BR.1 hb with rfl|hb
  .rw[hn];exact h.2.2 a ha f (by simp)
  .exact h.2.2 a ha b (by simp[hb])
theorem qW(g:LV fs)(G:Gap fs A B name)(hn:JF name=true)(hl:fs.length<16)(hf:f'.n=name)(hs:f'.s.length+f'.t.length<=1048576):LV (A++f'::B):=by
 have g':=g;rw[G.eq]at g' hl;refine⟨by simp at hl⊢;omega,?_,?_⟩
 .intro x hx;rcases D8.1 hx with h|h
  .exact g'.ok x (by simp[h])
  .rcases BR.1 h with rfl|h
   .simp[QU,hf,hn,hs]
   .exact g'.ok x (by simp[h])
 .have h:=g'.asc;unfold Asc at h⊢;rw[DN]at h;rw[DN,FM];refine⟨h.1,⟨fun b hb=>by rw[hf];exact G.hi b hb,h.2.1⟩,fun a ha b hb=>?_⟩;rcases BR.1 hb with rfl|hb
  .rw[hf];exact G.lo a ha
  .exact h.2.2 a ha b hb
theorem There.set{f:DF}(T:There fs A f B name)(hf:f'.n=name):There (A++f'::B) A f' B name:=⟨rfl,hf,T.lo,T.hi⟩
theorem Gap.ins(G:Gap fs A B name)(hf:f'.n=name):There (A++f'::B) A f' B name:=⟨rfl,hf,G.lo,G.hi⟩
def A09(fs:List DF)(name:List UInt8):Option DF:=fs.find? fun f=>decide (f.n=name)
theorem There.look{f:DF}(T:There fs A f B name):A09 fs name=G8 f:=by
 rw[A09,T.eq,List.find?_append,List.find?_eq_none.2 (fun a ha=>by simp[WT (T.lo a ha)])];simp[T.nm]
theorem Gap.look(G:Gap fs A B name):A09 fs name=G6:=by
 rw[A09,G.eq,List.find?_append,List.find?_eq_none.2 (fun a ha=>by simp[WT (G.lo a ha)]),List.find?_eq_none.2 (fun b hb=>by simp[(WT (G.hi b hb)).symm])];rfl
noncomputable def WG(fs:List DF)(name:List UInt8):List UInt8×Int:=if VH fs=true then match A09 fs name with
 |some f=>(f.s++f.t,0)
 |none=>([],7)else([],3)
theorem jX(h:VH fs=false):WG fs name=([],3):=by simp[WG,h]
theorem VK{f:DF}(g:LV fs)(T:There fs A f B name):WG fs name=(f.s++f.t,0):=by simp[WG,MZ.2 g,T.look]
theorem jY(g:LV fs)(G:Gap fs A B name):WG fs name=([],7):=by simp[WG,MZ.2 g,G.look]
theorem AZ6(fs:List DF)(name:List UInt8):(WG fs name).1.length<=1048576:=by
 rcases jT fs name with⟨E,⟨h,_⟩|⟨g,⟨A,B,G⟩,_⟩⟩|⟨g,A,f,B,T⟩
 .rw[jX h];simp
 .rw[jY g G];simp
 .rw[VK g T];have:=NZ (T.ok g);simp;omega
theorem BI6(v:FZ)(fs:List DF)(name:List UInt8)(w:FX)(hv:IY w v fs)(hs:mQ fs):
  G5 prog 39 #[.agg #[v],S0 name] w (R0 w (.tuple #[S0 (WG fs name).1,I0 (WG fs name).2])):=by
 rcases jT fs name with⟨E,h⟩|⟨g,A,f,B,T⟩
 .have h':=A03 v fs name E w hv hs h;rcases h with⟨h,rfl⟩|⟨g,⟨A,B,G⟩,rfl⟩
  .rw[jX h];exact h'
  .rw[jY g G];exact h'
 .rw[VK g T];exact oC v fs A B f name w hv hs g T
def NT(f:FuncId)(args:FZ->Array FZ)(fs d:List DF)(E:Int):Prop:=∀v W,IY W v fs->G5 prog f (args (.agg #[v])) W fun e w'=>∃a n c,e=.returned (.tuple #[.agg #[FV a n c],I0 E])/\Hid (IY w' (FV a n c) d)/\B0 W w'
theorem vZ{f:FuncId}{args:FZ->Array FZ}{E:Int}(h:∀v W,IY W v fs->G5 prog f (args (.agg #[v])) W (R0 W (.tuple #[.agg #[N0],I0 E]))):NT f args fs [] E:=
 fun v W hv=>(h v W hv).mono fun _ w' ⟨he,hb⟩=>⟨_,_,_,he,IY.nil w',hb⟩
theorem MX{f:FuncId}{args:FZ->Array FZ}{d:List DF}(h:∀v W,IY W v fs->G5 prog f (args (.agg #[v])) W fun e w'=>∃v',e=.returned (.tuple #[.agg #[v'],I0 0])/\YH w' W.heap.size v' d/\B0 W w'):NT f args fs d 0:=
 fun v W hv=>(h v W hv).mono fun _ w' ⟨v',he,ho,hb⟩=>by
  obtain⟨a,n,c,rfl⟩:=J4 ho.disk;exact⟨a,n,c,he,ho.disk,hb⟩
