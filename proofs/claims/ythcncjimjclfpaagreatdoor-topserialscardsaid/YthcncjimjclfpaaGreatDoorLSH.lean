/-
  Part.
-/
import Derived.Test.YthcncjimjclfpaaGreatDoorLSG
set_option maxRecDepth 20000
set_option maxHeartbeats 8000000
namespace Go.Proofs.YthcncjimjclfpaaGreatDoor
open Go.RowKit Go.Proofs.Tryz
open _root_.List renaming getElem?_eq_some_iff->AU,mem_of_getElem?->AZ,mem_cons->BO,mem_append->BU,pairwise_append->DJ,pairwise_cons->FH
open _root_.Option.some renaming inj->BN
open Go.Value renaming slice->FQ
open Go.Obj renaming cells->FT
open Go renaming World->FU,Value->FV,Calls->FW
open _root_.Option renaming none->FX,some->FZ
variable{W V:FU}{B fs A:List DF}{v:FV}{k:Nat}{f':DF}{name:List UInt8}
theorem AZ9{B:Nat}(h:YO W B v fs):∃a c,v=FQ a fs.length c/\fs.length<=c:=by
 rcases h with⟨rfl,rfl⟩|⟨g,cap,rfl,_,h⟩
 .exact⟨FX,0,rfl,Nat.le_refl _⟩
 .exact⟨_,cap,rfl,h.le⟩
theorem wJ{B:Nat}(h:YO W B v fs):∀k,v.ownBlock=FZ k->B<=k/\k<W.heap.size:=by
 intro k hk;rcases h with⟨rfl,rfl⟩|⟨g,cap,rfl,hB,h⟩
 .cases hk
 .cases hk;exact⟨hB,h.lt⟩
theorem A18(v:FV)(A R:List DF)(x:DF)(B b:Nat)(w:FU)(ho:YO w B v (A++R))(hB:B<=w.heap.size)(hl:(A++R).length<=15)(h1:One w b x)(hb:v.ownBlock≠FZ b):
  FW prog 82 #[v,I0 A.length,FQ (FZ ⟨b,0,FX⟩) 1 1] w fun e w'=>
   ∃v',e=.returned v'/\YO w' B v' (A++x::R)/\w.grownBy w' v.ownBlock:=by
 cases R with
 |nil=>
  rw[List.append_nil]at ho hl;exact A16 v A x B b w ho hB (by omega) h1
 |cons y R=>
  obtain⟨g,cap,rfl,hg,ho⟩:=YP ho (k:=0) (by simp;omega);have hlen:(A++y::R).length=A.length+R.length+1:=by simp;omega
  have hlen':(A++x::y::R).length=(A++y::R).length+1:=by simp;omega
  by_cases hroom:(A++y::R).length+1<=cap
  .exact(rF g cap A R y x _ b w ho hlen (by omega) hroom h1 (fun e=>hb (by rw[e];rfl))).mono fun e w' ⟨he,ho',hg'⟩=>⟨_,he,.inr ⟨g,cap,by rw[hlen'],hg,ho'⟩,hg'⟩
  .exact(wI g cap A R y x _ b w ho hlen (by omega) (by omega) h1).mono fun e w' ⟨c,he,ho',hb'⟩=>⟨_,he,.inr ⟨w.heap.size,c,by rw[hlen'],hB,ho'⟩,hb'.os,hb'.tape,hb'.output,hb'.size,fun k hk _=>hb'.block k hk⟩
def KH(W:FU)(k:Nat)(v:FV):Prop:=W.heap[k]?=FZ (FT #[v] 54 (0,0))
theorem KH.c(h:KH W k v):W.cell? ⟨k,0,FX⟩=FZ v:=by unfold KH at h;simp[World.cell?,h]
theorem KH.f(h:KH W k v):W.frozen? ⟨k,0,FX⟩=false:=by unfold KH at h;simp[World.frozen?,h]
theorem KH.next(h:KH W k v)(hb:B0 W V):KH V k v:=(hb.block k (by unfold KH at h;exact(Array.getElem?_eq_some_iff.1 h).1)).trans h
theorem KH.grown{r:Option Nat}(h:KH W k v)(hb:W.grownBy V r)(hr:FZ k≠r):KH V k v:=(hb.block k (by unfold KH at h;exact(Array.getElem?_eq_some_iff.1 h).1) hr).trans h
theorem KH.set(h:KH W k v)(u:FV):KH (W.setCell ⟨k,0,FX⟩ u) k u:=GL u h
theorem KH.ne{g cap:Nat}(h:KH W k v)(ho:Own W g cap fs):g≠k:=by
 rintro rfl;obtain⟨rest,h1,_⟩:=ho;unfold KH at h;rw[h]at h1;have:=BN h1;simp at this
theorem KH.new(W:FU)(v:FV):KH (W.alloc (FT #[v] 54)) W.heap.size v:=heap_alloc_new W _
theorem PW.B00{w:FU}{r:Option Nat}(h:PW w W v)(hg:W.grownBy V r)(hl:∀k,r=FZ k->w.heap.size+2<=k):PW w V v:=by
 have hs:=h.size;have b0:V.heap[w.heap.size]?=W.heap[w.heap.size]? :=hg.block _ (by omega) (fun e=>by have:=hl _ e.symm;omega);have b1:V.heap[w.heap.size+1]?=W.heap[w.heap.size+1]? :=hg.block _ (by omega) (fun e=>by have:=hl _ e.symm;omega);exact⟨h.below.grown hg (by omega) (fun k e=>by have:=hl k e;omega),Nat.le_trans h.size hg.size,(World.cell?_of_block b0).trans h.cd,(World.cell?_of_block b1).trans h.cr,(World.frozen?_of_block b1).trans h.fr⟩
theorem PW.other{w:FU}(h:PW w W v)(hk:w.heap.size+2<=k)(j:Nat)(u:FV):PW w (W.setCell ⟨k,j,FX⟩ u) v:=h.grown (XD u) hk
theorem kH(v:FV)(fs A B:List DF)(f:DF)(name x:List UInt8)(w:FU)(hv:IQ w v fs)(hs:nJ fs)(g:LW fs)(T:There fs A f B name)(hfit:f.s.length+f.t.length+x.length<=1048576):
  FW prog 55 #[.agg #[v],S0 name,S0 x] w fun e w'=>∃v',e=.returned (.tuple #[.agg #[v'],I0 0])/\YO w' w.heap.size v' (A++⟨f.n,f.s,f.t++x⟩::B)/\B0 w w':=by
 have hn:IZ name=true:=by rw[<-T.nm];exact WT (T.ok g)
 have CG:=fun W (hW:B0 w W)=>UF _ fs W (hv.next hW) hs;have CN:=fun W=>AC0 name (by simp only[IZ,Bool.and_eq_true,decide_eq_true_eq]at hn;omega) W;have CC:=fun W (hW:B0 w W)=>SH _ fs W (hv.next hW) hs g.few;have CF:=fun W (hW:B0 w W)=>oI _ fs A B f name W (hv.next hW) g.few T;rw[MW.2 g]at CG;rw[hn]at CN;obtain⟨b,off,cap,rfl,hb,hr,hk,hlt⟩:=XE hv T;have HR:=G6 hr;have HK:=G6 hk;have CF8:(A.length:Int)<(fs.length:Int):=by omega
 have CS:=fun W=>bC f W (by omega);have CT:=fun(q c:Nat) (W:FU) (ho:Own W q c fs)=>oJ q c A.length fs f x W ho hk (by omega) (by omega);have hset:fs.set A.length ⟨f.n,f.s,f.t++x⟩=A++⟨f.n,f.s,f.t++x⟩::B:=by rw[T.eq];simp
 have hsl:fs.length=(A++(⟨f.n,f.s,f.t++x⟩:DF)::B).length:=by rw[T.eq];simp
 rw[hset]at CT;obtain⟨fs',BY1⟩:∃y,A++(⟨f.n,f.s,f.t++x⟩:DF)::B=y:=⟨_,rfl⟩;rw[BY1]at CT hsl⊢;have HSL:=G6 hsl;obtain⟨L,hL⟩:∃L,f.s.length+f.t.length=L:=⟨_,rfl⟩;rw[hL]at CS hfit;have hlg:(x.length:Int)<=1048576-(L:Int):=by omega
 have hsub:IntKind.i64.wrap (1048576-(L:Int))=1048576-(L:Int):=by rw[IntKind.wrap_i64];omega
 clear hv hs g hn T hr hk hset BY1 hsl hL;go_enter func55,ntmps55;go_wp2_with fail;have X:=PW.start w (FQ (FZ ⟨b,off,FX⟩) fs.length cap) 54 54;refine(CG _ X.below).mono ?_;rintro e w1 ⟨rfl,hb1⟩;have X1:=X.next hb1;have HX:=G6 X1;have cd:=X1.cd;have cr:=X1.cr;have fr:=X1.fr;clear CG hb1 X X1;go_wp2_with fail;refine(CN _).mono ?_;rintro e w2 ⟨rfl,rfl⟩;clear CN;go_wp2_with fail;refine(CF _ (G5 HX).below).mono ?_;rintro e w3 ⟨rfl,hb3⟩;have X3:=(G5 HX).next hb3;clear CF HX cd cr fr;have HX:=G6 X3;have cd:=X3.cd;have cr:=X3.cr;have fr:=X3.fr;have r:=(G5 HR).kept X3.below hb;have e0:=r.c0 (G5 HK);have e1:=r.c1 (G5 HK);have e2:=r.c2 (G5 HK);clear hb3 X3 r;go_wp2_with fail;refine(CS _).mono ?_;rintro e w4 ⟨rfl,hb4⟩;have X4:=(G5 HX).next hb4;clear CS HX cd cr fr e0 e1 e2;have HX:=G6 X4;have cd:=X4.cd;clear hb4 X4;go_wp2_with fail;refine(CC _ (G5 HX).below).mono ?_;rintro e w5 ⟨v',rfl,ho,hb5⟩;obtain⟨q,cap2,rfl,hq,ho⟩:=YP ho hlt;have hq2:w.heap.size+2<=q:=by have:=(G5 HX).size;omega
 have X5:=((G5 HX).next hb5).alloc (FT #[FQ (FZ ⟨q,0,FX⟩) fs.length cap2] 54);have ho5:=ho.alloc (FT #[FQ (FZ ⟨q,0,FX⟩) fs.length cap2] 54);have hbx:=KH.new w5 (FQ (FZ ⟨q,0,FX⟩) fs.length cap2);have ca:=hbx.c;clear CC hb5 ho HX cd;go_wp2_with fail;generalize w5.alloc (FT #[FQ (FZ ⟨q,0,FX⟩) fs.length cap2] 54)=W at*;refine(CT q cap2 W ho5).mono ?_;rintro e w6 ⟨rfl,ho6,hg6⟩;have hne:=hbx.ne ho5;have X6:=X5.grown hg6 hq2;have ca6:=(hbx.grown hg6 (fun e=>hne (BN e).symm)).c;have cr:=X6.cr;have fr:=X6.fr;have HB:=G6 X6.below;have HO6:=G6 ho6;clear X6 ho6 hg6 X5 ho5 CT ca hbx;go_wp2_with fail;exact bodyPost_ret (v:=.tuple #[.agg #[FQ (FZ ⟨q,0,FX⟩) fs.length cap2],I0 0]) (by simp[results,results55,go_sem,cr]) rfl
  ⟨_,rfl,.inr ⟨q,cap2,by rw[G5 HSL],by omega,(G5 HO6).other (by show q≠w.heap.size+1;omega) _⟩,(G5 HB).setCell (by simp) _⟩
theorem bG(v:FV)(fs A B:List DF)(name x:List UInt8)(w:FU)(hv:IQ w v fs)(hs:nJ fs)(g:LW fs)(hn:IZ name=true)(hl:fs.length<16)(G:Gap fs A B name)(hfit:x.length<=1048576):
  FW prog 55 #[.agg #[v],S0 name,S0 x] w fun e w'=>∃v',e=.returned (.tuple #[.agg #[v'],I0 0])/\YO w' w.heap.size v' (A++⟨name,[],x⟩::B)/\B0 w w':=by
 have hnl:name.length<=40:=by simp only[IZ,Bool.and_eq_true,decide_eq_true_eq]at hn;omega
 have CG:=fun W (hW:B0 w W)=>UF _ fs W (hv.next hW) hs;have CN:=fun W=>AC0 name (by omega) W;have CC:=fun W (hW:B0 w W)=>SH _ fs W (hv.next hW) hs g.few;have CF:=fun W (hW:B0 w W)=>AB9 _ fs A B name W (hv.next hW) g.few G;have CL:=fun W=>OU name W (by omega);have hlen:∃a c,v=FQ a fs.length c:=by
  rcases hv with⟨a,cap,rfl,rfl,_⟩|⟨b,off,cap,rfl,_⟩
  .exact⟨_,_,rfl⟩
  .exact⟨_,_,rfl⟩
 rw[MW.2 g]at CG;rw[hn]at CN;obtain⟨a,c,rfl⟩:=hlen;have hl2:¬ ((fs.length:Int)=16):=by omega
 have hlg:¬ ((1048576:Int)<(x.length:Int)):=by omega
 have CI:=fun(v5:FV) (D k:Nat) (W:FU) (ho:YO W D v5 fs) (hD:D<=W.heap.size) (h1:One W k ⟨name,[],[]⟩) (hk:v5.ownBlock≠FZ k)=>A18 v5 A B ⟨name,[],[]⟩ D k W (by rw[<-G.eq];exact ho) hD (by rw[<-G.eq];omega) h1 hk;have CT:=fun(q c:Nat) (W:FU) (ho:Own W q c (A++⟨name,[],[]⟩::B))=>oJ q c A.length _ ⟨name,[],[]⟩ x W ho (by simp) hfit (by simp);have hset:(A++(⟨name,[],[]⟩:DF)::B).set A.length ⟨name,[],[]++x⟩=A++⟨name,[],x⟩::B:=by simp
 simp only at CT;rw[hset]at CT;have hsl:(A++(⟨name,[],[]⟩:DF)::B).length=(A++(⟨name,[],x⟩:DF)::B).length:=by simp
 have HSL:=G6 hsl;have hat:A.length<(A++(⟨name,[],[]⟩:DF)::B).length:=by simp
 obtain⟨f1,hf1⟩:∃y,A++(⟨name,[],x⟩:DF)::B=y:=⟨_,rfl⟩;obtain⟨f0,hf0⟩:∃y,A++(⟨name,[],[]⟩:DF)::B=y:=⟨_,rfl⟩;rw[hf1]at CT HSL⊢;rw[hf0]at CT HSL hat CI;have HCI:=G6 CI;have hati:(A.length:Int)<(f0.length:Int):=by omega
 clear hv hs g hn G hset hsl hf0 hf1 CI;go_enter func55,ntmps55;go_wp2_with fail;have X:=PW.start w (FQ a fs.length c) 54 54;refine(CG _ X.below).mono ?_;rintro e w1 ⟨rfl,hb1⟩;have X1:=X.next hb1;have HX:=G6 X1;have cd:=X1.cd;have cr:=X1.cr;have fr:=X1.fr;clear CG hb1 X X1;go_wp2_with fail;refine(CN _).mono ?_;rintro e w2 ⟨rfl,rfl⟩;clear CN;go_wp2_with fail;refine(CF _ (G5 HX).below).mono ?_;rintro e w3 ⟨rfl,hb3⟩;have X3:=(G5 HX).next hb3;clear CF HX cd cr fr;have HX:=G6 X3;have cd:=X3.cd;have cr:=X3.cr;have fr:=X3.fr;clear hb3 X3;go_wp2_with fail;refine(CC _ (G5 HX).below).mono ?_;rintro e w5 ⟨v',rfl,ho,hb5⟩;have hob:=wJ ho;obtain⟨a5,c5,rfl,_⟩:=AZ9 ho;have hz:=(G5 HX).size;have X5:=((G5 HX).next hb5).alloc (FT #[FQ a5 fs.length c5] 54);have ho5:=ho.next ((Below.refl _ _).alloc (Nat.le_refl _) (FT #[FQ a5 fs.length c5] 54));have hbx:=KH.new w5 (FQ a5 fs.length c5);have haz:(w5.alloc (FT #[FQ a5 fs.length c5] 54)).heap.size=w5.heap.size+1:=by simp
 have HOB:=G6 hob;have hz35:=hb5.size;clear CC hb5 ho HX cd hob;go_wp2_with fail;generalize w5.alloc (FT #[FQ a5 fs.length c5] 54)=W at*;have CI6:∀w6:FU,B0 W w6->FW prog 82 #[FQ a5 fs.length c5,I0 A.length,FQ (FZ ⟨w6.heap.size,0,FX⟩) 1 1] (w6.alloc (FT #[S0 name,.string ⟨#[]⟩,.string ⟨#[]⟩] 90)) fun e w'=>
   ∃g7 c7,e=.returned (FQ (FZ ⟨g7,0,FX⟩) f0.length c7)/\Hid (w3.heap.size<=g7/\Own w' g7 c7 f0/\PW w w' (FQ a fs.length c)/\KH w' w5.heap.size (FQ a5 fs.length c5)):=fun w6 hb6=>by
  have hal:=(Below.refl w6.heap.size w6).alloc (Nat.le_refl _) (FT #[S0 name,.string ⟨#[]⟩,.string ⟨#[]⟩] 90);have hs6:=hb6.size;refine(G5 HCI _ w3.heap.size w6.heap.size _ ((ho5.next hb6).next hal) (by have:=X5.size;have:=wJ ho5;simp;omega) (heap_alloc_new w6 _) (fun e=>by have:=G5 HOB _ e;omega)).mono ?_;rintro e w7 ⟨v7,he,ho7,hg7⟩;obtain⟨g7,c7,rfl,h7,ho7⟩:=YP ho7 hat;exact⟨g7,c7,he,h7,ho7,((X5.next hb6).next hal).B00 hg7 (fun k e=>by have:=G5 HOB k e;omega),((hbx.next hb6).next hal).grown hg7 (fun e=>by have:=G5 HOB _ e.symm;omega)⟩
 have ca:=hbx.c;have HBX:=G6 hbx;clear X5 ho5 hbx HCI;have hcx:∀w6:FU,B0 W w6->w6.cell? ⟨w5.heap.size,0,FX⟩=FZ (FQ a5 fs.length c5)/\w5.heap.size<w6.heap.size:=fun w6 hb6=>⟨((G5 HBX).next hb6).c,by have:=hb6.size;omega⟩;have HCX:=G6 hcx;have HC6:=G6 CI6;clear hcx CI6
 go_region_with (first
  |(go_at_call 40;refine(CL _).mono ?_;rintro e w6 ⟨rfl,hb6⟩;obtain⟨ca6,hl6⟩:=G5 HCX w6 (UH hb6))
  |(go_at_call 82;refine(G5 HC6 w6 (UH hb6)).mono ?_;rintro e w7 ⟨g7,c7,rfl,h7⟩;have ca7:=(G5 h7).2.2.2.c;have fa7:=(G5 h7).2.2.2.f))
 all_goals
  have hz5:w.heap.size+2<=w5.heap.size:=by omega
  have hne:=(G5 h7).2.2.2.ne (G5 h7).2.1;have ho8:=(G5 h7).2.1.other (a:=⟨w5.heap.size,0,FX⟩) hne (FQ (FZ ⟨g7,0,FX⟩) f0.length c7);have X8:=(G5 h7).2.2.1.other hz5 0 (FQ (FZ ⟨g7,0,FX⟩) f0.length c7);have hb8:=(G5 h7).2.2.2.set (FQ (FZ ⟨g7,0,FX⟩) f0.length c7);have hg7:=(G5 h7).1;have ca8:=hb8.c;clear h7 ca7 fa7 ca6 hb6 ca CL HC6 HCX HBX;generalize w7.setCell ⟨w5.heap.size,0,FX⟩ (FQ (FZ ⟨g7,0,FX⟩) f0.length c7)=w8 at*;go_wp2_with fail;refine(CT g7 c7 w8 ho8).mono ?_;rintro e w9 ⟨rfl,ho9,hg9⟩;have X9:=X8.grown hg9 (by omega);have ca9:=(hb8.grown hg9 (fun e=>hne (BN e).symm)).c;have cr9:=X9.cr;have fr9:=X9.fr;have HB:=G6 X9.below;have HO9:=G6 ho9;clear X9 ho9 hg9 X8 ho8 CT ca8 hb8 cr fr;go_wp2_with fail;exact bodyPost_ret (v:=.tuple #[.agg #[FQ (FZ ⟨g7,0,FX⟩) f0.length c7],I0 0]) (by simp[results,results55,go_sem,cr9]) rfl
   ⟨_,rfl,.inr ⟨g7,c7,by rw[G5 HSL],by omega,(G5 HO9).other (by show g7≠w.heap.size+1;omega) _⟩,(G5 HB).setCell (by simp) _⟩
def XF(k:Nat)(f:DF):DF:=⟨f.n,f.s++f.t.take k,[]⟩
def mix(keep:Nat)(fs:List DF)(j:Nat):List DF:=(fs.take j).map (XF keep)++fs.drop j
theorem B01(k:Nat)(l:List UInt8):l.take (min k l.length)=l.take k:=by
 by_cases h:k<=l.length
 .rw[Nat.min_eq_left h]
 .rw[Nat.min_eq_right (by omega),List.take_length,List.take_of_length_le (by omega)]
theorem BJ1(keep:Nat)(fs:List DF):mix keep fs 0=fs:=by simp[mix]
theorem C37(keep:Nat)(fs:List DF):mix keep fs fs.length=fs.map (XF keep):=by simp[mix]
theorem A19{keep:Nat}{j:Nat}{f:DF}(h:fs[j]?=FZ f):(mix keep fs j)[j]?=FZ f:=by
 have hl:=(AU.1 h).1;rw[mix,List.getElem?_append_right (by simp;omega)];simp[h,Nat.min_eq_left (Nat.le_of_lt hl)]
theorem C38{keep:Nat}{j:Nat}{f:DF}(h:fs[j]?=FZ f):(mix keep fs j).set j (XF keep f)=mix keep fs (j+1):=by
 obtain⟨hl,rfl⟩:=AU.1 h;have e:fs.drop j=fs[j]::fs.drop (j+1):=List.drop_eq_getElem_cons hl;have hm:((fs.take j).map (XF keep)).length=j:=by simp;omega
 rw[mix,mix,e,List.set_append_right _ _ (by omega),hm,Nat.sub_self,List.set_cons_zero,List.take_succ_eq_append_getElem hl];simp only[List.map_append,List.map_cons,List.map_nil,List.append_assoc,List.cons_append,List.nil_append]
theorem BJ2(v:FV)(fs:List DF)(keep:Int)(w:FU)(hv:IQ w v fs)(hs:nJ fs)(h:VB fs=false\/keep<0):
  FW prog 103 #[.agg #[v],I0 keep] w (R0 w (.tuple #[.agg #[N0],I0 3])):=by
 obtain⟨a,n0,c,rfl⟩:=IW hv;have C:=fun W (hW:B0 w W)=>UF _ fs W (hv.next hW) hs;clear hv hs
 cases hg:VB fs with
 |false=>
  rw[hg]at C;clear hg h;go_enter func103,ntmps103;go_wp2_with fail;have X:=PW.start w (FQ a n0 c) 54 54;refine(C _ X.below).mono ?_;rintro e w1 ⟨rfl,hb1⟩;have X1:=X.next hb1;have HB:=G6 X1.below;have c1:=X1.cr;have f1:=X1.fr;clear C hb1 X X1;go_wp2_with fail;exact bodyPost_ret (v:=.tuple #[.agg #[N0],I0 3]) (by simp[results,results103,go_sem,c1]) rfl ⟨rfl,(G5 HB).setCell (by simp) _⟩
 |true=>
  rw[hg]at C h;have hk:keep<0:=h.elim (fun h=>by cases h) id;clear hg h;go_enter func103,ntmps103;go_wp2_with fail;have X:=PW.start w (FQ a n0 c) 54 54;refine(C _ X.below).mono ?_;rintro e w1 ⟨rfl,hb1⟩;have X1:=X.next hb1;have HB:=G6 X1.below;have c1:=X1.cr;have f1:=X1.fr;clear C hb1 X X1;go_wp2_with fail;exact bodyPost_ret (v:=.tuple #[.agg #[N0],I0 3]) (by simp[results,results103,go_sem,c1]) rfl ⟨rfl,(G5 HB).setCell (by simp) _⟩
theorem B02(v:FV)(fs:List DF)(keep:Nat)(w:FU)(hv:IQ w v fs)(hs:nJ fs)(g:LW fs):
  FW prog 103 #[.agg #[v],I0 keep] w fun e w'=>∃v',e=.returned (.tuple #[.agg #[v'],I0 0])/\YO w' w.heap.size v' (fs.map (XF keep))/\B0 w w':=by
 obtain⟨a,n0,c,rfl⟩:=IW hv;have C:=fun W (hW:B0 w W)=>UF _ fs W (hv.next hW) hs;have CC:=fun W (hW:B0 w W)=>SH _ fs W (hv.next hW) hs g.few;rw[MW.2 g]at C;have hk0:¬ ((keep:Int)<0):=by omega
 have CT:=fun(q c:Nat) (j:Nat) (f:DF) (n:Nat) (W:FU) (ho:Own W q c (mix keep fs j)) (hj:fs[j]?=FZ f) (hn:n=f.s.length+min keep f.t.length)=>
  eG q c j (mix keep fs j) f n W ho (A19 hj) (by omega) (NQ (g.ok f (AZ hj)))
 have HCT:=G6 CT;have HG:=G6 g;have hfew:=g.few;clear hv hs g CT;go_enter func103,ntmps103;go_wp2_with fail;have X:=PW.start w (FQ a n0 c) 54 54;refine(C _ X.below).mono ?_;rintro e w1 ⟨rfl,hb1⟩;have X1:=X.next hb1;have HX:=G6 X1;have cd:=X1.cd;clear C hb1 X X1;go_wp2_with fail;refine(CC _ (G5 HX).below).mono ?_;rintro e w2 ⟨v',rfl,ho,hb2⟩;have hz2:=(G5 HX).size;have X2:=(G5 HX).next hb2;clear CC HX cd;rcases ho with⟨rfl,rfl⟩|⟨q,cap,rfl,hq,ho⟩
 .have HX:=G6 (X2.alloc (FT #[N0] 54));clear X2;have ca:(w2.alloc (FT #[N0] 54)).cell? ⟨w2.heap.size,0,FX⟩=FZ (N0):=by simp
  go_wp2_with fail
  go_loopg [22] 1 (fun _ s wr=>s=I0 0/\Hid (PW w wr (FQ a n0 c))/\wr.cell? ⟨w2.heap.size,0,FX⟩=FZ (N0))
  case atStart=>exact⟨rfl,HX,ca⟩
  case round=>
   obtain⟨rfl,hX,hca⟩:=hrel;have cr:=(G5 hX).cr;have fr:=(G5 hX).fr;go_wp2_with fail;exact bodyPost_ret (v:=.tuple #[.agg #[N0],I0 0]) (by simp[results,results103,go_sem,cr]) rfl ⟨_,rfl,.inl ⟨rfl,rfl⟩,(G5 hX).below.setCell (by simp) _⟩
 .have HX:=G6 (X2.alloc (FT #[FQ (FZ ⟨q,0,FX⟩) fs.length cap] 54));have HO:=G6 (ho.alloc (FT #[FQ (FZ ⟨q,0,FX⟩) fs.length cap] 54));have hql:=ho.lt;have ca:(w2.alloc (FT #[FQ (FZ ⟨q,0,FX⟩) fs.length cap] 54)).cell? ⟨w2.heap.size,0,FX⟩=FZ (FQ (FZ ⟨q,0,FX⟩) fs.length cap):=by simp
  have hq2:w.heap.size+2<=q:=by omega
  clear X2 ho;go_wp2_with fail
  go_loopg [22] fs.length (fun kx s wr=>∃k:Nat,s=I0 k/\k<=fs.length/\fs.length-k<=kx/\Hid (PW w wr (FQ a n0 c)/\Own wr q cap (mix keep fs k))/\wr.cell? ⟨w2.heap.size,0,FX⟩=FZ (FQ (FZ ⟨q,0,FX⟩) fs.length cap))
  case atStart=>exact⟨0,rfl,Nat.zero_le _,by omega,G6 ⟨G5 HX,by rw[BJ1];exact G5 HO⟩,ca⟩
  case round=>
   obtain⟨k,rfl,hk,hkx,hI,hca⟩:=hrel;clear ca;by_cases hlt:k<fs.length
   .obtain⟨f,hf⟩:∃f,fs[k]?=FZ f:=⟨_,List.getElem?_eq_getElem hlt⟩;have hfl:=NQ ((G5 HG).ok f (AZ hf));have e1:=(G5 hI).2.c1 (A19 hf);have e2:=(G5 hI).2.c2 (A19 hf);have HF:=G6 hf;have CT:=fun(n:Nat) (hn:n=f.s.length+min keep f.t.length)=>G5 HCT q cap k f n wr.drew (G5 hI).2.drew hf hn;have CF8:(k:Int)<(fs.length:Int):=by omega
    clear hf;have CT2:=CT _ rfl;have hwm:IntKind.i64.wrap ((f.s.length:Int)+min (keep:Int) (f.t.length:Int))=((f.s.length+min keep f.t.length:Nat):Int):=by
     rw[IntKind.wrap_i64];omega
    have hset:(mix keep fs k).set k ⟨f.n,(f.s++f.t).take (f.s.length+min keep f.t.length),[]⟩=mix keep fs (k+1):=by
     rw[<-C38 (G5 HF),XF,List.take_length_add_append,B01]
    rw[hset]at CT2;have HW:=G6 hwm;clear CT hset hwm;generalize f.s.length+min keep f.t.length=M at CT2 HW;go_wp2_with fail
    go_region_with (first|(go_at_call 86;rw[G5 HW];refine CT2.mono ?_;rintro e w4 ⟨rfl,ho4,hg4⟩))
    all_goals
     have hg5:wr.grownBy w4 (FZ q):=⟨hg4.os,hg4.tape,hg4.output,hg4.size,hg4.block⟩;have X4:=(G5 hI).1.grown hg5 hq2;have ca4:w4.cell? ⟨w2.heap.size,0,FX⟩=FZ (FQ (FZ ⟨q,0,FX⟩) fs.length cap):=hg5.cell hca (fun e=>by have e3:w2.heap.size=q:=BN e;omega);have HI:=G6 (And.intro X4 ho4);clear X4 ho4 hg4 hg5 CT2;go_wp2_with fail
     go_roundg (fs.length-(k+1))
     case measure=>omega
     case rel=>exact⟨k+1,rfl,by omega,Nat.le_refl _,HI,ca4⟩
   .have hkk:k=fs.length:=by omega
    subst hkk;have cr:=(G5 hI).1.cr;have fr:=(G5 hI).1.fr;go_wp2_with fail;exact bodyPost_ret (v:=.tuple #[.agg #[FQ (FZ ⟨q,0,FX⟩) fs.length cap],I0 0]) (by simp[results,results103,go_sem,cr]) rfl
     ⟨_,rfl,.inr ⟨q,cap,by simp,by omega,by have:=(G5 hI).2;rw[C37]at this;exact this.other (by show q≠w.heap.size+1;omega) _⟩,(G5 hI).1.below.setCell (by simp) _⟩
theorem JQ(g:LW fs):nJ fs:=fun f hf=>by
 have h:=g.ok f hf;have h1:=NQ h;have h2:=WT h;simp only[IZ,Bool.and_eq_true,decide_eq_true_eq]at h2;omega
theorem BJ3{f:DF}(g:LW (A++f::B))(hn:f'.n=f.n)(hl:f'.s.length+f'.t.length<=1048576):LW (A++f'::B):=by
 refine⟨by simpa using g.few,?_,?_⟩
 .intro x hx;rcases BU.1 hx with h|h
  .exact g.ok x (by simp[h])
  .rcases BO.1 h with rfl|h
   .have:=WT (g.ok f (by simp));simp[QO,hn,this,hl]
   .exact g.ok x (by simp[h])
 .have h:=g.asc;unfold Asc at h⊢;rw[DJ,FH]at h⊢;refine⟨h.1,⟨fun b hb=>by rw[hn];exact h.2.1.1 b hb,h.2.1.2⟩,fun a ha b hb=>?_⟩;rcases BO.1 hb with rfl|hb
  .rw[hn];exact h.2.2 a ha f (by simp)
  .exact h.2.2 a ha b (by simp[hb])
theorem rG(g:LW fs)(G:Gap fs A B name)(hn:IZ name=true)(hl:fs.length<16)(hf:f'.n=name)(hs:f'.s.length+f'.t.length<=1048576):LW (A++f'::B):=by
 have g':=g;rw[G.eq]at g' hl;refine⟨by simp at hl⊢;omega,?_,?_⟩
 .intro x hx;rcases BU.1 hx with h|h
  .exact g'.ok x (by simp[h])
  .rcases BO.1 h with rfl|h
   .simp[QO,hf,hn,hs]
   .exact g'.ok x (by simp[h])
 .have h:=g'.asc;unfold Asc at h⊢;rw[DJ]at h;rw[DJ,FH];refine⟨h.1,⟨fun b hb=>by rw[hf];exact G.hi b hb,h.2.1⟩,fun a ha b hb=>?_⟩;rcases BO.1 hb with rfl|hb
  .rw[hf];exact G.lo a ha
  .exact h.2.2 a ha b hb
theorem There.set{f:DF}(T:There fs A f B name)(hf:f'.n=name):There (A++f'::B) A f' B name:=⟨rfl,hf,T.lo,T.hi⟩
theorem Gap.ins(G:Gap fs A B name)(hf:f'.n=name):There (A++f'::B) A f' B name:=⟨rfl,hf,G.lo,G.hi⟩
def A20(fs:List DF)(name:List UInt8):Option DF:=fs.find? fun f=>decide (f.n=name)
theorem There.look{f:DF}(T:There fs A f B name):A20 fs name=FZ f:=by
 rw[A20,T.eq,List.find?_append,List.find?_eq_none.2 (fun a ha=>by simp[WS (T.lo a ha)])];simp[T.nm]
theorem Gap.look(G:Gap fs A B name):A20 fs name=FX:=by
 rw[A20,G.eq,List.find?_append,List.find?_eq_none.2 (fun a ha=>by simp[WS (G.lo a ha)]),List.find?_eq_none.2 (fun b hb=>by simp[(WS (G.hi b hb)).symm])];rfl
noncomputable def WH(fs:List DF)(name:List UInt8):List UInt8×Int:=if VB fs=true then match A20 fs name with
 |some f=>(f.s++f.t,0)
 |none=>([],7)else([],3)
theorem kJ(h:VB fs=false):WH fs name=([],3):=by simp[WH,h]
theorem VI{f:DF}(g:LW fs)(T:There fs A f B name):WH fs name=(f.s++f.t,0):=by simp[WH,MW.2 g,T.look]
theorem kK(g:LW fs)(G:Gap fs A B name):WH fs name=([],7):=by simp[WH,MW.2 g,G.look]
theorem B03(fs:List DF)(name:List UInt8):(WH fs name).1.length<=1048576:=by
 rcases kE fs name with⟨E,⟨h,_⟩|⟨g,⟨A,B,G⟩,_⟩⟩|⟨g,A,f,B,T⟩
 .rw[kJ h];simp
 .rw[kK g G];simp
 .rw[VI g T];have:=NQ (T.ok g);simp;omega
theorem BJ4(v:FV)(fs:List DF)(name:List UInt8)(w:FU)(hv:IQ w v fs)(hs:nJ fs):
  FW prog 54 #[.agg #[v],S0 name] w (R0 w (.tuple #[S0 (WH fs name).1,I0 (WH fs name).2])):=by
 rcases kE fs name with⟨E,h⟩|⟨g,A,f,B,T⟩
 .have h':=A14 v fs name E w hv hs h;rcases h with⟨h,rfl⟩|⟨g,⟨A,B,G⟩,rfl⟩
  .rw[kJ h];exact h'
  .rw[kK g G];exact h'
 .rw[VI g T];exact oK v fs A B f name w hv hs g T
def NH(f:FuncId)(args:FV->Array FV)(fs d:List DF)(E:Int):Prop:=∀v W,IQ W v fs->FW prog f (args (.agg #[v])) W fun e w'=>∃a n c,e=.returned (.tuple #[.agg #[FQ a n c],I0 E])/\Hid (IQ w' (FQ a n c) d)/\B0 W w'
theorem wK{f:FuncId}{args:FV->Array FV}{E:Int}(h:∀v W,IQ W v fs->FW prog f (args (.agg #[v])) W (R0 W (.tuple #[.agg #[N0],I0 E]))):NH f args fs [] E:=
 fun v W hv=>(h v W hv).mono fun _ w' ⟨he,hb⟩=>⟨_,_,_,he,IQ.nil w',hb⟩
theorem MV{f:FuncId}{args:FV->Array FV}{d:List DF}(h:∀v W,IQ W v fs->FW prog f (args (.agg #[v])) W fun e w'=>∃v',e=.returned (.tuple #[.agg #[v'],I0 0])/\YO w' W.heap.size v' d/\B0 W w'):NH f args fs d 0:=
 fun v W hv=>(h v W hv).mono fun _ w' ⟨v',he,ho,hb⟩=>by
  obtain⟨a,n,c,rfl⟩:=IW ho.disk;exact⟨a,n,c,he,ho.disk,hb⟩
