/-
  Part.
-/
import Derived.Test.YtkpojhhfjddegaaGreatDoorLOG
set_option maxRecDepth 20000
set_option maxHeartbeats 8000000
namespace Go.Proofs.YtkpojhhfjddegaaGreatDoor
open Go.RowKit Go.Proofs.Tryz
open _root_.List renaming getElem?_eq_some_iff->AV,mem_of_getElem?->BA,mem_cons->BR,mem_append->D8,pairwise_append->DN,pairwise_cons->FM
open _root_.Option.some renaming inj->BQ
open Go.Value renaming slice->FV
open Go.Obj renaming cells->FW
open Go renaming World->FX,Value->FZ,Calls->G5
open _root_.Option renaming none->G6,some->G7
variable{W V:FX}{B fs A:List DF}{v:FZ}{k:Nat}{f':DF}{name:List UInt8}
theorem B23{B:Nat}(h:YR W B v fs):∃a c,v=FV a fs.length c/\fs.length<=c:=by
 rcases h with⟨rfl,rfl⟩|⟨g,cap,rfl,_,h⟩
 .exact⟨G6,0,rfl,Nat.le_refl _⟩
 .exact⟨_,cap,rfl,h.le⟩
theorem wV{B:Nat}(h:YR W B v fs):∀k,v.ownBlock=G7 k->B<=k/\k<W.heap.size:=by
 intro k hk;rcases h with⟨rfl,rfl⟩|⟨g,cap,rfl,hB,h⟩
 .cases hk
 .cases hk;exact⟨hB,h.lt⟩
theorem A30(v:FZ)(A R:List DF)(x:DF)(B b:Nat)(w:FX)(ho:YR w B v (A++R))(hB:B<=w.heap.size)(hl:(A++R).length<=15)(h1:One w b x)(hb:v.ownBlock≠G7 b):
  G5 prog 98 #[v,I0 A.length,FV (G7 ⟨b,0,G6⟩) 1 1] w fun e w'=>
   ∃v',e=.returned v'/\YR w' B v' (A++x::R)/\w.grownBy w' v.ownBlock:=by
 cases R with
 |nil=>
  rw[List.append_nil]at ho hl;exact A28 v A x B b w ho hB (by omega) h1
 |cons y R=>
  obtain⟨g,cap,rfl,hg,ho⟩:=YS ho (k:=0) (by simp;omega);have hlen:(A++y::R).length=A.length+R.length+1:=by simp;omega
  have hlen':(A++x::y::R).length=(A++y::R).length+1:=by simp;omega
  by_cases hroom:(A++y::R).length+1<=cap
  .exact(rV g cap A R y x _ b w ho hlen (by omega) hroom h1 (fun e=>hb (by rw[e];rfl))).mono fun e w' ⟨he,ho',hg'⟩=>⟨_,he,.inr ⟨g,cap,by rw[hlen'],hg,ho'⟩,hg'⟩
  .exact(wU g cap A R y x _ b w ho hlen (by omega) (by omega) h1).mono fun e w' ⟨c,he,ho',hb'⟩=>⟨_,he,.inr ⟨w.heap.size,c,by rw[hlen'],hB,ho'⟩,hb'.os,hb'.tape,hb'.output,hb'.size,fun k hk _=>hb'.block k hk⟩
def KN(W:FX)(k:Nat)(v:FZ):Prop:=W.heap[k]?=G7 (FW #[v] 45 (0,0))
theorem KN.c(h:KN W k v):W.cell? ⟨k,0,G6⟩=G7 v:=by unfold KN at h;simp[World.cell?,h]
theorem KN.f(h:KN W k v):W.frozen? ⟨k,0,G6⟩=false:=by unfold KN at h;simp[World.frozen?,h]
theorem KN.next(h:KN W k v)(hb:B0 W V):KN V k v:=(hb.block k (by unfold KN at h;exact(Array.getElem?_eq_some_iff.1 h).1)).trans h
theorem KN.grown{r:Option Nat}(h:KN W k v)(hb:W.grownBy V r)(hr:G7 k≠r):KN V k v:=(hb.block k (by unfold KN at h;exact(Array.getElem?_eq_some_iff.1 h).1) hr).trans h
theorem KN.set(h:KN W k v)(u:FZ):KN (W.setCell ⟨k,0,G6⟩ u) k u:=GV u h
theorem KN.ne{g cap:Nat}(h:KN W k v)(ho:Own W g cap fs):g≠k:=by
 rintro rfl;obtain⟨rest,h1,_⟩:=ho;unfold KN at h;rw[h]at h1;have:=BQ h1;simp at this
theorem KN.new(W:FX)(v:FZ):KN (W.alloc (FW #[v] 45)) W.heap.size v:=heap_alloc_new W _
theorem QD.B24{w:FX}{r:Option Nat}(h:QD w W v)(hg:W.grownBy V r)(hl:∀k,r=G7 k->w.heap.size+2<=k):QD w V v:=by
 have hs:=h.size;have b0:V.heap[w.heap.size]?=W.heap[w.heap.size]? :=hg.block _ (by omega) (fun e=>by have:=hl _ e.symm;omega);have b1:V.heap[w.heap.size+1]?=W.heap[w.heap.size+1]? :=hg.block _ (by omega) (fun e=>by have:=hl _ e.symm;omega);exact⟨h.below.grown hg (by omega) (fun k e=>by have:=hl k e;omega),Nat.le_trans h.size hg.size,(World.cell?_of_block b0).trans h.cd,(World.cell?_of_block b1).trans h.cr,(World.frozen?_of_block b1).trans h.fr⟩
theorem QD.other{w:FX}(h:QD w W v)(hk:w.heap.size+2<=k)(j:Nat)(u:FZ):QD w (W.setCell ⟨k,j,G6⟩ u) v:=h.grown (XO u) hk
theorem kR(v:FZ)(fs A B:List DF)(f:DF)(name x:List UInt8)(w:FX)(hv:IW w v fs)(hs:nU fs)(g:LV fs)(T:There fs A f B name)(hfit:f.s.length+f.t.length+x.length<=1048576):
  G5 prog 61 #[.agg #[v],S0 name,S0 x] w fun e w'=>∃v',e=.returned (.tuple #[.agg #[v'],I0 0])/\YR w' w.heap.size v' (A++⟨f.n,f.s,f.t++x⟩::B)/\B0 w w':=by
 have hn:JC name=true:=by rw[<-T.nm];exact XG (T.ok g)
 have CG:=fun W (hW:B0 w W)=>VA _ fs W (hv.next hW) hs;have CN:=fun W=>AC6 name (by simp only[JC,Bool.and_eq_true,decide_eq_true_eq]at hn;omega) W;have CC:=fun W (hW:B0 w W)=>TM _ fs W (hv.next hW) hs g.few;have CF:=fun W (hW:B0 w W)=>oW _ fs A B f name W (hv.next hW) g.few T;rw[MW.2 g]at CG;rw[hn]at CN;obtain⟨b,off,cap,rfl,hb,hr,hk,hlt⟩:=XP hv T;have HR:=G9 hr;have HK:=G9 hk;have AV0:(A.length:Int)<(fs.length:Int):=by omega
 have CS:=fun W=>bP f W (by omega);have CT:=fun(q c:Nat) (W:FX) (ho:Own W q c fs)=>oZ q c A.length fs f x W ho hk (by omega) (by omega);have hset:fs.set A.length ⟨f.n,f.s,f.t++x⟩=A++⟨f.n,f.s,f.t++x⟩::B:=by rw[T.eq];simp
 have hsl:fs.length=(A++(⟨f.n,f.s,f.t++x⟩:DF)::B).length:=by rw[T.eq];simp
 rw[hset]at CT;obtain⟨fs',C01⟩:∃y,A++(⟨f.n,f.s,f.t++x⟩:DF)::B=y:=⟨_,rfl⟩;rw[C01]at CT hsl⊢;have HSL:=G9 hsl;obtain⟨L,hL⟩:∃L,f.s.length+f.t.length=L:=⟨_,rfl⟩;rw[hL]at CS hfit;have hlg:(x.length:Int)<=1048576-(L:Int):=by omega
 have hsub:IntKind.i64.wrap (1048576-(L:Int))=1048576-(L:Int):=by rw[IntKind.wrap_i64];omega
 clear hv hs g hn T hr hk hset C01 hsl hL;go_enter func61,ntmps61;go_wp2_with fail;have X:=QD.start w (FV (G7 ⟨b,off,G6⟩) fs.length cap) 45 45;refine(CG _ X.below).mono ?_;rintro e w1 ⟨rfl,hb1⟩;have X1:=X.next hb1;have HX:=G9 X1;have cd:=X1.cd;have cr:=X1.cr;have fr:=X1.fr;clear CG hb1 X X1;go_wp2_with fail;refine(CN _).mono ?_;rintro e w2 ⟨rfl,rfl⟩;clear CN;go_wp2_with fail;refine(CF _ (G8 HX).below).mono ?_;rintro e w3 ⟨rfl,hb3⟩;have X3:=(G8 HX).next hb3;clear CF HX cd cr fr;have HX:=G9 X3;have cd:=X3.cd;have cr:=X3.cr;have fr:=X3.fr;have r:=(G8 HR).kept X3.below hb;have e0:=r.c0 (G8 HK);have e1:=r.c1 (G8 HK);have e2:=r.c2 (G8 HK);clear hb3 X3 r;go_wp2_with fail;refine(CS _).mono ?_;rintro e w4 ⟨rfl,hb4⟩;have X4:=(G8 HX).next hb4;clear CS HX cd cr fr e0 e1 e2;have HX:=G9 X4;have cd:=X4.cd;clear hb4 X4;go_wp2_with fail;refine(CC _ (G8 HX).below).mono ?_;rintro e w5 ⟨v',rfl,ho,hb5⟩;obtain⟨q,cap2,rfl,hq,ho⟩:=YS ho hlt;have hq2:w.heap.size+2<=q:=by have:=(G8 HX).size;omega
 have X5:=((G8 HX).next hb5).alloc (FW #[FV (G7 ⟨q,0,G6⟩) fs.length cap2] 45);have ho5:=ho.alloc (FW #[FV (G7 ⟨q,0,G6⟩) fs.length cap2] 45);have hbx:=KN.new w5 (FV (G7 ⟨q,0,G6⟩) fs.length cap2);have ca:=hbx.c;clear CC hb5 ho HX cd;go_wp2_with fail;generalize w5.alloc (FW #[FV (G7 ⟨q,0,G6⟩) fs.length cap2] 45)=W at*;refine(CT q cap2 W ho5).mono ?_;rintro e w6 ⟨rfl,ho6,hg6⟩;have hne:=hbx.ne ho5;have X6:=X5.grown hg6 hq2;have ca6:=(hbx.grown hg6 (fun e=>hne (BQ e).symm)).c;have cr:=X6.cr;have fr:=X6.fr;have HB:=G9 X6.below;have HO6:=G9 ho6;clear X6 ho6 hg6 X5 ho5 CT ca hbx;go_wp2_with fail;exact bodyPost_ret (v:=.tuple #[.agg #[FV (G7 ⟨q,0,G6⟩) fs.length cap2],I0 0]) (by simp[results,results61,go_sem,cr]) rfl
  ⟨_,rfl,.inr ⟨q,cap2,by rw[G8 HSL],by omega,(G8 HO6).other (by show q≠w.heap.size+1;omega) _⟩,(G8 HB).setCell (by simp) _⟩
theorem bU(v:FZ)(fs A B:List DF)(name x:List UInt8)(w:FX)(hv:IW w v fs)(hs:nU fs)(g:LV fs)(hn:JC name=true)(hl:fs.length<16)(G:Gap fs A B name)(hfit:x.length<=1048576):
  G5 prog 61 #[.agg #[v],S0 name,S0 x] w fun e w'=>∃v',e=.returned (.tuple #[.agg #[v'],I0 0])/\YR w' w.heap.size v' (A++⟨name,[],x⟩::B)/\B0 w w':=by
 have hnl:name.length<=40:=by simp only[JC,Bool.and_eq_true,decide_eq_true_eq]at hn;omega
 have CG:=fun W (hW:B0 w W)=>VA _ fs W (hv.next hW) hs;have CN:=fun W=>AC6 name (by omega) W;have CC:=fun W (hW:B0 w W)=>TM _ fs W (hv.next hW) hs g.few;have CF:=fun W (hW:B0 w W)=>AC5 _ fs A B name W (hv.next hW) g.few G;have CL:=fun W=>P8 name W (by omega);have hlen:∃a c,v=FV a fs.length c:=by
  rcases hv with⟨a,cap,rfl,rfl,_⟩|⟨b,off,cap,rfl,_⟩
  .exact⟨_,_,rfl⟩
  .exact⟨_,_,rfl⟩
 rw[MW.2 g]at CG;rw[hn]at CN;obtain⟨a,c,rfl⟩:=hlen;have hl2:¬ ((fs.length:Int)=16):=by omega
 have hlg:¬ ((1048576:Int)<(x.length:Int)):=by omega
 have CI:=fun(v5:FZ) (D k:Nat) (W:FX) (ho:YR W D v5 fs) (hD:D<=W.heap.size) (h1:One W k ⟨name,[],[]⟩) (hk:v5.ownBlock≠G7 k)=>A30 v5 A B ⟨name,[],[]⟩ D k W (by rw[<-G.eq];exact ho) hD (by rw[<-G.eq];omega) h1 hk;have CT:=fun(q c:Nat) (W:FX) (ho:Own W q c (A++⟨name,[],[]⟩::B))=>oZ q c A.length _ ⟨name,[],[]⟩ x W ho (by simp) hfit (by simp);have hset:(A++(⟨name,[],[]⟩:DF)::B).set A.length ⟨name,[],[]++x⟩=A++⟨name,[],x⟩::B:=by simp
 simp only at CT;rw[hset]at CT;have hsl:(A++(⟨name,[],[]⟩:DF)::B).length=(A++(⟨name,[],x⟩:DF)::B).length:=by simp
 have HSL:=G9 hsl;have hat:A.length<(A++(⟨name,[],[]⟩:DF)::B).length:=by simp
 obtain⟨f1,hf1⟩:∃y,A++(⟨name,[],x⟩:DF)::B=y:=⟨_,rfl⟩;obtain⟨f0,hf0⟩:∃y,A++(⟨name,[],[]⟩:DF)::B=y:=⟨_,rfl⟩;rw[hf1]at CT HSL⊢;rw[hf0]at CT HSL hat CI;have HCI:=G9 CI;have hati:(A.length:Int)<(f0.length:Int):=by omega
 clear hv hs g hn G hset hsl hf0 hf1 CI;go_enter func61,ntmps61;go_wp2_with fail;have X:=QD.start w (FV a fs.length c) 45 45;refine(CG _ X.below).mono ?_;rintro e w1 ⟨rfl,hb1⟩;have X1:=X.next hb1;have HX:=G9 X1;have cd:=X1.cd;have cr:=X1.cr;have fr:=X1.fr;clear CG hb1 X X1;go_wp2_with fail;refine(CN _).mono ?_;rintro e w2 ⟨rfl,rfl⟩;clear CN;go_wp2_with fail;refine(CF _ (G8 HX).below).mono ?_;rintro e w3 ⟨rfl,hb3⟩;have X3:=(G8 HX).next hb3;clear CF HX cd cr fr;have HX:=G9 X3;have cd:=X3.cd;have cr:=X3.cr;have fr:=X3.fr;clear hb3 X3;go_wp2_with fail;refine(CC _ (G8 HX).below).mono ?_;rintro e w5 ⟨v',rfl,ho,hb5⟩;have hob:=wV ho;obtain⟨a5,c5,rfl,_⟩:=B23 ho;have hz:=(G8 HX).size;have X5:=((G8 HX).next hb5).alloc (FW #[FV a5 fs.length c5] 45);have ho5:=ho.next ((Below.refl _ _).alloc (Nat.le_refl _) (FW #[FV a5 fs.length c5] 45));have hbx:=KN.new w5 (FV a5 fs.length c5);have haz:(w5.alloc (FW #[FV a5 fs.length c5] 45)).heap.size=w5.heap.size+1:=by simp
 have HOB:=G9 hob;have hz35:=hb5.size;clear CC hb5 ho HX cd hob;go_wp2_with fail;generalize w5.alloc (FW #[FV a5 fs.length c5] 45)=W at*;have CI6:∀w6:FX,B0 W w6->G5 prog 98 #[FV a5 fs.length c5,I0 A.length,FV (G7 ⟨w6.heap.size,0,G6⟩) 1 1] (w6.alloc (FW #[S0 name,.string ⟨#[]⟩,.string ⟨#[]⟩] 89)) fun e w'=>
   ∃g7 c7,e=.returned (FV (G7 ⟨g7,0,G6⟩) f0.length c7)/\Hid (w3.heap.size<=g7/\Own w' g7 c7 f0/\QD w w' (FV a fs.length c)/\KN w' w5.heap.size (FV a5 fs.length c5)):=fun w6 hb6=>by
  have hal:=(Below.refl w6.heap.size w6).alloc (Nat.le_refl _) (FW #[S0 name,.string ⟨#[]⟩,.string ⟨#[]⟩] 89);have hs6:=hb6.size;refine(G8 HCI _ w3.heap.size w6.heap.size _ ((ho5.next hb6).next hal) (by have:=X5.size;have:=wV ho5;simp;omega) (heap_alloc_new w6 _) (fun e=>by have:=G8 HOB _ e;omega)).mono ?_;rintro e w7 ⟨v7,he,ho7,hg7⟩;obtain⟨g7,c7,rfl,h7,ho7⟩:=YS ho7 hat;exact⟨g7,c7,he,h7,ho7,((X5.next hb6).next hal).B24 hg7 (fun k e=>by have:=G8 HOB k e;omega),((hbx.next hb6).next hal).grown hg7 (fun e=>by have:=G8 HOB _ e.symm;omega)⟩
 have ca:=hbx.c;have HBX:=G9 hbx;clear X5 ho5 hbx HCI;have hcx:∀w6:FX,B0 W w6->w6.cell? ⟨w5.heap.size,0,G6⟩=G7 (FV a5 fs.length c5)/\w5.heap.size<w6.heap.size:=fun w6 hb6=>⟨((G8 HBX).next hb6).c,by have:=hb6.size;omega⟩;have HCX:=G9 hcx;have HC6:=G9 CI6;clear hcx CI6
 go_region_with (first
  |(go_at_call 92;refine(CL _).mono ?_;rintro e w6 ⟨rfl,hb6⟩;obtain⟨ca6,hl6⟩:=G8 HCX w6 (VD hb6))
  |(go_at_call 98;refine(G8 HC6 w6 (VD hb6)).mono ?_;rintro e w7 ⟨g7,c7,rfl,h7⟩;have ca7:=(G8 h7).2.2.2.c;have fa7:=(G8 h7).2.2.2.f))
 all_goals
  have hz5:w.heap.size+2<=w5.heap.size:=by omega
  have hne:=(G8 h7).2.2.2.ne (G8 h7).2.1;have ho8:=(G8 h7).2.1.other (a:=⟨w5.heap.size,0,G6⟩) hne (FV (G7 ⟨g7,0,G6⟩) f0.length c7);have X8:=(G8 h7).2.2.1.other hz5 0 (FV (G7 ⟨g7,0,G6⟩) f0.length c7);have hb8:=(G8 h7).2.2.2.set (FV (G7 ⟨g7,0,G6⟩) f0.length c7);have hg7:=(G8 h7).1;have ca8:=hb8.c;clear h7 ca7 fa7 ca6 hb6 ca CL HC6 HCX HBX;generalize w7.setCell ⟨w5.heap.size,0,G6⟩ (FV (G7 ⟨g7,0,G6⟩) f0.length c7)=w8 at*;go_wp2_with fail;refine(CT g7 c7 w8 ho8).mono ?_;rintro e w9 ⟨rfl,ho9,hg9⟩;have X9:=X8.grown hg9 (by omega);have ca9:=(hb8.grown hg9 (fun e=>hne (BQ e).symm)).c;have cr9:=X9.cr;have fr9:=X9.fr;have HB:=G9 X9.below;have HO9:=G9 ho9;clear X9 ho9 hg9 X8 ho8 CT ca8 hb8 cr fr;go_wp2_with fail;exact bodyPost_ret (v:=.tuple #[.agg #[FV (G7 ⟨g7,0,G6⟩) f0.length c7],I0 0]) (by simp[results,results61,go_sem,cr9]) rfl
   ⟨_,rfl,.inr ⟨g7,c7,by rw[G8 HSL],by omega,(G8 HO9).other (by show g7≠w.heap.size+1;omega) _⟩,(G8 HB).setCell (by simp) _⟩
def XQ(k:Nat)(f:DF):DF:=⟨f.n,f.s++f.t.take k,[]⟩
def mix(keep:Nat)(fs:List DF)(j:Nat):List DF:=(fs.take j).map (XQ keep)++fs.drop j
theorem B25(k:Nat)(l:List UInt8):l.take (min k l.length)=l.take k:=by
 by_cases h:k<=l.length
 .rw[Nat.min_eq_left h]
 .rw[Nat.min_eq_right (by omega),List.take_length,List.take_of_length_le (by omega)]
theorem BL4(keep:Nat)(fs:List DF):mix keep fs 0=fs:=by simp[mix]
theorem C60(keep:Nat)(fs:List DF):mix keep fs fs.length=fs.map (XQ keep):=by simp[mix]
theorem A31{keep:Nat}{j:Nat}{f:DF}(h:fs[j]?=G7 f):(mix keep fs j)[j]?=G7 f:=by
 have hl:=(AV.1 h).1;rw[mix,List.getElem?_append_right (by simp;omega)];simp[h,Nat.min_eq_left (Nat.le_of_lt hl)]
theorem C61{keep:Nat}{j:Nat}{f:DF}(h:fs[j]?=G7 f):(mix keep fs j).set j (XQ keep f)=mix keep fs (j+1):=by
 obtain⟨hl,rfl⟩:=AV.1 h;have e:fs.drop j=fs[j]::fs.drop (j+1):=List.drop_eq_getElem_cons hl;have hm:((fs.take j).map (XQ keep)).length=j:=by simp;omega
 rw[mix,mix,e,List.set_append_right _ _ (by omega),hm,Nat.sub_self,List.set_cons_zero,List.take_succ_eq_append_getElem hl];simp only[List.map_append,List.map_cons,List.map_nil,List.append_assoc,List.cons_append,List.nil_append]
theorem BL5(v:FZ)(fs:List DF)(keep:Int)(w:FX)(hv:IW w v fs)(hs:nU fs)(h:VW fs=false\/keep<0):
  G5 prog 82 #[.agg #[v],I0 keep] w (R0 w (.tuple #[.agg #[N0],I0 3])):=by
 obtain⟨a,n0,c,rfl⟩:=J3 hv;have C:=fun W (hW:B0 w W)=>VA _ fs W (hv.next hW) hs;clear hv hs
 cases hg:VW fs with
 |false=>
  rw[hg]at C;clear hg h;go_enter func82,ntmps82;go_wp2_with fail;have X:=QD.start w (FV a n0 c) 45 45;refine(C _ X.below).mono ?_;rintro e w1 ⟨rfl,hb1⟩;have X1:=X.next hb1;have HB:=G9 X1.below;have c1:=X1.cr;have f1:=X1.fr;clear C hb1 X X1;go_wp2_with fail;exact bodyPost_ret (v:=.tuple #[.agg #[N0],I0 3]) (by simp[results,results82,go_sem,c1]) rfl ⟨rfl,(G8 HB).setCell (by simp) _⟩
 |true=>
  rw[hg]at C h;have hk:keep<0:=h.elim (fun h=>by cases h) id;clear hg h;go_enter func82,ntmps82;go_wp2_with fail;have X:=QD.start w (FV a n0 c) 45 45;refine(C _ X.below).mono ?_;rintro e w1 ⟨rfl,hb1⟩;have X1:=X.next hb1;have HB:=G9 X1.below;have c1:=X1.cr;have f1:=X1.fr;clear C hb1 X X1;go_wp2_with fail;exact bodyPost_ret (v:=.tuple #[.agg #[N0],I0 3]) (by simp[results,results82,go_sem,c1]) rfl ⟨rfl,(G8 HB).setCell (by simp) _⟩
theorem B26(v:FZ)(fs:List DF)(keep:Nat)(w:FX)(hv:IW w v fs)(hs:nU fs)(g:LV fs):
  G5 prog 82 #[.agg #[v],I0 keep] w fun e w'=>∃v',e=.returned (.tuple #[.agg #[v'],I0 0])/\YR w' w.heap.size v' (fs.map (XQ keep))/\B0 w w':=by
 obtain⟨a,n0,c,rfl⟩:=J3 hv;have C:=fun W (hW:B0 w W)=>VA _ fs W (hv.next hW) hs;have CC:=fun W (hW:B0 w W)=>TM _ fs W (hv.next hW) hs g.few;rw[MW.2 g]at C;have hk0:¬ ((keep:Int)<0):=by omega
 have CT:=fun(q c:Nat) (j:Nat) (f:DF) (n:Nat) (W:FX) (ho:Own W q c (mix keep fs j)) (hj:fs[j]?=G7 f) (hn:n=f.s.length+min keep f.t.length)=>
  fC q c j (mix keep fs j) f n W ho (A31 hj) (by omega) (NW (g.ok f (BA hj)))
 have HCT:=G9 CT;have HG:=G9 g;have hfew:=g.few;clear hv hs g CT;go_enter func82,ntmps82;go_wp2_with fail;have X:=QD.start w (FV a n0 c) 45 45;refine(C _ X.below).mono ?_;rintro e w1 ⟨rfl,hb1⟩;have X1:=X.next hb1;have HX:=G9 X1;have cd:=X1.cd;clear C hb1 X X1;go_wp2_with fail;refine(CC _ (G8 HX).below).mono ?_;rintro e w2 ⟨v',rfl,ho,hb2⟩;have hz2:=(G8 HX).size;have X2:=(G8 HX).next hb2;clear CC HX cd;rcases ho with⟨rfl,rfl⟩|⟨q,cap,rfl,hq,ho⟩
 .have HX:=G9 (X2.alloc (FW #[N0] 45));clear X2;have ca:(w2.alloc (FW #[N0] 45)).cell? ⟨w2.heap.size,0,G6⟩=G7 (N0):=by simp
  go_wp2_with fail
  go_loopg [22] 1 (fun _ s wr=>s=I0 0/\Hid (QD w wr (FV a n0 c))/\wr.cell? ⟨w2.heap.size,0,G6⟩=G7 (N0))
  case atStart=>exact⟨rfl,HX,ca⟩
  case round=>
   obtain⟨rfl,hX,hca⟩:=hrel;have cr:=(G8 hX).cr;have fr:=(G8 hX).fr;go_wp2_with fail;exact bodyPost_ret (v:=.tuple #[.agg #[N0],I0 0]) (by simp[results,results82,go_sem,cr]) rfl ⟨_,rfl,.inl ⟨rfl,rfl⟩,(G8 hX).below.setCell (by simp) _⟩
 .have HX:=G9 (X2.alloc (FW #[FV (G7 ⟨q,0,G6⟩) fs.length cap] 45));have HO:=G9 (ho.alloc (FW #[FV (G7 ⟨q,0,G6⟩) fs.length cap] 45));have hql:=ho.lt;have ca:(w2.alloc (FW #[FV (G7 ⟨q,0,G6⟩) fs.length cap] 45)).cell? ⟨w2.heap.size,0,G6⟩=G7 (FV (G7 ⟨q,0,G6⟩) fs.length cap):=by simp
  have hq2:w.heap.size+2<=q:=by omega
  clear X2 ho;go_wp2_with fail
  go_loopg [22] fs.length (fun kx s wr=>∃k:Nat,s=I0 k/\k<=fs.length/\fs.length-k<=kx/\Hid (QD w wr (FV a n0 c)/\Own wr q cap (mix keep fs k))/\wr.cell? ⟨w2.heap.size,0,G6⟩=G7 (FV (G7 ⟨q,0,G6⟩) fs.length cap))
  case atStart=>exact⟨0,rfl,Nat.zero_le _,by omega,G9 ⟨G8 HX,by rw[BL4];exact G8 HO⟩,ca⟩
  case round=>
   obtain⟨k,rfl,hk,hkx,hI,hca⟩:=hrel;clear ca;by_cases hlt:k<fs.length
   .obtain⟨f,hf⟩:∃f,fs[k]?=G7 f:=⟨_,List.getElem?_eq_getElem hlt⟩;have hfl:=NW ((G8 HG).ok f (BA hf));have e1:=(G8 hI).2.c1 (A31 hf);have e2:=(G8 hI).2.c2 (A31 hf);have HF:=G9 hf;have CT:=fun(n:Nat) (hn:n=f.s.length+min keep f.t.length)=>G8 HCT q cap k f n wr.drew (G8 hI).2.drew hf hn;have AV0:(k:Int)<(fs.length:Int):=by omega
    clear hf;have CT2:=CT _ rfl;have hwm:IntKind.i64.wrap ((f.s.length:Int)+min (keep:Int) (f.t.length:Int))=((f.s.length+min keep f.t.length:Nat):Int):=by
     rw[IntKind.wrap_i64];omega
    have hset:(mix keep fs k).set k ⟨f.n,(f.s++f.t).take (f.s.length+min keep f.t.length),[]⟩=mix keep fs (k+1):=by
     rw[<-C61 (G8 HF),XQ,List.take_length_add_append,B25]
    rw[hset]at CT2;have HW:=G9 hwm;clear CT hset hwm;generalize f.s.length+min keep f.t.length=M at CT2 HW;go_wp2_with fail
    go_region_with (first|(go_at_call 102;rw[G8 HW];refine CT2.mono ?_;rintro e w4 ⟨rfl,ho4,hg4⟩))
    all_goals
     have hg5:wr.grownBy w4 (G7 q):=⟨hg4.os,hg4.tape,hg4.output,hg4.size,hg4.block⟩;have X4:=(G8 hI).1.grown hg5 hq2;have ca4:w4.cell? ⟨w2.heap.size,0,G6⟩=G7 (FV (G7 ⟨q,0,G6⟩) fs.length cap):=hg5.cell hca (fun e=>by have e3:w2.heap.size=q:=BQ e;omega);have HI:=G9 (And.intro X4 ho4);clear X4 ho4 hg4 hg5 CT2;go_wp2_with fail
     go_roundg (fs.length-(k+1))
     case measure=>omega
     case rel=>exact⟨k+1,rfl,by omega,Nat.le_refl _,HI,ca4⟩
   .have hkk:k=fs.length:=by omega
    subst hkk;have cr:=(G8 hI).1.cr;have fr:=(G8 hI).1.fr;go_wp2_with fail;exact bodyPost_ret (v:=.tuple #[.agg #[FV (G7 ⟨q,0,G6⟩) fs.length cap],I0 0]) (by simp[results,results82,go_sem,cr]) rfl
     ⟨_,rfl,.inr ⟨q,cap,by simp,by omega,by have:=(G8 hI).2;rw[C60]at this;exact this.other (by show q≠w.heap.size+1;omega) _⟩,(G8 hI).1.below.setCell (by simp) _⟩
theorem JW(g:LV fs):nU fs:=fun f hf=>by
 have h:=g.ok f hf;have h1:=NW h;have h2:=XG h;simp only[JC,Bool.and_eq_true,decide_eq_true_eq]at h2;omega
theorem BL6{f:DF}(g:LV (A++f::B))(hn:f'.n=f.n)(hl:f'.s.length+f'.t.length<=1048576):LV (A++f'::B):=by
 refine⟨by simpa using g.few,?_,?_⟩
 .intro x hx;rcases D8.1 hx with h|h
  .exact g.ok x (by simp[h])
  .rcases BR.1 h with rfl|h
   .have:=XG (g.ok f (by simp));simp[RD,hn,this,hl]
   .exact g.ok x (by simp[h])
 .have h:=g.asc;unfold Asc at h⊢;rw[DN,FM]at h⊢;refine⟨h.1,⟨fun b hb=>by rw[hn];exact h.2.1.1 b hb,h.2.1.2⟩,fun a ha b hb=>?_⟩;rcases BR.1 hb with rfl|hb
  .rw[hn];exact h.2.2 a ha f (by simp)
  .exact h.2.2 a ha b (by simp[hb])
theorem rW(g:LV fs)(G:Gap fs A B name)(hn:JC name=true)(hl:fs.length<16)(hf:f'.n=name)(hs:f'.s.length+f'.t.length<=1048576):LV (A++f'::B):=by
 have g':=g;rw[G.eq]at g' hl;refine⟨by simp at hl⊢;omega,?_,?_⟩
 .intro x hx;rcases D8.1 hx with h|h
  .exact g'.ok x (by simp[h])
  .rcases BR.1 h with rfl|h
   .simp[RD,hf,hn,hs]
   .exact g'.ok x (by simp[h])
 .have h:=g'.asc;unfold Asc at h⊢;rw[DN]at h;rw[DN,FM];refine⟨h.1,⟨fun b hb=>by rw[hf];exact G.hi b hb,h.2.1⟩,fun a ha b hb=>?_⟩;rcases BR.1 hb with rfl|hb
  .rw[hf];exact G.lo a ha
  .exact h.2.2 a ha b hb
theorem There.set{f:DF}(T:There fs A f B name)(hf:f'.n=name):There (A++f'::B) A f' B name:=⟨rfl,hf,T.lo,T.hi⟩
theorem Gap.ins(G:Gap fs A B name)(hf:f'.n=name):There (A++f'::B) A f' B name:=⟨rfl,hf,G.lo,G.hi⟩
def A32(fs:List DF)(name:List UInt8):Option DF:=fs.find? fun f=>decide (f.n=name)
theorem There.look{f:DF}(T:There fs A f B name):A32 fs name=G7 f:=by
 rw[A32,T.eq,List.find?_append,List.find?_eq_none.2 (fun a ha=>by simp[XF (T.lo a ha)])];simp[T.nm]
theorem Gap.look(G:Gap fs A B name):A32 fs name=G6:=by
 rw[A32,G.eq,List.find?_append,List.find?_eq_none.2 (fun a ha=>by simp[XF (G.lo a ha)]),List.find?_eq_none.2 (fun b hb=>by simp[(XF (G.hi b hb)).symm])];rfl
noncomputable def WT(fs:List DF)(name:List UInt8):List UInt8×Int:=if VW fs=true then match A32 fs name with
 |some f=>(f.s++f.t,0)
 |none=>([],7)else([],3)
theorem kS(h:VW fs=false):WT fs name=([],3):=by simp[WT,h]
theorem VZ{f:DF}(g:LV fs)(T:There fs A f B name):WT fs name=(f.s++f.t,0):=by simp[WT,MW.2 g,T.look]
theorem kT(g:LV fs)(G:Gap fs A B name):WT fs name=([],7):=by simp[WT,MW.2 g,G.look]
theorem B27(fs:List DF)(name:List UInt8):(WT fs name).1.length<=1048576:=by
 rcases kN fs name with⟨E,⟨h,_⟩|⟨g,⟨A,B,G⟩,_⟩⟩|⟨g,A,f,B,T⟩
 .rw[kS h];simp
 .rw[kT g G];simp
 .rw[VZ g T];have:=NW (T.ok g);simp;omega
theorem BL7(v:FZ)(fs:List DF)(name:List UInt8)(w:FX)(hv:IW w v fs)(hs:nU fs):
  G5 prog 60 #[.agg #[v],S0 name] w (R0 w (.tuple #[S0 (WT fs name).1,I0 (WT fs name).2])):=by
 rcases kN fs name with⟨E,h⟩|⟨g,A,f,B,T⟩
 .have h':=A26 v fs name E w hv hs h;rcases h with⟨h,rfl⟩|⟨g,⟨A,B,G⟩,rfl⟩
  .rw[kS h];exact h'
  .rw[kT g G];exact h'
 .rw[VZ g T];exact pF v fs A B f name w hv hs g T
def NK(f:FuncId)(args:FZ->Array FZ)(fs d:List DF)(E:Int):Prop:=∀v W,IW W v fs->G5 prog f (args (.agg #[v])) W fun e w'=>∃a n c,e=.returned (.tuple #[.agg #[FV a n c],I0 E])/\Hid (IW w' (FV a n c) d)/\B0 W w'
theorem wW{f:FuncId}{args:FZ->Array FZ}{E:Int}(h:∀v W,IW W v fs->G5 prog f (args (.agg #[v])) W (R0 W (.tuple #[.agg #[N0],I0 E]))):NK f args fs [] E:=
 fun v W hv=>(h v W hv).mono fun _ w' ⟨he,hb⟩=>⟨_,_,_,he,IW.nil w',hb⟩
theorem MV{f:FuncId}{args:FZ->Array FZ}{d:List DF}(h:∀v W,IW W v fs->G5 prog f (args (.agg #[v])) W fun e w'=>∃v',e=.returned (.tuple #[.agg #[v'],I0 0])/\YR w' W.heap.size v' d/\B0 W w'):NK f args fs d 0:=
 fun v W hv=>(h v W hv).mono fun _ w' ⟨v',he,ho,hb⟩=>by
  obtain⟨a,n,c,rfl⟩:=J3 ho.disk;exact⟨a,n,c,he,ho.disk,hb⟩
