/-
  Part.
-/
import Derived.Test.YtenkgjfahcgppaaGreatDoorLOH
set_option maxRecDepth 20000
set_option maxHeartbeats 8000000
namespace Go.Proofs.YtenkgjfahcgppaaGreatDoor
open Go.RowKit Go.Proofs.Tryz
variable{W V:World}{B fs A:List DF}{v:Value}{k:Nat}{f':DF}{name:List UInt8}
theorem AR3{B:Nat}(h:UO W B v fs):∃a c,v=.slice a fs.length c/\fs.length<=c:=by
 rcases h with⟨rfl,rfl⟩|⟨g,cap,rfl,_,h⟩
 .exact⟨none,0,rfl,Nat.le_refl _⟩
 .exact⟨_,cap,rfl,h.le⟩
theorem qU{B:Nat}(h:UO W B v fs):∀k,v.ownBlock=some k->B<=k/\k<W.heap.size:=by
 intro k hk;rcases h with⟨rfl,rfl⟩|⟨g,cap,rfl,hB,h⟩
 .cases hk
 .cases hk;exact⟨hB,h.lt⟩
theorem wV(v:Value)(A R:List DF)(x:DF)(B b:Nat)(w:World)(ho:UO w B v (A++R))(hB:B<=w.heap.size)(hl:(A++R).length<=15)(h1:One w b x)(hb:v.ownBlock≠some b):
  Calls prog 136 #[v,I0 A.length,.slice (some ⟨b,0,none⟩) 1 1] w fun e w'=>
   ∃v',e=.returned v'/\UO w' B v' (A++x::R)/\w.grownBy w' v.ownBlock:=by
 cases R with
 |nil=>
  rw[List.append_nil]at ho hl;exact wR v A x B b w ho hB (by omega) h1
 |cons y R=>
  obtain⟨g,cap,rfl,hg,ho⟩:=UQ ho (k:=0) (by simp;omega);have hlen:(A++y::R).length=A.length+R.length+1:=by simp;omega
  have hlen':(A++x::y::R).length=(A++y::R).length+1:=by simp;omega
  by_cases hroom:(A++y::R).length+1<=cap
  .exact(lZ g cap A R y x _ b w ho hlen (by omega) hroom h1 (fun e=>hb (by rw[e];rfl))).mono fun e w' ⟨he,ho',hg'⟩=>⟨_,he,.inr ⟨g,cap,by rw[hlen'],hg,ho'⟩,hg'⟩
  .exact(qR g cap A R y x _ b w ho hlen (by omega) (by omega) h1).mono fun e w' ⟨c,he,ho',hb'⟩=>⟨_,he,.inr ⟨w.heap.size,c,by rw[hlen'],hB,ho'⟩,hb'.os,hb'.tape,hb'.output,hb'.size,fun k hk _=>hb'.block k hk⟩
def FT(W:World)(k:Nat)(v:Value):Prop:=W.heap[k]?=some (.cells #[v] 34 (0,0))
theorem FT.c(h:FT W k v):W.cell? ⟨k,0,none⟩=some v:=by unfold FT at h;simp[World.cell?,h]
theorem FT.f(h:FT W k v):W.frozen? ⟨k,0,none⟩=false:=by unfold FT at h;simp[World.frozen?,h]
theorem FT.next(h:FT W k v)(hb:B0 W V):FT V k v:=(hb.block k (by unfold FT at h;exact(Array.getElem?_eq_some_iff.1 h).1)).trans h
theorem FT.grown{r:Option Nat}(h:FT W k v)(hb:W.grownBy V r)(hr:some k≠r):FT V k v:=(hb.block k (by unfold FT at h;exact(Array.getElem?_eq_some_iff.1 h).1) hr).trans h
theorem FT.set(h:FT W k v)(u:Value):FT (W.setCell ⟨k,0,none⟩ u) k u:=AV u h
theorem FT.ne{g cap:Nat}(h:FT W k v)(ho:Own W g cap fs):g≠k:=by
 rintro rfl;obtain⟨rest,h1,_⟩:=ho;unfold FT at h;rw[h]at h1;have:=Option.some.inj h1;simp at this
theorem FT.new(W:World)(v:Value):FT (W.alloc (.cells #[v] 34)) W.heap.size v:=heap_alloc_new W _
theorem LK.AR4{w:World}{r:Option Nat}(h:LK w W v)(hg:W.grownBy V r)(hl:∀k,r=some k->w.heap.size+2<=k):LK w V v:=by
 have hs:=h.size;have b0:V.heap[w.heap.size]?=W.heap[w.heap.size]? :=hg.block _ (by omega) (fun e=>by have:=hl _ e.symm;omega);have b1:V.heap[w.heap.size+1]?=W.heap[w.heap.size+1]? :=hg.block _ (by omega) (fun e=>by have:=hl _ e.symm;omega);exact⟨h.below.grown hg (by omega) (fun k e=>by have:=hl k e;omega),Nat.le_trans h.size hg.size,(World.cell?_of_block b0).trans h.cd,(World.cell?_of_block b1).trans h.cr,(World.frozen?_of_block b1).trans h.fr⟩
theorem LK.other{w:World}(h:LK w W v)(hk:w.heap.size+2<=k)(j:Nat)(u:Value):LK w (W.setCell ⟨k,j,none⟩ u) v:=h.grown (TJ u) hk
theorem dY(v:Value)(fs A B:List DF)(f:DF)(name x:List UInt8)(w:World)(hv:C9 w v fs)(hs:iR fs)(g:H6 fs)(T:There fs A f B name)(hfit:f.s.length+f.t.length+x.length<=1048576):
  Calls prog 99 #[.agg #[v],S0 name,S0 x] w fun e w'=>∃v',e=.returned (.tuple #[.agg #[v'],I0 0])/\UO w' w.heap.size v' (A++⟨f.n,f.s,f.t++x⟩::B)/\B0 w w':=by
 have hn:EC name=true:=by rw[<-T.nm];exact SY (T.ok g)
 have CG:=fun W (hW:B0 w W)=>QE _ fs W (hv.next hW) hs;have CN:=fun W=>A28 name (by simp only[EC,Bool.and_eq_true,decide_eq_true_eq]at hn;omega) W;have CC:=fun W (hW:B0 w W)=>OH _ fs W (hv.next hW) hs g.few;have CF:=fun W (hW:B0 w W)=>jQ _ fs A B f name W (hv.next hW) g.few T;rw[IY.2 g]at CG;rw[hn]at CN;obtain⟨b,off,cap,rfl,hb,hr,hk,hlt⟩:=TK hv T;have HR:=AA hr;have HK:=AA hk;have BV6:(A.length:Int)<(fs.length:Int):=by omega
 have CS:=fun W=>XQ f W (by omega);have CT:=fun(q c:Nat) (W:World) (ho:Own W q c fs)=>jR q c A.length fs f x W ho hk (by omega) (by omega);have hset:fs.set A.length ⟨f.n,f.s,f.t++x⟩=A++⟨f.n,f.s,f.t++x⟩::B:=by rw[T.eq];simp
 have hsl:fs.length=(A++(⟨f.n,f.s,f.t++x⟩:DF)::B).length:=by rw[T.eq];simp
 rw[hset]at CT;obtain⟨fs',BP9⟩:∃y,A++(⟨f.n,f.s,f.t++x⟩:DF)::B=y:=⟨_,rfl⟩;rw[BP9]at CT hsl⊢;have HSL:=AA hsl;obtain⟨L,hL⟩:∃L,f.s.length+f.t.length=L:=⟨_,rfl⟩;rw[hL]at CS hfit;have hlg:(x.length:Int)<=1048576-(L:Int):=by omega
 have hsub:IntKind.i64.wrap (1048576-(L:Int))=1048576-(L:Int):=by rw[IntKind.wrap_i64];omega
 clear hv hs g hn T hr hk hset BP9 hsl hL;go_enter func99,ntmps99;go_wp2_with fail;have X:=LK.start w (.slice (some ⟨b,off,none⟩) fs.length cap) 34 34;refine(CG _ X.below).mono ?_;rintro e w1 ⟨rfl,hb1⟩;have X1:=X.next hb1;have HX:=AA X1;have cd:=X1.cd;have cr:=X1.cr;have fr:=X1.fr;clear CG hb1 X X1;go_wp2_with fail;refine(CN _).mono ?_;rintro e w2 ⟨rfl,rfl⟩;clear CN;go_wp2_with fail;refine(CF _ (A8 HX).below).mono ?_;rintro e w3 ⟨rfl,hb3⟩;have X3:=(A8 HX).next hb3;clear CF HX cd cr fr;have HX:=AA X3;have cd:=X3.cd;have cr:=X3.cr;have fr:=X3.fr;have r:=(A8 HR).kept X3.below hb;have e0:=r.c0 (A8 HK);have e1:=r.c1 (A8 HK);have e2:=r.c2 (A8 HK);clear hb3 X3 r;go_wp2_with fail;refine(CS _).mono ?_;rintro e w4 ⟨rfl,hb4⟩;have X4:=(A8 HX).next hb4;clear CS HX cd cr fr e0 e1 e2;have HX:=AA X4;have cd:=X4.cd;clear hb4 X4;go_wp2_with fail;refine(CC _ (A8 HX).below).mono ?_;rintro e w5 ⟨v',rfl,ho,hb5⟩;obtain⟨q,cap2,rfl,hq,ho⟩:=UQ ho hlt;have hq2:w.heap.size+2<=q:=by have:=(A8 HX).size;omega
 have X5:=((A8 HX).next hb5).alloc (.cells #[.slice (some ⟨q,0,none⟩) fs.length cap2] 34);have ho5:=ho.alloc (.cells #[.slice (some ⟨q,0,none⟩) fs.length cap2] 34);have hbx:=FT.new w5 (.slice (some ⟨q,0,none⟩) fs.length cap2);have ca:=hbx.c;clear CC hb5 ho HX cd;go_wp2_with fail;generalize w5.alloc (.cells #[.slice (some ⟨q,0,none⟩) fs.length cap2] 34)=W at*;refine(CT q cap2 W ho5).mono ?_;rintro e w6 ⟨rfl,ho6,hg6⟩;have hne:=hbx.ne ho5;have X6:=X5.grown hg6 hq2;have ca6:=(hbx.grown hg6 (fun e=>hne (Option.some.inj e).symm)).c;have cr:=X6.cr;have fr:=X6.fr;have HB:=AA X6.below;have HO6:=AA ho6;clear X6 ho6 hg6 X5 ho5 CT ca hbx;go_wp2_with fail;exact bodyPost_ret (v:=.tuple #[.agg #[.slice (some ⟨q,0,none⟩) fs.length cap2],I0 0]) (by simp[results,results99,go_sem,cr]) rfl
  ⟨_,rfl,.inr ⟨q,cap2,by rw[A8 HSL],by omega,(A8 HO6).other (by show q≠w.heap.size+1;omega) _⟩,(A8 HB).setCell (by simp) _⟩
theorem XV(v:Value)(fs A B:List DF)(name x:List UInt8)(w:World)(hv:C9 w v fs)(hs:iR fs)(g:H6 fs)(hn:EC name=true)(hl:fs.length<16)(G:Gap fs A B name)(hfit:x.length<=1048576):
  Calls prog 99 #[.agg #[v],S0 name,S0 x] w fun e w'=>∃v',e=.returned (.tuple #[.agg #[v'],I0 0])/\UO w' w.heap.size v' (A++⟨name,[],x⟩::B)/\B0 w w':=by
 have hnl:name.length<=40:=by simp only[EC,Bool.and_eq_true,decide_eq_true_eq]at hn;omega
 have CG:=fun W (hW:B0 w W)=>QE _ fs W (hv.next hW) hs;have CN:=fun W=>A28 name (by omega) W;have CC:=fun W (hW:B0 w W)=>OH _ fs W (hv.next hW) hs g.few;have CF:=fun W (hW:B0 w W)=>A27 _ fs A B name W (hv.next hW) g.few G;have CL:=fun W=>KH name W (by omega);have hlen:∃a c,v=.slice a fs.length c:=by
  rcases hv with⟨a,cap,rfl,rfl,_⟩|⟨b,off,cap,rfl,_⟩
  .exact⟨_,_,rfl⟩
  .exact⟨_,_,rfl⟩
 rw[IY.2 g]at CG;rw[hn]at CN;obtain⟨a,c,rfl⟩:=hlen;have hl2:¬ ((fs.length:Int)=16):=by omega
 have hlg:¬ ((1048576:Int)<(x.length:Int)):=by omega
 have CI:=fun(v5:Value) (D k:Nat) (W:World) (ho:UO W D v5 fs) (hD:D<=W.heap.size) (h1:One W k ⟨name,[],[]⟩) (hk:v5.ownBlock≠some k)=>wV v5 A B ⟨name,[],[]⟩ D k W (by rw[<-G.eq];exact ho) hD (by rw[<-G.eq];omega) h1 hk;have CT:=fun(q c:Nat) (W:World) (ho:Own W q c (A++⟨name,[],[]⟩::B))=>jR q c A.length _ ⟨name,[],[]⟩ x W ho (by simp) hfit (by simp);have hset:(A++(⟨name,[],[]⟩:DF)::B).set A.length ⟨name,[],[]++x⟩=A++⟨name,[],x⟩::B:=by simp
 simp only at CT;rw[hset]at CT;have hsl:(A++(⟨name,[],[]⟩:DF)::B).length=(A++(⟨name,[],x⟩:DF)::B).length:=by simp
 have HSL:=AA hsl;have hat:A.length<(A++(⟨name,[],[]⟩:DF)::B).length:=by simp
 obtain⟨f1,hf1⟩:∃y,A++(⟨name,[],x⟩:DF)::B=y:=⟨_,rfl⟩;obtain⟨f0,hf0⟩:∃y,A++(⟨name,[],[]⟩:DF)::B=y:=⟨_,rfl⟩;rw[hf1]at CT HSL⊢;rw[hf0]at CT HSL hat CI;have HCI:=AA CI;have hati:(A.length:Int)<(f0.length:Int):=by omega
 clear hv hs g hn G hset hsl hf0 hf1 CI;go_enter func99,ntmps99;go_wp2_with fail;have X:=LK.start w (.slice a fs.length c) 34 34;refine(CG _ X.below).mono ?_;rintro e w1 ⟨rfl,hb1⟩;have X1:=X.next hb1;have HX:=AA X1;have cd:=X1.cd;have cr:=X1.cr;have fr:=X1.fr;clear CG hb1 X X1;go_wp2_with fail;refine(CN _).mono ?_;rintro e w2 ⟨rfl,rfl⟩;clear CN;go_wp2_with fail;refine(CF _ (A8 HX).below).mono ?_;rintro e w3 ⟨rfl,hb3⟩;have X3:=(A8 HX).next hb3;clear CF HX cd cr fr;have HX:=AA X3;have cd:=X3.cd;have cr:=X3.cr;have fr:=X3.fr;clear hb3 X3;go_wp2_with fail;refine(CC _ (A8 HX).below).mono ?_;rintro e w5 ⟨v',rfl,ho,hb5⟩;have hob:=qU ho;obtain⟨a5,c5,rfl,_⟩:=AR3 ho;have hz:=(A8 HX).size;have X5:=((A8 HX).next hb5).alloc (.cells #[.slice a5 fs.length c5] 34);have ho5:=ho.next ((Below.refl _ _).alloc (Nat.le_refl _) (.cells #[.slice a5 fs.length c5] 34));have hbx:=FT.new w5 (.slice a5 fs.length c5);have haz:(w5.alloc (.cells #[.slice a5 fs.length c5] 34)).heap.size=w5.heap.size+1:=by simp
 have HOB:=AA hob;have hz35:=hb5.size;clear CC hb5 ho HX cd hob;go_wp2_with fail;generalize w5.alloc (.cells #[.slice a5 fs.length c5] 34)=W at*;have CI6:∀w6:World,B0 W w6->Calls prog 136 #[.slice a5 fs.length c5,I0 A.length,.slice (some ⟨w6.heap.size,0,none⟩) 1 1] (w6.alloc (.cells #[S0 name,.string ⟨#[]⟩,.string ⟨#[]⟩] 93)) fun e w'=>
   ∃g7 c7,e=.returned (.slice (some ⟨g7,0,none⟩) f0.length c7)/\Hid (w3.heap.size<=g7/\Own w' g7 c7 f0/\LK w w' (.slice a fs.length c)/\FT w' w5.heap.size (.slice a5 fs.length c5)):=fun w6 hb6=>by
  have hal:=(Below.refl w6.heap.size w6).alloc (Nat.le_refl _) (.cells #[S0 name,.string ⟨#[]⟩,.string ⟨#[]⟩] 93);have hs6:=hb6.size;refine(A8 HCI _ w3.heap.size w6.heap.size _ ((ho5.next hb6).next hal) (by have:=X5.size;have:=qU ho5;simp;omega) (heap_alloc_new w6 _) (fun e=>by have:=A8 HOB _ e;omega)).mono ?_;rintro e w7 ⟨v7,he,ho7,hg7⟩;obtain⟨g7,c7,rfl,h7,ho7⟩:=UQ ho7 hat;exact⟨g7,c7,he,h7,ho7,((X5.next hb6).next hal).AR4 hg7 (fun k e=>by have:=A8 HOB k e;omega),((hbx.next hb6).next hal).grown hg7 (fun e=>by have:=A8 HOB _ e.symm;omega)⟩
 have ca:=hbx.c;have HBX:=AA hbx;clear X5 ho5 hbx HCI;have hcx:∀w6:World,B0 W w6->w6.cell? ⟨w5.heap.size,0,none⟩=some (.slice a5 fs.length c5)/\w5.heap.size<w6.heap.size:=fun w6 hb6=>⟨((A8 HBX).next hb6).c,by have:=hb6.size;omega⟩;have HCX:=AA hcx;have HC6:=AA CI6;clear hcx CI6
 go_region_with (first
  |(go_at_call 72;refine(CL _).mono ?_;rintro e w6 ⟨rfl,hb6⟩;obtain⟨ca6,hl6⟩:=A8 HCX w6 (QG hb6))
  |(go_at_call 136;refine(A8 HC6 w6 (QG hb6)).mono ?_;rintro e w7 ⟨g7,c7,rfl,h7⟩;have ca7:=(A8 h7).2.2.2.c;have fa7:=(A8 h7).2.2.2.f))
 all_goals
  have hz5:w.heap.size+2<=w5.heap.size:=by omega
  have hne:=(A8 h7).2.2.2.ne (A8 h7).2.1;have ho8:=(A8 h7).2.1.other (a:=⟨w5.heap.size,0,none⟩) hne (.slice (some ⟨g7,0,none⟩) f0.length c7);have X8:=(A8 h7).2.2.1.other hz5 0 (.slice (some ⟨g7,0,none⟩) f0.length c7);have hb8:=(A8 h7).2.2.2.set (.slice (some ⟨g7,0,none⟩) f0.length c7);have hg7:=(A8 h7).1;have ca8:=hb8.c;clear h7 ca7 fa7 ca6 hb6 ca CL HC6 HCX HBX;generalize w7.setCell ⟨w5.heap.size,0,none⟩ (.slice (some ⟨g7,0,none⟩) f0.length c7)=w8 at*;go_wp2_with fail;refine(CT g7 c7 w8 ho8).mono ?_;rintro e w9 ⟨rfl,ho9,hg9⟩;have X9:=X8.grown hg9 (by omega);have ca9:=(hb8.grown hg9 (fun e=>hne (Option.some.inj e).symm)).c;have cr9:=X9.cr;have fr9:=X9.fr;have HB:=AA X9.below;have HO9:=AA ho9;clear X9 ho9 hg9 X8 ho8 CT ca8 hb8 cr fr;go_wp2_with fail;exact bodyPost_ret (v:=.tuple #[.agg #[.slice (some ⟨g7,0,none⟩) f0.length c7],I0 0]) (by simp[results,results99,go_sem,cr9]) rfl
   ⟨_,rfl,.inr ⟨g7,c7,by rw[A8 HSL],by omega,(A8 HO9).other (by show g7≠w.heap.size+1;omega) _⟩,(A8 HB).setCell (by simp) _⟩
def TL(k:Nat)(f:DF):DF:=⟨f.n,f.s++f.t.take k,[]⟩
def mix(keep:Nat)(fs:List DF)(j:Nat):List DF:=(fs.take j).map (TL keep)++fs.drop j
theorem AR5(k:Nat)(l:List UInt8):l.take (min k l.length)=l.take k:=by
 by_cases h:k<=l.length
 .rw[Nat.min_eq_left h]
 .rw[Nat.min_eq_right (by omega),List.take_length,List.take_of_length_le (by omega)]
theorem BB1(keep:Nat)(fs:List DF):mix keep fs 0=fs:=by simp[mix]
theorem BV8(keep:Nat)(fs:List DF):mix keep fs fs.length=fs.map (TL keep):=by simp[mix]
theorem wW{keep:Nat}{j:Nat}{f:DF}(h:fs[j]?=some f):(mix keep fs j)[j]?=some f:=by
 have hl:=(List.getElem?_eq_some_iff.1 h).1;rw[mix,List.getElem?_append_right (by simp;omega)];simp[h,Nat.min_eq_left (Nat.le_of_lt hl)]
theorem BV9{keep:Nat}{j:Nat}{f:DF}(h:fs[j]?=some f):(mix keep fs j).set j (TL keep f)=mix keep fs (j+1):=by
 obtain⟨hl,rfl⟩:=List.getElem?_eq_some_iff.1 h;have e:fs.drop j=fs[j]::fs.drop (j+1):=List.drop_eq_getElem_cons hl;have hm:((fs.take j).map (TL keep)).length=j:=by simp;omega
 rw[mix,mix,e,List.set_append_right _ _ (by omega),hm,Nat.sub_self,List.set_cons_zero,List.take_succ_eq_append_getElem hl];simp only[List.map_append,List.map_cons,List.map_nil,List.append_assoc,List.cons_append,List.nil_append]
theorem BB2(v:Value)(fs:List DF)(keep:Int)(w:World)(hv:C9 w v fs)(hs:iR fs)(h:QZ fs=false\/keep<0):
  Calls prog 156 #[.agg #[v],I0 keep] w (R0 w (.tuple #[.agg #[N0],I0 3])):=by
 obtain⟨a,n0,c,rfl⟩:=DK hv;have C:=fun W (hW:B0 w W)=>QE _ fs W (hv.next hW) hs;clear hv hs
 cases hg:QZ fs with
 |false=>
  rw[hg]at C;clear hg h;go_enter func156,ntmps156;go_wp2_with fail;have X:=LK.start w (.slice a n0 c) 34 34;refine(C _ X.below).mono ?_;rintro e w1 ⟨rfl,hb1⟩;have X1:=X.next hb1;have HB:=AA X1.below;have c1:=X1.cr;have f1:=X1.fr;clear C hb1 X X1;go_wp2_with fail;exact bodyPost_ret (v:=.tuple #[.agg #[N0],I0 3]) (by simp[results,results156,go_sem,c1]) rfl ⟨rfl,(A8 HB).setCell (by simp) _⟩
 |true=>
  rw[hg]at C h;have hk:keep<0:=h.elim (fun h=>by cases h) id;clear hg h;go_enter func156,ntmps156;go_wp2_with fail;have X:=LK.start w (.slice a n0 c) 34 34;refine(C _ X.below).mono ?_;rintro e w1 ⟨rfl,hb1⟩;have X1:=X.next hb1;have HB:=AA X1.below;have c1:=X1.cr;have f1:=X1.fr;clear C hb1 X X1;go_wp2_with fail;exact bodyPost_ret (v:=.tuple #[.agg #[N0],I0 3]) (by simp[results,results156,go_sem,c1]) rfl ⟨rfl,(A8 HB).setCell (by simp) _⟩
theorem AR6(v:Value)(fs:List DF)(keep:Nat)(w:World)(hv:C9 w v fs)(hs:iR fs)(g:H6 fs):
  Calls prog 156 #[.agg #[v],I0 keep] w fun e w'=>∃v',e=.returned (.tuple #[.agg #[v'],I0 0])/\UO w' w.heap.size v' (fs.map (TL keep))/\B0 w w':=by
 obtain⟨a,n0,c,rfl⟩:=DK hv;have C:=fun W (hW:B0 w W)=>QE _ fs W (hv.next hW) hs;have CC:=fun W (hW:B0 w W)=>OH _ fs W (hv.next hW) hs g.few;rw[IY.2 g]at C;have hk0:¬ ((keep:Int)<0):=by omega
 have CT:=fun(q c:Nat) (j:Nat) (f:DF) (n:Nat) (W:World) (ho:Own W q c (mix keep fs j)) (hj:fs[j]?=some f) (hn:n=f.s.length+min keep f.t.length)=>
  YZ q c j (mix keep fs j) f n W ho (wW hj) (by omega) (JE (g.ok f (List.mem_of_getElem? hj)))
 have HCT:=AA CT;have HG:=AA g;have hfew:=g.few;clear hv hs g CT;go_enter func156,ntmps156;go_wp2_with fail;have X:=LK.start w (.slice a n0 c) 34 34;refine(C _ X.below).mono ?_;rintro e w1 ⟨rfl,hb1⟩;have X1:=X.next hb1;have HX:=AA X1;have cd:=X1.cd;clear C hb1 X X1;go_wp2_with fail;refine(CC _ (A8 HX).below).mono ?_;rintro e w2 ⟨v',rfl,ho,hb2⟩;have hz2:=(A8 HX).size;have X2:=(A8 HX).next hb2;clear CC HX cd;rcases ho with⟨rfl,rfl⟩|⟨q,cap,rfl,hq,ho⟩
 .have HX:=AA (X2.alloc (.cells #[N0] 34));clear X2;have ca:(w2.alloc (.cells #[N0] 34)).cell? ⟨w2.heap.size,0,none⟩=some (N0):=by simp
  go_wp2_with fail
  go_loopg [22] 1 (fun _ s wr=>s=I0 0/\Hid (LK w wr (.slice a n0 c))/\wr.cell? ⟨w2.heap.size,0,none⟩=some (N0))
  case atStart=>exact⟨rfl,HX,ca⟩
  case round=>
   obtain⟨rfl,hX,hca⟩:=hrel;have cr:=(A8 hX).cr;have fr:=(A8 hX).fr;go_wp2_with fail;exact bodyPost_ret (v:=.tuple #[.agg #[N0],I0 0]) (by simp[results,results156,go_sem,cr]) rfl ⟨_,rfl,.inl ⟨rfl,rfl⟩,(A8 hX).below.setCell (by simp) _⟩
 .have HX:=AA (X2.alloc (.cells #[.slice (some ⟨q,0,none⟩) fs.length cap] 34));have HO:=AA (ho.alloc (.cells #[.slice (some ⟨q,0,none⟩) fs.length cap] 34));have hql:=ho.lt;have ca:(w2.alloc (.cells #[.slice (some ⟨q,0,none⟩) fs.length cap] 34)).cell? ⟨w2.heap.size,0,none⟩=some (.slice (some ⟨q,0,none⟩) fs.length cap):=by simp
  have hq2:w.heap.size+2<=q:=by omega
  clear X2 ho;go_wp2_with fail
  go_loopg [22] fs.length (fun kx s wr=>∃k:Nat,s=I0 k/\k<=fs.length/\fs.length-k<=kx/\Hid (LK w wr (.slice a n0 c)/\Own wr q cap (mix keep fs k))/\wr.cell? ⟨w2.heap.size,0,none⟩=some (.slice (some ⟨q,0,none⟩) fs.length cap))
  case atStart=>exact⟨0,rfl,Nat.zero_le _,by omega,AA ⟨A8 HX,by rw[BB1];exact A8 HO⟩,ca⟩
  case round=>
   obtain⟨k,rfl,hk,hkx,hI,hca⟩:=hrel;clear ca;by_cases hlt:k<fs.length
   .obtain⟨f,hf⟩:∃f,fs[k]?=some f:=⟨_,List.getElem?_eq_getElem hlt⟩;have hfl:=JE ((A8 HG).ok f (List.mem_of_getElem? hf));have e1:=(A8 hI).2.c1 (wW hf);have e2:=(A8 hI).2.c2 (wW hf);have HF:=AA hf;have CT:=fun(n:Nat) (hn:n=f.s.length+min keep f.t.length)=>A8 HCT q cap k f n wr.drew (A8 hI).2.drew hf hn;have BV6:(k:Int)<(fs.length:Int):=by omega
    clear hf;have CT2:=CT _ rfl;have hwm:IntKind.i64.wrap ((f.s.length:Int)+min (keep:Int) (f.t.length:Int))=((f.s.length+min keep f.t.length:Nat):Int):=by
     rw[IntKind.wrap_i64];omega
    have hset:(mix keep fs k).set k ⟨f.n,(f.s++f.t).take (f.s.length+min keep f.t.length),[]⟩=mix keep fs (k+1):=by
     rw[<-BV9 (A8 HF),TL,List.take_length_add_append,AR5]
    rw[hset]at CT2;have HW:=AA hwm;clear CT hset hwm;generalize f.s.length+min keep f.t.length=M at CT2 HW;go_wp2_with fail
    go_region_with (first|(go_at_call 140;rw[A8 HW];refine CT2.mono ?_;rintro e w4 ⟨rfl,ho4,hg4⟩))
    all_goals
     have hg5:wr.grownBy w4 (some q):=⟨hg4.os,hg4.tape,hg4.output,hg4.size,hg4.block⟩;have X4:=(A8 hI).1.grown hg5 hq2;have ca4:w4.cell? ⟨w2.heap.size,0,none⟩=some (.slice (some ⟨q,0,none⟩) fs.length cap):=hg5.cell hca (fun e=>by have e3:w2.heap.size=q:=Option.some.inj e;omega);have HI:=AA (And.intro X4 ho4);clear X4 ho4 hg4 hg5 CT2;go_wp2_with fail
     go_roundg (fs.length-(k+1))
     case measure=>omega
     case rel=>exact⟨k+1,rfl,by omega,Nat.le_refl _,HI,ca4⟩
   .have hkk:k=fs.length:=by omega
    subst hkk;have cr:=(A8 hI).1.cr;have fr:=(A8 hI).1.fr;go_wp2_with fail;exact bodyPost_ret (v:=.tuple #[.agg #[.slice (some ⟨q,0,none⟩) fs.length cap],I0 0]) (by simp[results,results156,go_sem,cr]) rfl
     ⟨_,rfl,.inr ⟨q,cap,by simp,by omega,by have:=(A8 hI).2;rw[BV8]at this;exact this.other (by show q≠w.heap.size+1;omega) _⟩,(A8 hI).1.below.setCell (by simp) _⟩
theorem F8(g:H6 fs):iR fs:=fun f hf=>by
 have h:=g.ok f hf;have h1:=JE h;have h2:=SY h;simp only[EC,Bool.and_eq_true,decide_eq_true_eq]at h2;omega
theorem BB3{f:DF}(g:H6 (A++f::B))(hn:f'.n=f.n)(hl:f'.s.length+f'.t.length<=1048576):H6 (A++f'::B):=by
 refine⟨by simpa using g.few,?_,?_⟩
 .intro x hx;rcases List.mem_append.1 hx with h|h
  .exact g.ok x (by simp[h])
  .rcases List.mem_cons.1 h with rfl|h
   .have:=SY (g.ok f (by simp));simp[MR,hn,this,hl]
   .exact g.ok x (by simp[h])
 .have h:=g.asc;unfold Asc at h⊢;rw[List.pairwise_append,List.pairwise_cons]at h⊢;refine⟨h.1,⟨fun b hb=>by rw[hn];exact h.2.1.1 b hb,h.2.1.2⟩,fun a ha b hb=>?_⟩;rcases List.mem_cons.1 hb with rfl|hb
  .rw[hn];exact h.2.2 a ha f (by simp)
  .exact h.2.2 a ha b (by simp[hb])
theorem mD(g:H6 fs)(G:Gap fs A B name)(hn:EC name=true)(hl:fs.length<16)(hf:f'.n=name)(hs:f'.s.length+f'.t.length<=1048576):H6 (A++f'::B):=by
 have g':=g;rw[G.eq]at g' hl;refine⟨by simp at hl⊢;omega,?_,?_⟩
 .intro x hx;rcases List.mem_append.1 hx with h|h
  .exact g'.ok x (by simp[h])
  .rcases List.mem_cons.1 h with rfl|h
   .simp[MR,hf,hn,hs]
   .exact g'.ok x (by simp[h])
 .have h:=g'.asc;unfold Asc at h⊢;rw[List.pairwise_append]at h;rw[List.pairwise_append,List.pairwise_cons];refine⟨h.1,⟨fun b hb=>by rw[hf];exact G.hi b hb,h.2.1⟩,fun a ha b hb=>?_⟩;rcases List.mem_cons.1 hb with rfl|hb
  .rw[hf];exact G.lo a ha
  .exact h.2.2 a ha b hb
theorem There.set{f:DF}(T:There fs A f B name)(hf:f'.n=name):There (A++f'::B) A f' B name:=⟨rfl,hf,T.lo,T.hi⟩
theorem Gap.ins(G:Gap fs A B name)(hf:f'.n=name):There (A++f'::B) A f' B name:=⟨rfl,hf,G.lo,G.hi⟩
def wY(fs:List DF)(name:List UInt8):Option DF:=fs.find? fun f=>decide (f.n=name)
theorem There.look{f:DF}(T:There fs A f B name):wY fs name=some f:=by
 rw[wY,T.eq,List.find?_append,List.find?_eq_none.2 (fun a ha=>by simp[PZ (T.lo a ha)])];simp[T.nm]
theorem Gap.look(G:Gap fs A B name):wY fs name=none:=by
 rw[wY,G.eq,List.find?_append,List.find?_eq_none.2 (fun a ha=>by simp[PZ (G.lo a ha)]),List.find?_eq_none.2 (fun b hb=>by simp[(PZ (G.hi b hb)).symm])];rfl
noncomputable def SB(fs:List DF)(name:List UInt8):List UInt8×Int:=if QZ fs=true then match wY fs name with
 |some f=>(f.s++f.t,0)
 |none=>([],7)else([],3)
theorem dZ(h:QZ fs=false):SB fs name=([],3):=by simp[SB,h]
theorem RI{f:DF}(g:H6 fs)(T:There fs A f B name):SB fs name=(f.s++f.t,0):=by simp[SB,IY.2 g,T.look]
theorem eG(g:H6 fs)(G:Gap fs A B name):SB fs name=([],7):=by simp[SB,IY.2 g,G.look]
theorem AR7(fs:List DF)(name:List UInt8):(SB fs name).1.length<=1048576:=by
 rcases dV fs name with⟨E,⟨h,_⟩|⟨g,⟨A,B,G⟩,_⟩⟩|⟨g,A,f,B,T⟩
 .rw[dZ h];simp
 .rw[eG g G];simp
 .rw[RI g T];have:=JE (T.ok g);simp;omega
theorem BB4(v:Value)(fs:List DF)(name:List UInt8)(w:World)(hv:C9 w v fs)(hs:iR fs):
  Calls prog 98 #[.agg #[v],S0 name] w (R0 w (.tuple #[S0 (SB fs name).1,I0 (SB fs name).2])):=by
 rcases dV fs name with⟨E,h⟩|⟨g,A,f,B,T⟩
 .have h':=wM v fs name E w hv hs h;rcases h with⟨h,rfl⟩|⟨g,⟨A,B,G⟩,rfl⟩
  .rw[dZ h];exact h'
  .rw[eG g G];exact h'
 .rw[RI g T];exact jS v fs A B f name w hv hs g T
def J9(f:FuncId)(args:Value->Array Value)(fs d:List DF)(E:Int):Prop:=∀v W,C9 W v fs->Calls prog f (args (.agg #[v])) W fun e w'=>∃a n c,e=.returned (.tuple #[.agg #[.slice a n c],I0 E])/\Hid (C9 w' (.slice a n c) d)/\B0 W w'
theorem qV{f:FuncId}{args:Value->Array Value}{E:Int}(h:∀v W,C9 W v fs->Calls prog f (args (.agg #[v])) W (R0 W (.tuple #[.agg #[N0],I0 E]))):J9 f args fs [] E:=
 fun v W hv=>(h v W hv).mono fun _ w' ⟨he,hb⟩=>⟨_,_,_,he,C9.nil w',hb⟩
theorem IW{f:FuncId}{args:Value->Array Value}{d:List DF}(h:∀v W,C9 W v fs->Calls prog f (args (.agg #[v])) W fun e w'=>∃v',e=.returned (.tuple #[.agg #[v'],I0 0])/\UO w' W.heap.size v' d/\B0 W w'):J9 f args fs d 0:=
 fun v W hv=>(h v W hv).mono fun _ w' ⟨v',he,ho,hb⟩=>by
  obtain⟨a,n,c,rfl⟩:=DK ho.disk;exact⟨a,n,c,he,ho.disk,hb⟩
