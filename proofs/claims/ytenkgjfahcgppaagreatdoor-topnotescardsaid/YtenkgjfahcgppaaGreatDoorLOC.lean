/-
  Part.
-/
import Derived.RangeFuncNested
import Derived.RangeFuncBound
import Derived.Test.YtenkgjfahcgppaaGreatDoorRows
import Derived.Test.YtenkgjfahcgppaaGreatDoorLOA
import Derived.WalkSpells
import Derived.WalkLawsBesides
import Derived.Test.YtenkgjfahcgppaaGreatDoorShelf
set_option maxRecDepth 20000
set_option maxHeartbeats 8000000
namespace Go.Proofs.YtenkgjfahcgppaaGreatDoor
open Go.RowKit Go.Proofs.Tryz
variable{n1:Nat}{l m d:List UInt8}{a b:ByteArray}{w:World}{t:TypeId}{i j:Int}
structure VX(n1:Nat)(W W':World):Prop where
 size:W.heap.size<=W'.heap.size
 block:∀k,n1<=k->k<W.heap.size->W'.heap[k]?=W.heap[k]?
theorem VX.refl(n1:Nat)(W:World):VX n1 W W:=⟨Nat.le_refl _,fun _ _ _=>rfl⟩
theorem VX.trans{A B C:World}(h:VX n1 A B)(k:VX n1 B C):VX n1 A C:=
 ⟨Nat.le_trans h.size k.size,fun i hi hl=>(k.block i hi (Nat.lt_of_lt_of_le hl h.size)).trans (h.block i hi hl)⟩
theorem VX.putObj{l:Nat}(W:World)(o:Obj)(h:l<n1):VX n1 W (W.putObj l o):=
 ⟨by simp,fun k hk _=>World.putObj_heap_other (by omega)⟩
theorem VX.setCell(W:World){p:Addr}(v:Value)(h:p.block<n1):VX n1 W (W.setCell p v):=
 ⟨(KeepsWalks.setCell W p v).size,fun k hk _=>Below.heap_setCell W p v k (by omega)⟩
def CL0{α:Type}(F:Fence)(n:Nat)(P:Program)(g:Nat)(lb:Array Value)(encs:α->Array Value)(St Kp:World->World->Prop)(xs:List α)(W:World):Prop:=
 ∀ (l:Nat) (J Jx:List α->World->Prop),(∀s A B,J s A->St A B->J s B)->(∀s A B,Jx s A->St A B->Jx s B)->
  (∀pre x W1,J pre W1->pre++[x]<+:xs->YieldAt F (n-1) P l (encs x) W1 fun e W'=>
   (e=.returned (.bool true)/\J (pre++[x]) W'/\Kp W1 W')\/(e=.returned (.bool false)/\Jx (pre++[x]) W'/\Kp W1 W'))->
  J [] W->
  CallsIn F n P g (#[.func (.yield l) #[] #[]]++lb) W fun e W'=>(∃v,e=.returned v)/\(J xs W'\/∃pre,pre<+:xs/\Jx pre W')
def CN0{α:Type}(D l:Nat)(Kp:World->World->Prop)(I:List α->World->Prop)(Ix:Code->List α->World->Prop)(xs:List α)(W:World):Exit->Act->World->Prop
 | .normal,_,W'=>W'.heap[D]?=W.heap[D]? /\W'.heap[l]?=W.heap[l]? /\Kp W W'/\I xs W'
 | .ret,_,W'=>W'.heap[D]?=W.heap[D]? /\W'.heap[l]?=W.heap[l]? /\Kp W W'/\Ix .ret xs W'
 | .exit id,_,W'=>W'.heap[D]?=W.heap[D]? /\W'.heap[l]?=W.heap[l]? /\Kp W W'/\Ix (.exit id) xs W'
 | .goto t,_,W'=>W'.heap[D]?=W.heap[D]? /\W'.heap[l]?=W.heap[l]? /\Kp W W'/\Ix (.goto t) xs W'
 | .panic _,_,_=>False
 | .outgrown,_,_=>False
variable {F:Fence} {n:Nat} {P:Program}
theorem RX{α:Type}{g:Operand}{ps:Array Tmp}{assign body:Code}{Q:Exit->Act->World->Prop}{a:Act}{w:World}
  (hro:F.round=none) (h1:1<=n) {gf:Nat} {lb:Array Value} (hg:a.eval g=.func (.func gf) #[] lb) (hFg:F.fn gf) (eg:∀args w,(callFunc gf args).run P w=.ok (.enter gf args) w)
  {encs:α->Array Value} {St Kp:World->World->Prop} {xs:List α}
  (hseq:∀o1 o2,CL0 F (n-1) P gf lb encs St Kp xs ((w.alloc o1).alloc o2))
  (hSt:∀A B k,St A B->k=w.heap.size\/k=w.heap.size+1->k<A.heap.size->B.heap[k]?=A.heap[k]?)
  (hKt:∀A B C,Kp A B->Kp B C->Kp A C) (hKb:∀W o,Kp W (W.putObj (w.heap.size+1) o)) (hps:∀x,(encs x).size=ps.size)
  (I:List α->World->Prop) (Ix:Code->List α->World->Prop) (hI:∀s A B,I s A->St A B->I s B) (hIx:∀c s A B,Ix c s A->St A B->Ix c s B)
  (hIp:∀s A o,I s A->I s (A.putObj (w.heap.size+1) o)) (CL1:∀c s A o,Ix c s A->Ix c s (A.putObj (w.heap.size+1) o))
  (h0:∀o1 o2,I [] ((w.alloc o1).alloc o2)) (a₁:α->Act)
  (hassign:∀ (x:α) (W:World) (K:Act->World->Prop),K (a₁ x) W->
   assign.wpIn (F.inRound (w.heap.size+1)) (n-1-1) P (Exit.then K (fun _ _ _=>False)) {tmps:=(ps.zip (encs x)).foldl (fun t (p,v)=>t.setIfInBounds p v) a.tmps,defers:=[]} W)
  (hbody:∀ (pre:List α) (x:α) (W:World),I pre W->pre++[x]<+:xs->w.heap.size+1<W.heap.size->
   body.wpIn (F.inRound (w.heap.size+1)) (n-1-1) P (CN0 w.heap.size (w.heap.size+1) Kp I Ix (pre++[x]) W) (a₁ x) W)
  (hdone:∀ (W:World),I xs W->W.heap[w.heap.size]?=some (.deferred (some []))->Q .normal {a with defers:={target:=.collected w.heap.size,args:=#[]}::a.defers} W)
  (hstop:∀ (c:Code) (pre:List α) (W:World),pre<+:xs->Ix c pre W->W.heap[w.heap.size]?=some (.deferred (some []))->c.wpIn F n P Q {a with defers:={target:=.collected w.heap.size,args:=#[]}::a.defers} W):
  (Code.rangeFunc g ps assign body).wpIn F n P Q a w:=by
 refine wpIn_rangeFunc ?_;intro fn hfn;rw[hro];obtain⟨rec,hrec⟩:∃rec:LoopState->Option Code->Loop,rec=fun st pe=>{state:=st,pending:=pe,fn,tmps:=a.tmps,params:=ps,assign,body,defers:=w.heap.size}:=⟨_,rfl⟩;obtain⟨W1,hW1⟩:∃W1,(w.alloc (.deferred (some []))).alloc (.loop (rec .ready none))=W1:=⟨_,rfl⟩;have hL1:W1.heap[w.heap.size+1]?=some (.loop (rec .ready none)):=by
  rw[<-hW1];have:=World.alloc_heap_new (w.alloc (.deferred (some []))) (.loop (rec .ready none));rwa[World.size_alloc]at this
 have hK1:W1.heap[w.heap.size]?=some (.deferred (some [])):=by
  rw[<-hW1];exact(Below.heap_alloc _ _ _ (by simp)).trans (World.alloc_heap_new w _)
 have hI1:I [] W1:=by rw[<-hW1];exact h0 _ _
 have hS1:CL0 F (n-1) P gf lb encs St Kp xs W1:=by rw[<-hW1];exact hseq _ _
 refine⟨w.heap.size+1,[{target:=.collected w.heap.size,args:=#[]}],W1,{target:=.fn (.func gf) lb,args:=#[.func (.yield (w.heap.size+1)) #[] #[]]},W1,gf,
  #[.func (.yield (w.heap.size+1)) #[] #[]]++lb,W1,?_,?_,?_,?_,fun _=>h1,?_⟩
 .rw[<-hW1,hrec];exact run_enterLoop_outer _ _ _ _ _
 .simp only[resolve,hg];simp[go_sem]
 .intro f' hf';simp[Target.leads]at hf';subst hf';exact hFg
 .simp[invoke,go_sem,eg]
 .refine(hS1 (w.heap.size+1)
   (fun pre W=>I pre W/\W.heap[w.heap.size+1]?=some (.loop (rec .ready none))/\W.heap[w.heap.size]?=some (.deferred (some [])))
   (fun pre W=>∃c,Ix c pre W/\W.heap[w.heap.size+1]?=some (.loop (rec .done (some c)))/\W.heap[w.heap.size]?=some (.deferred (some [])))
   (fun s A B hs hg'=>⟨hI s A B hs.1 hg',(hSt A B _ hg' (.inr rfl) (Array.getElem?_eq_some_iff.1 hs.2.1).1).trans hs.2.1,(hSt A B _ hg' (.inl rfl) (Array.getElem?_eq_some_iff.1 hs.2.2).1).trans hs.2.2⟩)
   (fun s A B hs hg'=>by
    obtain⟨c,hc,hl,hk⟩:=hs;exact⟨c,hIx c s A B hc hg',(hSt A B _ hg' (.inr rfl) (Array.getElem?_eq_some_iff.1 hl).1).trans hl,(hSt A B _ hg' (.inl rfl) (Array.getElem?_eq_some_iff.1 hk).1).trans hk⟩)
   ?_ ⟨hI1,hL1,hK1⟩).mono ?_
  .rintro pre x W ⟨hi,hl,hk⟩ hlen;have hlt:w.heap.size+1<W.heap.size:=(Array.getElem?_eq_some_iff.1 hl).1;have hy:=run_yield (P:=P) (args:=encs x) hl (by rw[hrec];exact hps x);rw[hrec]at hy;refine⟨fn,_,assign,body,hy,roundIn_of_wpIn hfn (hassign x W _ ⟨_,run_beginRound hl (by rw[hrec]),?_⟩)⟩;have hl2:(W.putObj (w.heap.size+1) (.loop {rec .ready none with state:=.busy})).heap[w.heap.size+1]?=some (.loop {rec .ready none with state:=.busy}):=World.putObj_heap_same hlt;have hk2:(W.putObj (w.heap.size+1) (.loop {rec .ready none with state:=.busy})).heap[w.heap.size]?=some (.deferred (some [])):=(World.putObj_heap_other (by omega)).trans hk;have hw2:Kp W (W.putObj (w.heap.size+1) (.loop {rec .ready none with state:=.busy})):=hKb _ _;refine wpIn_mono (hbody pre x _ (hIp _ _ _ hi) hlen (by simpa using hlt)) ?_;have fin:∀ (jump:Option Code) (W3:World),W3.heap[w.heap.size]?=some (.deferred (some []))->W3.heap[w.heap.size+1]?=some (.loop {rec .ready none with state:=.busy})->
     (Instr.endRound (w.heap.size+1) jump).run P W3=.ok (.bool jump.isNone) (W3.putObj (w.heap.size+1) (.loop (rec (if jump.isNone then .ready else .done) jump)))/\
     (W3.putObj (w.heap.size+1) (.loop (rec (if jump.isNone then .ready else .done) jump))).heap[w.heap.size+1]?=some (.loop (rec (if jump.isNone then .ready else .done) jump))/\
     (W3.putObj (w.heap.size+1) (.loop (rec (if jump.isNone then .ready else .done) jump))).heap[w.heap.size]?=some (.deferred (some [])):=fun jump W3 hk3 hl3=>by
    have:=run_endRound (P:=P) jump hl3;rw[hrec]at this⊢;exact⟨this,World.putObj_heap_same (Array.getElem?_eq_some_iff.1 hl3).1,(World.putObj_heap_other (by omega)).trans hk3⟩
   rintro e a3 W3 hp
   cases e with
   |normal=>
    obtain⟨hD3,hl3,hkp3,hi3⟩:=hp;obtain⟨hr,hl4,hk4⟩:=fin none W3 (hD3.trans hk2) (hl3.trans hl2);exact⟨_,_,hr,.inl ⟨rfl,⟨hIp _ _ _ hi3,hl4,hk4⟩,hKt _ _ _ (hKt _ _ _ hw2 hkp3) (hKb _ _)⟩⟩
   |ret=>
    obtain⟨hD3,hl3,hkp3,hi3⟩:=hp;obtain⟨hr,hl4,hk4⟩:=fin (some .ret) W3 (hD3.trans hk2) (hl3.trans hl2);exact⟨_,_,hr,.inr ⟨rfl,⟨.ret,CL1 _ _ _ _ hi3,hl4,hk4⟩,hKt _ _ _ (hKt _ _ _ hw2 hkp3) (hKb _ _)⟩⟩
   |exit id=>
    obtain⟨hD3,hl3,hkp3,hi3⟩:=hp;obtain⟨hr,hl4,hk4⟩:=fin (some (.exit id)) W3 (hD3.trans hk2) (hl3.trans hl2);exact⟨_,_,hr,.inr ⟨rfl,⟨.exit id,CL1 _ _ _ _ hi3,hl4,hk4⟩,hKt _ _ _ (hKt _ _ _ hw2 hkp3) (hKb _ _)⟩⟩
   |goto t=>
    obtain⟨hD3,hl3,hkp3,hi3⟩:=hp;obtain⟨hr,hl4,hk4⟩:=fin (some (.goto t)) W3 (hD3.trans hk2) (hl3.trans hl2);exact⟨_,_,hr,.inr ⟨rfl,⟨.goto t,CL1 _ _ _ _ hi3,hl4,hk4⟩,hKt _ _ _ (hKt _ _ _ hw2 hkp3) (hKb _ _)⟩⟩
   |panic ch=>exact hp.elim
   |outgrown=>exact hp.elim
  .rintro e W2 ⟨⟨v,rfl⟩,(⟨hi,hl,hk⟩|⟨pre,hSp,c,hi,hl,hk⟩)⟩
   .exact⟨none,_,by have:=run_endLoop (P:=P) hl (by rw[hrec];simp);rw[hrec]at this;exact this,hdone _ (hIp _ _ _ hi) ((World.putObj_heap_other (by omega)).trans hk)⟩
   .exact⟨some c,_,by have:=run_endLoop (P:=P) hl (by rw[hrec];simp);rw[hrec]at this;exact this,hstop c pre _ hSp (CL1 _ _ _ _ hi) ((World.putObj_heap_other (by omega)).trans hk)⟩
theorem NW{a b:Bool}(h:a=b):Ending.returned (.bool a)=.returned (.bool b):=by rw[h]
theorem jC(c:UInt8)(w:World):
  Calls prog 68 #[.int .u8 c.toNat] w fun e w'=>e=.returned (.bool (PK c))/\w'=w:=by
 have hc:=c.toNat_lt;go_enter func68,ntmps68
 go_wp2
 all_goals go_ret
 all_goals exact⟨NW (by rw[Bool.eq_iff_iff];simp[PK];try omega),rfl⟩
theorem Q8(s:ByteArray)(w:World)(hs:s.size<=maxLen):
  Calls prog 43 #[.string s] w fun e w'=>e=.returned (.bool (EC s.data.toList))/\w'=w:=by
 unfold maxLen at hs;by_cases h1:s.size<1
 .go_enter func43,ntmps43
  go_wp2
  go_ret;exact⟨NW (oW s h1).symm,rfl⟩
 by_cases h2:40<s.size
 .go_enter func43,ntmps43
  go_wp2
  go_ret;exact⟨NW (vF s h2).symm,rfl⟩
 go_enter func43,ntmps43
 go_wp2
 go_loop [14] (fun i=>∃k:Nat,k<=s.size/\i=I0 k/\(s.data.toList.take k).all PK=true) (fun i=>s.size-(intOf i).toNat)
 case atStart=>exact⟨0,Nat.zero_le _,rfl,by simp⟩
 case round=>
  obtain⟨k,hk,rfl,hall⟩:=hrel;have vP:=AA hall;clear hall;by_cases hlt:k<s.size
  .by_cases hl:PK s[k]=true
   .go_wp2_with (go_at_call 68;refine(jC _ _).mono ?_;rintro e w' ⟨rfl,rfl⟩)
    go_round
    case rel=>exact⟨k+1,by omega,by go_num,QU s k hlt PK (A8 vP) hl⟩
    case measure=>simp[intOf];omega
   .have hl':PK s[k]=false:=by simpa using hl
    clear hl;go_wp2_with (go_at_call 68;refine(jC _ _).mono ?_;rintro e w' ⟨rfl,rfl⟩);go_ret;exact⟨NW ((iY s (by omega) (by omega)).trans (YP s k hlt PK hl')).symm,rfl⟩
  .go_wp2
   go_ret;exact⟨NW ((iY s (by omega) (by omega)).trans (VU s k (by omega) PK (A8 vP))).symm,rfl⟩
open Go.Shelf
attribute [local go_sem] Oper.semAt_some
def BT8(w:World)(b:Nat):Nat:=match w.cell? ⟨b,0,none⟩with
 |some (.string s)=>s.size
 |_=>0
theorem A06{b:Nat}{s:ByteArray}(h:Boxed w b t (.string s)):BT8 w b=s.size:=by
 simp[BT8,h.cell]
theorem Boxed.of_heap{W W':World}{B:Nat}{v:Value}(h:Boxed W B t v)(e:W'.heap[B]?=W.heap[B]?):Boxed W' B t v:=e.trans h
theorem pR(r:List UInt8)(i:Nat):(ByteArray.mk r.toArray).extract 0 i=⟨(r.take i).toArray⟩:=by
 have:=Lib.extract_data ⟨r.toArray⟩ 0 i;rw[List.drop_zero,Nat.sub_zero]at this;exact congrArg (fun l:List UInt8=>ByteArray.mk l.toArray) this
theorem A07(r:List UInt8)(i:Nat):(ByteArray.mk r.toArray).extract i r.length=⟨(r.drop i).toArray⟩:=by
 have:=Lib.extract_data ⟨r.toArray⟩ i r.length;rw[List.take_of_length_le (by simp)]at this;exact congrArg (fun l:List UInt8=>ByteArray.mk l.toArray) this
theorem QA(n:Nat):Fence.wide.depth.isSome=true->1<=n:=fun h=>by cases h
theorem iJ(n BT9 Bs Bv:Nat)(s:List UInt8)(W:World)(h1:Bs≠BT9)(h2:Bs≠Bv)(hlen:s.length<=1000000)
  (b1:Boxed W BT9 9 (.string ⟨#[47]⟩)) (b2:Boxed W Bs 9 (.string ⟨s.toArray⟩)) (b3:Boxed W Bv 3 (.int .i64 0)):
  CL0 Fence.wide n prog 127 #[.pointer (some ⟨BT9,0,none⟩),.pointer (some ⟨Bs,0,none⟩),.pointer (some ⟨Bv,0,none⟩)] (fun x:List UInt8=>#[.string ⟨x.toArray⟩])
   (fun A B=>∃v,B=A.setCell ⟨Bs,0,none⟩ v) (fun A B=>∀k,k=BT9\/k=Bs\/k=Bv->B.heap[k]?=A.heap[k]?) (J5 s) W:=by
 intro l J Jx hJ hJx hY h0;refine callsIn_of_wp func127 rfl trivial ?_ rfl;simp only[ntmps127,List.size_toArray,List.length_cons,List.length_nil,Nat.reduceAdd,Nat.reduceSub,Array.replicate_succ,Array.replicate_zero,List.push_toArray,List.append_toArray,List.nil_append,List.cons_append];have c1:=b1.cell;have HY:=AA hY;have HJ:=AA hJ;have HJx:=AA hJx;clear hY hJ hJx
 gi_wp2
 clear c1
 gi_loopw [7] (fun _ wr=>∃ (pre:List (List UInt8)) (r:List UInt8),J5 s=pre++J5 r/\r.length<=1000000/\Boxed wr BT9 9 (.string ⟨#[47]⟩)/\Boxed wr Bs 9 (.string ⟨r.toArray⟩)/\Boxed wr Bv 3 (.int .i64 0)/\J pre wr)
  (fun _ wr=>BT8 wr Bs)
 case atStart=>exact⟨[],s,rfl,hlen,b1,b2,b3,h0⟩
 case round=>
  clear b1 b2 b3 h0 hlen;obtain⟨pre,r,hpre,hlen,b1,b2,b3,hJs⟩:=hrel;have C73:=AA hpre;clear hpre;have c1:=b1.cell;have c2:=b2.cell;have c3:=b3.cell;have f2:=b2.frozen;have hz:(ByteArray.mk r.toArray).size=r.length:=Lib.size_eq ⟨r.toArray⟩;rcases dA r with hi|⟨i,hi⟩
  .have Hs:=AA (cO r hi);have Hi:=AA hi;clear hi;obtain⟨fn,tmps,assign,body,hy,hR⟩:=A8 HY pre r wr hJs (by rw[A8 C73,A8 Hs];exact List.prefix_refl _)
   gi_wp2_with fail
   refine⟨trivial,QA _,(callsIn_wide.2 (strings_Index_one _ _ _)).mono ?_⟩;rintro e w' ⟨rfl,rfl⟩;rw[show (ByteArray.mk r.toArray).data.toList=r from rfl,A8 Hi]
   gi_wp2
   refine⟨QA _,hR.mono ?_⟩;rintro e W3 (⟨rfl,hJ3,_⟩|⟨rfl,hJx3,_⟩)
   .gi_wp2
    go_end0
    exact⟨⟨_,rfl⟩,.inl (by rw[A8 C73,A8 Hs];exact hJ3)⟩
   .gi_wp2
    go_end0
    exact⟨⟨_,rfl⟩,.inr ⟨_,by rw[A8 C73,A8 Hs];exact List.prefix_refl _,hJx3⟩⟩
  .obtain⟨hil,hsp⟩:=cZ r i hi;have Hs:=AA hsp;have Hi:=AA hi;clear hi hsp;obtain⟨fn,tmps,assign,body,hy,hR⟩:=A8 HY pre (r.take i) wr hJs (by rw[A8 C73,A8 Hs];simp)
   gi_wp2_with fail
   refine⟨trivial,QA _,(callsIn_wide.2 (strings_Index_one _ _ _)).mono ?_⟩;rintro e w' ⟨rfl,rfl⟩;rw[show (ByteArray.mk r.toArray).data.toList=r from rfl,A8 Hi];rw[<-pR r i]at hy
   gi_wp2
   refine⟨QA _,hR.mono ?_⟩;rintro e W3 (⟨rfl,hJ3,hk3⟩|⟨rfl,hJx3,hk3⟩)
   .have d1:=Boxed.of_heap b1 (hk3 BT9 (.inl rfl));have d2:=Boxed.of_heap b2 (hk3 Bs (.inr (.inl rfl)));have d3:=Boxed.of_heap b3 (hk3 Bv (.inr (.inr rfl)));have Hl:=AA (A06 b2);clear c1 c2 c3 f2 b1 b2 b3 hk3 hy hR;have c1:=d1.cell;have c2:=d2.cell;have f2:=d2.frozen
    gi_wp2
    rw[A07];refine⟨⟨pre++[r.take i],r.drop (i+1),by rw[A8 C73,A8 Hs];simp,by simp;omega,Boxed.of_heap d1 (Below.heap_setCell W3 _ _ BT9 (Ne.symm h1)),d2.set _,
     Boxed.of_heap d3 (Below.heap_setCell W3 _ _ Bv (Ne.symm h2)),A8 HJ _ _ _ hJ3 ⟨_,rfl⟩⟩,?_⟩
    rw[A06 (d2.set _),A8 Hl];show (r.drop (i+1)).toArray.size<r.toArray.size;simp;omega
   .gi_wp2
    refine bodyPost_ret (results_none rfl _ _ _) rfl ?_;exact⟨⟨_,rfl⟩,.inr ⟨pre++[r.take i],by rw[A8 C73,A8 Hs];simp,hJx3⟩⟩
attribute [local go_sem] Oper.semAt_some
theorem IQ{l:Nat}(W:World)(o:Obj)(h:n1<=l):Below n1 W (W.putObj l o):=
 ⟨rfl,rfl,rfl,by simp,fun k hk=>World.putObj_heap_other (by omega)⟩
theorem MS{W:World}{B l:Nat}{v:Value}(o:Obj)(h:Boxed W B t v)(hne:B≠l):Boxed (W.putObj l o) B t v:=(World.putObj_heap_other hne).trans h
theorem iK(s sep:ByteArray)(w:World):
  Calls prog 66 #[.string s,.string sep] w fun e w'=>
   e=.returned (.func (.func 127) #[] #[.pointer (some ⟨w.heap.size+1,0,none⟩),.pointer (some ⟨w.heap.size,0,none⟩),.pointer (some ⟨w.heap.size+1+1,0,none⟩)])/\
   w'=((w.alloc (.cells #[.string s] 9)).alloc (.cells #[.string sep] 9)).alloc (.cells #[I0 0] 3):=by
 go_enter func66,ntmps66
 go_wp2
 go_ret;exact⟨rfl,rfl⟩
theorem A93{n m l0:Nat}{P:Program}{l:Nat}{f:FuncId}{tmps:Array Value}{assign body:Code}{R:Ending->World->Prop}(h:RoundIn Fence.wide n P l f tmps assign body w R):RoundIn (Fence.wide.inRound l0) m P l f tmps assign body w R:=
 ⟨h.1,fun c cs _=>h.2 c cs (room_wide _)⟩
theorem A94(W:World)(v0 v1 v2 v3:Value)(t0 t1 t2 t3:TypeId)(W0:World)(h:(((W.alloc (.cells #[v0] t0)).alloc (.cells #[v1] t1)).alloc (.cells #[v2] t2)).alloc (.cells #[v3] t3)=W0):
  W0.heap.size=W.heap.size+4/\Boxed W0 W.heap.size t0 v0/\Boxed W0 (W.heap.size+1) t1 v1/\Boxed W0 (W.heap.size+2) t2 v2/\Boxed W0 (W.heap.size+3) t3 v3/\B0 W W0:=by
 subst h;refine⟨by simp,(((Boxed.new W t0 v0).alloc _).alloc _).alloc _,?_,?_,?_,?_⟩
 .have:=Boxed.new (W.alloc (.cells #[v0] t0)) t1 v1;rw[World.size_alloc]at this;exact(this.alloc _).alloc _
 .have:=Boxed.new ((W.alloc (.cells #[v0] t0)).alloc (.cells #[v1] t1)) t2 v2;rw[World.size_alloc,World.size_alloc]at this;exact this.alloc _
 .have:=Boxed.new (((W.alloc (.cells #[v0] t0)).alloc (.cells #[v1] t1)).alloc (.cells #[v2] t2)) t3 v3;rw[World.size_alloc,World.size_alloc,World.size_alloc]at this;exact this
 .exact((((Below.refl _ W).alloc (Nat.le_refl _) _).alloc (by simp) _).alloc (by simp;omega) _).alloc (by simp;omega) _
theorem vS(n Bp:Nat)(s:List UInt8)(W:World)(hn:1<=n)(hlen:s.length<=1000000)(bp:Boxed W Bp 9 (S0 s)):
  CL0 Fence.wide n prog 65 #[P0 Bp] (fun x:List UInt8=>#[S0 x])
   (Below W.heap.size) (VX W.heap.size) (VE s) W:=by
 intro l J Jx hJ hJx hY h0;refine callsIn_of_wp_marks func65 rfl trivial ?_ rfl;simp only[ntmps65,List.size_toArray,List.length_cons,List.length_nil,Nat.reduceAdd,Nat.reduceSub,Array.replicate_succ,Array.replicate_zero,List.push_toArray,List.append_toArray,List.nil_append,List.cons_append];have cp:=bp.cell;have cp':=(bp.alloc (.cells #[.func (.yield l) #[] #[]] 70)).cell;have HY:=AA hY;have HJ:=AA hJ;have HJx:=AA hJx;clear hY hJ hJx;by_cases hroot:s=[47]
 .subst hroot
  gi_wp2
  refine⟨_,results_none rfl _ _ _,⟨_,rfl⟩,.inl ?_⟩;exact A8 HJ _ _ _ h0 ((Below.refl _ W).alloc (Nat.le_refl _) _)
 .have hr1:(s==[47])=false:=by simpa using hroot
  have Hst:Hid (VE s=J5 (Lib.trimPrefix s [47])):=by rw[VE,if_neg hroot];exact rfl
  clear hroot
  gi_wp2_with fail
  refine⟨trivial,(callsIn_wide.2 (strings_TrimPrefix _ _ _)).mono ?_⟩;rintro e w' ⟨rfl,rfl⟩;rw[show (ByteArray.mk s.toArray).data.toList=s from rfl,show (ByteArray.mk #[47]).data.toList=[47]from rfl];generalize hR:Lib.trimPrefix s [47]=R;have hRl:R.length<=1000000:=by
   have:=Lib.trimPrefix_le s [47];rw[<-hR];omega
  have CN1:Hid (VE s=J5 R):=by rw[<-hR];exact Hst
  clear hR Hst hr1 cp cp'
  gi_wp2_with fail
  refine⟨trivial,(callsIn_wide.2 (iK _ _ _)).mono ?_⟩;rintro e w' ⟨rfl,rfl⟩
  gi_wp2_with fail
  generalize hW0:(((W.alloc (.cells #[.func (.yield l) #[] #[]] 70)).alloc (.cells #[S0 R] 9)).alloc (.cells #[.string ⟨#[47]⟩] 9)).alloc (.cells #[I0 0] 3)=W0;obtain⟨hsz,k0,k1,k2,k3,kb⟩:=A94 _ _ _ _ _ _ _ _ _ W0 hW0;clear hW0;refine RX (α:=List UInt8) rfl hn (gf:=127) (lb:=#[.pointer (some ⟨W.heap.size+2,0,none⟩),.pointer (some ⟨W.heap.size+1,0,none⟩),.pointer (some ⟨W.heap.size+3,0,none⟩)]) rfl trivial (enters_of func127 (by kernel_rfl) rfl)
   (fun o1 o2=>iJ (n-1) (W.heap.size+2) (W.heap.size+1) (W.heap.size+3) R _ (by omega) (by omega) hRl ((k2.alloc o1).alloc o2) ((k1.alloc o1).alloc o2) ((k3.alloc o1).alloc o2))
   (fun A B k hs hk hl=>by obtain⟨v,rfl⟩:=hs;exact Below.heap_setCell A _ _ k (by show k≠W.heap.size+1;omega))
   (fun A B C h k i hi=>(k i hi).trans (h i hi)) (fun A o k hk=>World.putObj_heap_other (by omega)) (fun _=>rfl)
   (fun pre A=>J pre A/\Boxed A W.heap.size 70 (.func (.yield l) #[] #[]))
   (fun c pre A=>c=.ret/\Jx pre A)
   (fun pre A B hs hg=>by
    obtain⟨v,rfl⟩:=hg;exact⟨A8 HJ _ _ _ hs.1 ((Below.refl _ A).setCell (p:=⟨W.heap.size+1,0,none⟩) (by simp) v),Boxed.of_heap hs.2 (Below.heap_setCell A _ _ _ (by show W.heap.size≠W.heap.size+1;omega))⟩)
   (fun c pre A B hs hg=>by
    obtain⟨v,rfl⟩:=hg;exact⟨hs.1,A8 HJx _ _ _ hs.2 ((Below.refl _ A).setCell (p:=⟨W.heap.size+1,0,none⟩) (by simp) v)⟩)
   (fun pre A o hs=>⟨A8 HJ _ _ _ hs.1 (IQ A o (by omega)),MS o hs.2 (by omega)⟩)
   (fun c pre A o hs=>⟨hs.1,A8 HJx _ _ _ hs.2 (IQ A o (by omega))⟩)
   (fun o1 o2=>⟨A8 HJ _ _ _ h0 ((kb.alloc (by omega) o1).alloc (by simp;omega) o2),(k0.alloc o1).alloc o2⟩)
   (fun x=>{tmps:=#[.func (.yield l) #[] #[],P0 Bp,.pointer (some ⟨W.heap.size,0,none⟩),S0 x,S0 s,.bool false,S0 s,S0 R,
    .func (.func 127) #[] #[.pointer (some ⟨W.heap.size+2,0,none⟩),.pointer (some ⟨W.heap.size+1,0,none⟩),.pointer (some ⟨W.heap.size+3,0,none⟩)],S0 x,undef,undef,undef,undef],defers:=[]})
   ?assign ?body ?done ?stop
  case assign=>
   intro x A K hK
   gi_wp2
   exact hK
  case body=>
   rintro pre x A ⟨hJA,hbx⟩ hpre hlt;have cx:=hbx.cell;obtain⟨fn,tmps,assign,body,hy,hR⟩:=A8 HY pre x A hJA (by rw[A8 CN1];exact hpre)
   gi_wp2
   refine⟨QA _,(A93 hR).mono ?_⟩;rintro e W3 (⟨rfl,hJ3,hk3⟩|⟨rfl,hJx3,hk3⟩)
   .gi_wp2
    exact⟨hk3.block _ (by omega) (by omega),hk3.block _ (by omega) (by omega),fun k hk=>hk3.block k (by omega) (by omega),hJ3,Boxed.of_heap hbx (hk3.block _ (Nat.le_refl _) (by omega))⟩
   .gi_wp2
    exact⟨hk3.block _ (by omega) (by omega),hk3.block _ (by omega) (by omega),fun k hk=>hk3.block k (by omega) (by omega),rfl,hJx3⟩
  case done=>
   rintro A ⟨hJA,hbx⟩ hK
   gi_wp2
   refine⟨by simp,.inl ⟨_,_,rfl,run_takeDeferred hK,?_⟩⟩;refine⟨_,results_none rfl _ _ _,⟨_,rfl⟩,.inl ?_⟩;rw[A8 CN1];exact A8 HJ _ _ _ hJA (IQ A _ (by omega))
  case stop=>
   rintro c pre A hpre ⟨rfl,hJA⟩ hK
   gi_wp2
   refine⟨by simp,.inl ⟨_,_,rfl,run_takeDeferred hK,?_⟩⟩;refine⟨_,results_none rfl _ _ _,⟨_,rfl⟩,.inr ⟨pre,by rw[A8 CN1];exact hpre,?_⟩⟩;exact A8 HJx _ _ _ hJA (IQ A _ (by omega))
attribute [local go_sem] Oper.semAt_some
theorem vT(s:ByteArray)(w:World):
  Calls prog 42 #[.string s] w fun e w'=>
   e=.returned (.func (.func 65) #[] #[.pointer (some ⟨w.heap.size,0,none⟩)])/\w'=w.alloc (.cells #[.string s] 9):=by
 go_enter func42,ntmps42
 go_wp2
 go_ret;exact⟨rfl,rfl⟩
theorem AM8(W:World)(v0 v1:Value)(t0 t1:TypeId)(W0:World)(h:(W.alloc (.cells #[v0] t0)).alloc (.cells #[v1] t1)=W0):
  W0.heap.size=W.heap.size+2/\Boxed W0 W.heap.size t0 v0/\Boxed W0 (W.heap.size+1) t1 v1/\B0 W W0:=by
 subst h;refine⟨by simp,(Boxed.new W t0 v0).alloc _,?_,?_⟩
 .have:=Boxed.new (W.alloc (.cells #[v0] t0)) t1 v1;rw[World.size_alloc]at this;exact this
 .exact((Below.refl _ W).alloc (Nat.le_refl _) _).alloc (by simp) _
theorem A95(h:200<l.length):DN l=false:=by
 simp only[DN,show ¬l.length<=200 from by omega,decide_false,Bool.false_and]
theorem vU(h:Lib.hasPrefix l [47]=false):DN l=false:=by
 simp only[DN,h,Bool.and_false,Bool.false_and]
theorem AM9(h0:l.length<=200)(h:Lib.hasPrefix l [47]=true):DN l=(VE l).all EC:=by
 simp only[DN,h0,h,decide_true,Bool.true_and]
theorem lI(l:List UInt8):∀p∈VE l,p.length<=l.length:=by
 intro p hp;unfold VE at hp
 split at hp
 .simp at hp
 .have h1:=lC _ p hp;have h2:=Lib.trimPrefix_le l [47];omega
theorem VY{pre xs:List (List UInt8)}(h:pre<+:xs)(h1:pre.all EC=false):xs.all EC=false:=by
 obtain⟨t,rfl⟩:=h;rw[List.all_append,h1,Bool.false_and]
theorem BU0(s:ByteArray):∃l:List UInt8,s=⟨l.toArray⟩:=⟨s.data.toList,rfl⟩
theorem AN0(l:List UInt8)(w:World)(h0:l.length<=200)(hp:Lib.hasPrefix l [47]=true):
  Calls prog 19 #[S0 l] w (R0 w (.bool ((VE l).all EC))):=by
 refine(callsIn_wide (n:=6)).1 ?_;refine callsIn_of_wp_marks func19 rfl trivial ?_ rfl;simp only[ntmps19,List.size_toArray,List.length_cons,List.length_nil,Nat.reduceAdd,Nat.reduceSub,Array.replicate_succ,Array.replicate_zero,List.push_toArray,List.append_toArray,List.nil_append,List.cons_append];have hz:(ByteArray.mk l.toArray).size=l.length:=Lib.size_eq ⟨l.toArray⟩;have Hp:=AA hp;clear hp
 gi_wp2_with fail
 refine⟨trivial,(callsIn_wide.2 (strings_HasPrefix _ _ _)).mono ?_⟩;rintro e w' ⟨rfl,rfl⟩;rw[show (ByteArray.mk l.toArray).data.toList=l from rfl,show (ByteArray.mk #[47]).data.toList=[47]from rfl,A8 Hp]
 gi_wp2_with fail
 refine⟨trivial,(callsIn_wide.2 (vT _ _)).mono ?_⟩;rintro e w' ⟨rfl,rfl⟩
 gi_wp2_with fail
 generalize hW0:(w.alloc (.cells #[.bool false] 4)).alloc (.cells #[S0 l] 9)=W0;obtain⟨hsz,k0,k1,kb⟩:=AM8 _ _ _ _ _ W0 hW0;clear hW0;refine RX (α:=List UInt8) (encs:=fun x=>#[S0 x]) rfl (by omega) (gf:=65) (lb:=#[.pointer (some ⟨w.heap.size+1,0,none⟩)]) rfl trivial (enters_of func65 (by kernel_rfl) rfl)
  (St:=Below (W0.heap.size+1+1)) (Kp:=VX (W0.heap.size+1+1)) (xs:=VE l)
  (fun o1 o2=>by
   have h:=vS 5 (w.heap.size+1) l ((W0.alloc o1).alloc o2) (by omega) (by omega) ((k1.alloc o1).alloc o2);rw[World.size_alloc,World.size_alloc]at h;exact h)
  (fun A B k hs hk _=>hs.block k (by omega))
  (fun A B C h k=>h.trans k) (fun A o=>VX.putObj A o (by omega)) (fun _=>rfl)
  (fun pre A=>B0 w A/\Boxed A w.heap.size 4 (.bool false)/\pre.all EC=true)
  (fun c pre A=>c=.ret/\B0 w A/\Boxed A w.heap.size 4 (.bool false)/\pre.all EC=false)
  (fun pre A B hs hg=>⟨hs.1.trans (hg.mono (by omega)),Boxed.of_heap hs.2.1 (hg.block _ (by omega)),hs.2.2⟩)
  (fun c pre A B hs hg=>⟨hs.1,hs.2.1.trans (hg.mono (by omega)),Boxed.of_heap hs.2.2.1 (hg.block _ (by omega)),hs.2.2.2⟩)
  (fun pre A o hs=>⟨hs.1.trans (IQ A o (by omega)),MS o hs.2.1 (by omega),hs.2.2⟩)
  (fun c pre A o hs=>⟨hs.1,hs.2.1.trans (IQ A o (by omega)),MS o hs.2.2.1 (by omega),hs.2.2.2⟩)
  (fun o1 o2=>⟨(kb.alloc (by omega) o1).alloc (by simp;omega) o2,(k0.alloc o1).alloc o2,rfl⟩)
  (fun x=>{tmps:=#[S0 l,undef,.pointer (some ⟨w.heap.size,0,none⟩),S0 x,S0 l,I0 l.length,.bool (decide (200<(l.length:Int))),.bool (decide (200<(l.length:Int))),S0 l,.bool true,.bool false,
   .bool (decide (200<(l.length:Int))),S0 l,.func (.func 65) #[] #[.pointer (some ⟨w.heap.size+1,0,none⟩)],S0 x,undef,undef,undef],defers:=[]})
  ?assign ?body ?done ?stop
 case assign=>
  intro x A K hK
  gi_wp2
  exact hK
 case body=>
  rintro pre x A ⟨hB,hbx,hall⟩ hpre hlt;have cx:=hbx.cell;have fx:=hbx.frozen;have hxl:x.length<=200:=by
   have:=lI l x (hpre.subset (by simp));omega
  have hxs:(ByteArray.mk x.toArray).size<=maxLen:=by
   unfold maxLen;rw[Lib.size_eq];show x.length<=_;omega
  have vP:=AA hall;clear hall
  gi_wp2_with fail
  refine⟨trivial,(CallsIn.inRound _ (callsIn_wide.2 (Q8 _ _ hxs))).mono ?_⟩;rintro e w' ⟨rfl,rfl⟩;rw[show (ByteArray.mk x.toArray).data.toList=x from rfl]
  cases hx:EC x
  .gi_wp2
   refine⟨Below.heap_setCell _ _ _ _ (by show W0.heap.size≠w.heap.size;omega),Below.heap_setCell _ _ _ _ (by show W0.heap.size+1≠w.heap.size;omega),VX.setCell _ _ (by show w.heap.size<_;omega),rfl,hB.setCell (p:=⟨w.heap.size,0,none⟩) (Nat.le_refl _) _,hbx.set _,?_⟩;rw[List.all_append,A8 vP];simp[hx]
  .gi_wp2
   refine⟨rfl,rfl,VX.refl _ _,hB,hbx,?_⟩;rw[List.all_append,A8 vP];simp[hx]
 case done=>
  rintro A ⟨hB,hbx,hall⟩ hK;have cx:=hbx.cell;have fx:=hbx.frozen;have vP:=AA hall;clear hall
  gi_wp2
  have hK':(A.setCell ⟨w.heap.size,0,none⟩ (.bool true)).heap[W0.heap.size]?=some (.deferred (some [])):=(Below.heap_setCell _ _ _ _ (by show W0.heap.size≠w.heap.size;omega)).trans hK;have hc:=(MS (l:=W0.heap.size) (.deferred none) (hbx.set (.bool true)) (by omega)).cell;refine⟨by simp,.inl ⟨_,_,rfl,run_takeDeferred hK',?_⟩⟩;refine⟨.bool true,?_,by rw[A8 vP],(hB.setCell (p:=⟨w.heap.size,0,none⟩) (Nat.le_refl _) _).trans (IQ _ _ (by omega))⟩;simp[results,f19,go_sem,hc]
 case stop=>
  rintro c pre A hpre ⟨rfl,hB,hbx,hall⟩ hK;have vP:=AA (VY hpre hall);clear hall
  gi_wp2
  have hc:=(MS (l:=W0.heap.size) (.deferred none) hbx (by omega)).cell;refine⟨by simp,.inl ⟨_,_,rfl,run_takeDeferred hK,?_⟩⟩;refine⟨.bool false,?_,by rw[A8 vP],hB.trans (IQ _ _ (by omega))⟩;simp[results,f19,go_sem,hc]
theorem AN1(l:List UInt8)(w:World)(h0:200<l.length):
  Calls prog 19 #[S0 l] w (R0 w (.bool false)):=by
 have hz:(ByteArray.mk l.toArray).size=l.length:=Lib.size_eq ⟨l.toArray⟩;go_enter func19,ntmps19;go_wp2_with fail;exact bodyPost_ret (v:=.bool false) (by simp[results,f19,go_sem]) rfl ⟨rfl,(Below.refl _ _).alloc (Nat.le_refl _) _⟩
theorem A96(l:List UInt8)(w:World)(h0:l.length<=200)(hp:Lib.hasPrefix l [47]=false):
  Calls prog 19 #[S0 l] w (R0 w (.bool false)):=by
 have hz:(ByteArray.mk l.toArray).size=l.length:=Lib.size_eq ⟨l.toArray⟩;have Hp:=AA hp;clear hp;go_enter func19,ntmps19;go_wp2_with fail;refine(strings_HasPrefix _ _ _).mono ?_;rintro e w' ⟨rfl,rfl⟩;rw[show (ByteArray.mk l.toArray).data.toList=l from rfl,show (ByteArray.mk #[47]).data.toList=[47]from rfl,A8 Hp];go_wp2_with fail;exact bodyPost_ret (v:=.bool false) (by simp[results,f19,go_sem]) rfl ⟨rfl,(Below.refl _ _).alloc (Nat.le_refl _) _⟩
theorem GN(s:ByteArray)(w:World):Calls prog 19 #[.string s] w (R0 w (.bool (DN s.data.toList))):=by
 obtain⟨l,rfl⟩:=BU0 s;show Calls _ _ _ _ fun e w'=>e=.returned (.bool (DN l))/\_;by_cases h0:200<l.length
 .rw[A95 h0];exact AN1 l w h0
 .cases hp:Lib.hasPrefix l [47]
  .rw[vU hp];exact A96 l w (by omega) hp
  .rw[AM9 (by omega) hp];exact AN0 l w (by omega) hp
theorem AN2(h:a=b):Ending.returned (.string a)=.returned (.string b):=by rw[h]
theorem L6(l m:List UInt8):(ByteArray.mk l.toArray)++(ByteArray.mk m.toArray)=⟨(l++m).toArray⟩:=by
 have h:((ByteArray.mk l.toArray)++(ByteArray.mk m.toArray)).data.toList=l++m:=by simp[ByteArray.data_append]
 exact congrArg (fun l:List UInt8=>ByteArray.mk l.toArray) h
theorem IU(h:DN l=true):l.length<=200:=by
 simp only[DN,Bool.and_eq_true,decide_eq_true_eq]at h;exact h.1.1
theorem AN3(h:EC l=true):1<=l.length/\l.length<=40:=by
 simp only[EC,Bool.and_eq_true,decide_eq_true_eq]at h;exact⟨h.1.1,h.1.2⟩
theorem aW(h:a=b)(h':i=j):Ending.returned (.tuple #[.string a,I0 i])=.returned (.tuple #[.string b,I0 j]):=by rw[h,h']
theorem PL(h:m.length<=140737488355328):(ByteArray.mk m.toArray).size<=maxLen:=by
 unfold maxLen;rw[Lib.size_eq];show m.length<=_;omega
theorem OE{a b c:World}(h:B0 a b)(k:B0 b c):B0 a c:=h.trans (k.mono h.size)
theorem jD:∀l:List UInt8,47∈l->∃a b,l=a++47::b/\47∉b
 |[],h=>by simp at h
 |c::l,h=>by
  by_cases hl:47∈l
  .obtain⟨a,b,e,hb⟩:=jD l hl;exact⟨c::a,b,by rw[e];rfl,hb⟩
  .have hc:c=47:=by
    rcases List.mem_cons.1 h with e|e
    .exact e.symm
    .exact absurd e hl
   exact⟨[],l,by rw[hc];rfl,hl⟩
theorem YU:DN [47]=true:=by decide+kernel
theorem TA(s:ByteArray)(w:World)(hs:s.size<=281474976710656):
  Calls prog 72 #[.string s] w (R0 w (.string s)):=by
 go_enter func72,ntmps72;go_wp2_with fail;refine(stringslite_Clone s _ hs).mono ?_;rintro e w1 ⟨rfl,hb1⟩;go_wp2_with fail;go_ret;exact⟨rfl,hb1⟩
def ten(n:Nat):List UInt8:=(List.range 10).map fun t=>Lib.dg n (9-t)
theorem VI(n:Nat)(h:n<=2147483647):Lib.nDigits n<=10:=by
 have aux:∀k u,u<10^(k+1)->Lib.nDigits u<=k+1:=by
  intro k
  induction k with
  |zero=>intro u hu;rw[Lib.nDigits_small (by simpa using hu)];omega
  |succ k ih=>
   intro u hu;by_cases h:u<10
   .rw[Lib.nDigits_small h];omega
   .rw[Lib.nDigits_big h];have:=ih (u/10) (by rw[Nat.pow_succ]at hu;omega);omega
 exact aux 9 n (by omega)
theorem BU3(u p:Nat)(h:u<10^p):Lib.dg u p=48:=by
 unfold Lib.dg;rw[Nat.div_eq_of_lt h];rfl
theorem C96(n:Nat)(h:n<=2147483647):Lib.repeatL [48] (10-(Lib.decDigits n).length)++Lib.decDigits n=ten n:=by
 have hd:=VI n h;have hp:=Lib.nDigits_pos n;have hr:∀c,Lib.repeatL [48] c=List.replicate c 48:=fun c=>by
  have:=Lib.repeatL_replicate 48 1 c;simpa using this
 rw[Lib.decDigits_length,hr,Lib.decDigits_eq]
 apply List.ext_getElem
 .simp[ten];omega
 .intro i h1 h2;have hi:i<10:=by simpa [ten]using h2
  by_cases hc:i<10-Lib.nDigits n
  .rw[List.getElem_append_left (by simpa using hc)];simp only[List.getElem_replicate,ten,List.getElem_map,List.getElem_range];exact(BU3 n (9-i) (Nat.lt_of_lt_of_le (Lib.lt_pow_nDigits n) (Nat.pow_le_pow_right (by decide) (by omega)))).symm
  .rw[List.getElem_append_right (by simp;omega)];simp only[List.length_replicate,ten,List.getElem_map,List.getElem_range]
   congr 1
   omega
theorem AA3(w:World)(k:Nat)(os:Array Obj):B0 w (Sort.grow (w.drewN k) os):=
 ⟨rfl,rfl,rfl,by simp[Sort.grow,World.drewN],fun i hi=>by simp[Sort.grow,World.drewN,Array.getElem?_append_left hi]⟩
theorem aY(h:a=b)(h':i=j):Ending.returned (.tuple #[.string a,I0 i])=.returned (.tuple #[.string b,I0 j]):=by rw[h,h']
theorem CN3(h:a.data.toList=l):a=⟨l.toArray⟩:=by
 rw[<-h]
def AA4(l:List UInt8):ByteArray:=if EC l then⟨l.toArray⟩else⟨#[]⟩
def qB(l:List UInt8):Int:=if EC l then 0 else 2
theorem qC(h:EC l=true):AA4 l=⟨l.toArray⟩:=by rw[AA4,if_pos h]
theorem qE(h:EC l=true):qB l=0:=by rw[qB,if_pos h]
theorem A14(h:EC l=false):AA4 l=⟨#[]⟩:=by rw[AA4,if_neg (by simp[h])]
theorem A15(h:EC l=false):qB l=2:=by rw[qB,if_neg (by simp[h])]
theorem B92(name:ByteArray)(R D:List UInt8):(name++⟨R.toArray⟩++⟨D.toArray⟩:ByteArray).data.toList=name.data.toList++(R++D):=by
 simp[ByteArray.data_append]
theorem B93(name:ByteArray)(R D:List UInt8):(name++⟨R.toArray⟩++⟨D.toArray⟩:ByteArray).size=name.size+R.length+D.length:=by
 rw[ByteArray.size_append,ByteArray.size_append];rfl
theorem AA5(name:ByteArray)(n:Int)(w:World)(hn:n<0\/2147483647<n):
  Calls prog 248 #[.string name,I0 n] w fun e w'=>e=.returned (.tuple #[.string ⟨#[]⟩,I0 3])/\w'=w:=by
 rcases hn with h|h
 .go_enter func248,ntmps248;go_wp2_with fail
  go_ret2
  exact⟨rfl,rfl⟩
 .have h':¬n<0:=by omega
  go_enter func248,ntmps248;go_wp2_with fail
  go_ret2
  exact⟨rfl,rfl⟩
theorem AO5(name:ByteArray)(n:Nat)(w:World)(hn:n<=2147483647)(hs:name.size<=140737488355328)
  (htab:Lib.TabIs prog w "internal/strconv.uint64pow10" .u64 Lib.pow10Tab):
  Calls prog 248 #[.string name,I0 n] w fun e w'=>
   e=.returned (.tuple #[.string (AA4 (name.data.toList++ten n)),I0 (qB (name.data.toList++ten n))])/\B0 w w':=by
 have hd:=VI n hn;have hp:=Lib.nDigits_pos n;have Hten:=AA (C96 n hn);have Hit:=AA (Lib.itoa_nonneg n);have Hlen:=AA (Lib.decDigits_length n);go_enter func248,ntmps248;go_wp2_with fail;refine(strconv_Itoa _ (by omega) (by omega) _ htab).mono ?_;rintro e w1 ⟨rfl,k,os,hw1⟩;have hb1:B0 w w1:=by rw[hw1];exact AA3 w k os
 clear hw1;rw[A8 Hit];generalize hD:Lib.decDigits n=D;have hDl:D.length=Lib.nDigits n:=by rw[<-hD];exact A8 Hlen
 have HD:=AA hD;clear hD;have hD1:1<=D.length:=by omega
 have hD10:D.length<=10:=by omega
 clear hDl hd hp;go_wp2_with fail;rw[show (10-(D.length:Int))=((10-D.length:Nat):Int)from by omega];refine(strings_Repeat _ _ _ (by omega) (by show 1*_<=_;omega)).mono ?_;rintro e w2 ⟨rfl,hb2⟩;generalize hR:Lib.repeatL (ByteArray.mk #[48]).data.toList (10-D.length)=R;have hR':Lib.repeatL [48] (10-D.length)=R:=hR;have hRl:R.length<=10:=by rw[<-hR',Lib.repeatL_length];simp
 have HR:Hid (R++D=ten n):=by
  have h1:=A8 Hten;have h2:=A8 HD;rw[h2,hR']at h1;exact h1
 clear hR hR' Hten HD Hit Hlen;go_wp2_with fail;generalize hX:(name++⟨R.toArray⟩++⟨D.toArray⟩:ByteArray)=X;have HX:Hid (X.data.toList=name.data.toList++ten n):=by
  rw[<-A8 HR,<-hX];exact B92 name R D
 have hXs:X.size<=maxLen:=by
  unfold maxLen;rw[<-hX,B93];omega
 clear hX HR;refine(Q8 X _ hXs).mono ?_;rintro e w3 ⟨rfl,rfl⟩
 cases hnm:EC X.data.toList
 .go_wp2_with fail
  go_ret2
  rw[A8 HX]at hnm;exact⟨aY (A14 hnm).symm (A15 hnm).symm,hb1.trans (hb2.mono hb1.size)⟩
 .go_wp2_with fail
  go_ret2
  rw[A8 HX]at hnm;exact⟨aY ((CN3 (A8 HX)).trans (qC hnm).symm) (qE hnm).symm,hb1.trans (hb2.mono hb1.size)⟩
def BP7(l:List UInt8)(n:Int):ByteArray:=if 0<=n/\n<=2147483647 then AA4 (l++ten n.toNat)else⟨#[]⟩
def jK(l:List UInt8)(n:Int):Int:=if 0<=n/\n<=2147483647 then qB (l++ten n.toNat)else 3
theorem AA6(name:ByteArray)(n:Int)(w:World)(hs:name.size<=140737488355328)(htab:Lib.TabIs prog w "internal/strconv.uint64pow10" .u64 Lib.pow10Tab):
  Calls prog 248 #[.string name,I0 n] w fun e w'=>
   e=.returned (.tuple #[.string (BP7 name.data.toList n),I0 (jK name.data.toList n)])/\B0 w w':=by
 by_cases h:0<=n/\n<=2147483647
 .obtain⟨k,rfl⟩:=Int.eq_ofNat_of_zero_le h.1;refine(AO5 name k w (by omega) hs htab).mono ?_;rintro e w' ⟨rfl,hb⟩;exact⟨aY (by rw[BP7,if_pos h,Int.toNat_natCast]) (by rw[jK,if_pos h,Int.toNat_natCast]),hb⟩
 .refine(AA5 name n w (by omega)).mono ?_;rintro e w' ⟨rfl,rfl⟩;exact⟨aY (by rw[BP7,if_neg h]) (by rw[jK,if_neg h]),Below.refl _ _⟩
theorem BU4{n:Int}(h:jK l n≠0):BP7 l n=⟨#[]⟩:=by
 unfold jK at h;unfold BP7;by_cases h1:0<=n/\n<=2147483647
 .rw[if_pos h1]at h⊢
  cases h2:EC (l++ten n.toNat)
  .exact A14 h2
  .exact absurd (qE h2) h
 .rw[if_neg h1]
theorem AO6{n:Int}(h:jK l n=0):0<=n/\n<=2147483647/\EC (l++ten n.toNat)=true/\BP7 l n=⟨(l++ten n.toNat).toArray⟩:=by
 unfold jK at h;unfold BP7;by_cases h1:0<=n/\n<=2147483647
 .rw[if_pos h1]at h⊢
  cases h2:EC (l++ten n.toNat)
  .rw[A15 h2]at h;exact absurd h (by decide)
  .exact⟨h1.1,h1.2,rfl,qC h2⟩
 .rw[if_neg h1]at h;exact absurd h (by decide)
theorem gPow:prog.globalNamed "internal/strconv.uint64pow10" =some 3:=by kernel_rfl
theorem C97(htab:Lib.TabIs prog w "internal/strconv.uint64pow10" .u64 Lib.pow10Tab):3<w.heap.size:=by
 have hc:=htab.cell gPow 0 (by decide);unfold World.cell? at hc
 cases ho:w.heap[3]? with
 |none=>simp[ho]at hc
 |some o=>exact(Array.getElem?_eq_some_iff.1 ho).1
theorem A16{w':World}(htab:Lib.TabIs prog w "internal/strconv.uint64pow10" .u64 Lib.pow10Tab)(hb:B0 w w'):Lib.TabIs prog w' "internal/strconv.uint64pow10" .u64 Lib.pow10Tab:=
 var?_below hb gPow (C97 htab) htab
def XK(l:List UInt8):List UInt8:=if l=[47]then [47]else l++[47]
theorem AA7:XK [47]=[47]:=by rw[XK,if_pos rfl]
theorem wB(h:l≠[47]):XK l=l++[47]:=by rw[XK,if_neg h]
theorem qF(l:List UInt8):(XK l).length<=l.length+1:=by
 unfold XK
 split
 .simp
 .simp
theorem dK(l:List UInt8)(w:World)(hl:l.length<=140737488355328):
  Calls prog 262 #[S0 l] w fun e w'=>e=.returned (S0 (XK l))/\w'=w:=by
 have hz:(ByteArray.mk l.toArray).size=l.length:=Lib.size_eq ⟨l.toArray⟩;by_cases h:l=[47]
 .subst h;go_enter func262,ntmps262
  go_wp2
  go_ret;exact⟨AN2 (by rw[AA7]),rfl⟩
 .have h1:(l==[47])=false:=by simpa using h
  have Ho:=AA (wB h);clear h;go_enter func262,ntmps262
  go_wp2
  go_ret;exact⟨AN2 (by rw[A8 Ho];exact L6 l [47]),rfl⟩
def iL(d m:List UInt8):List UInt8:=if DN d&&EC m then(if(XK d++m).length<=200 then XK d++m else [])else []
def YV(d m:List UInt8):Int:=if DN d&&EC m then(if(XK d++m).length<=200 then 0 else 1)else 2
theorem A17(h:(DN d&&EC m)=false):iL d m=[]/\YV d m=2:=by
 unfold iL YV;rw[h];exact⟨rfl,rfl⟩
theorem AO7(h:(DN d&&EC m)=true)(h1:200<(XK d++m).length):iL d m=[]/\YV d m=1:=by
 unfold iL YV;rw[if_pos h,if_pos h,if_neg (by omega),if_neg (by omega)];exact⟨rfl,rfl⟩
theorem AO8(h:(DN d&&EC m)=true)(h1:(XK d++m).length<=200):iL d m=XK d++m/\YV d m=0:=by
 unfold iL YV;rw[if_pos h,if_pos h,if_pos h1,if_pos h1];exact⟨rfl,rfl⟩
theorem B94(d m:List UInt8)(w:World)(hm:m.length<=140737488355328):
  Calls prog 249 #[S0 d,S0 m] w (R0 w (.tuple #[S0 (iL d m),I0 (YV d m)])):=by
 cases hd:DN d
 .obtain⟨h1,h2⟩:=A17 (d:=d) (m:=m) (by rw[hd];rfl);have H1:=AA h1;have H2:=AA h2;have Hd:=AA hd;clear h1 h2 hd;go_enter func249,ntmps249;go_wp2_with fail;refine(GN _ _).mono ?_;rintro e w1 ⟨rfl,hb1⟩;rw[show (ByteArray.mk d.toArray).data.toList=d from rfl,A8 Hd];go_wp2_with fail
  go_ret2
  exact⟨aW (by rw[A8 H1]) (A8 H2).symm,hb1⟩
 cases hn:EC m
 .obtain⟨h1,h2⟩:=A17 (d:=d) (m:=m) (by rw[hn,Bool.and_false]);have H1:=AA h1;have H2:=AA h2;have Hd:=AA hd;have Hn:=AA hn;clear h1 h2 hd hn;go_enter func249,ntmps249;go_wp2_with fail;refine(GN _ _).mono ?_;rintro e w1 ⟨rfl,hb1⟩;rw[show (ByteArray.mk d.toArray).data.toList=d from rfl,A8 Hd];go_wp2_with fail;refine(Q8 _ _ (PL hm)).mono ?_;rintro e w2 ⟨rfl,rfl⟩;rw[show (ByteArray.mk m.toArray).data.toList=m from rfl,A8 Hn];go_wp2_with fail
  go_ret2
  exact⟨aW (by rw[A8 H1]) (A8 H2).symm,hb1⟩
 have hdl:=IU hd;have hml:=AN3 hn;have hol:=qF d;have hdn:(DN d&&EC m)=true:=by rw[hd,hn];rfl
 have Hd:=AA hd;have Hn:=AA hn;clear hd hn;generalize hO:XK d=O at hol;have HO:=AA hO;clear hO;have hz:((ByteArray.mk O.toArray)++(ByteArray.mk m.toArray)).size=O.length+m.length:=by rw[L6,Lib.size_eq];show (O++m).length=_;simp
 by_cases hf:O.length+m.length<=200
 .obtain⟨h1,h2⟩:=AO8 hdn (by rw[A8 HO];simpa using hf);have H1:=AA h1;have H2:=AA h2;clear h1 h2 hdn;go_enter func249,ntmps249;go_wp2_with fail;refine(GN _ _).mono ?_;rintro e w1 ⟨rfl,hb1⟩;rw[show (ByteArray.mk d.toArray).data.toList=d from rfl,A8 Hd];go_wp2_with fail;refine(Q8 _ _ (PL hm)).mono ?_;rintro e w2 ⟨rfl,rfl⟩;rw[show (ByteArray.mk m.toArray).data.toList=m from rfl,A8 Hn];go_wp2_with fail;refine(dK _ _ (by omega)).mono ?_;rintro e w3 ⟨rfl,rfl⟩;rw[A8 HO];go_wp2_with fail
  go_ret2
  exact⟨aW (by rw[A8 H1,A8 HO];exact L6 O m) (A8 H2).symm,hb1⟩
 .obtain⟨h1,h2⟩:=AO7 hdn (by rw[A8 HO];simp;omega);have H1:=AA h1;have H2:=AA h2;clear h1 h2 hdn;go_enter func249,ntmps249;go_wp2_with fail;refine(GN _ _).mono ?_;rintro e w1 ⟨rfl,hb1⟩;rw[show (ByteArray.mk d.toArray).data.toList=d from rfl,A8 Hd];go_wp2_with fail;refine(Q8 _ _ (PL hm)).mono ?_;rintro e w2 ⟨rfl,rfl⟩;rw[show (ByteArray.mk m.toArray).data.toList=m from rfl,A8 Hn];go_wp2_with fail;refine(dK _ _ (by omega)).mono ?_;rintro e w3 ⟨rfl,rfl⟩;rw[A8 HO];go_wp2_with fail
  go_ret2
  exact⟨aW (by rw[A8 H1]) (A8 H2).symm,hb1⟩
theorem qG(a b:List UInt8)(hb:47∉b):Lib.lastIndexByte ⟨(a++47::b).toArray⟩ 47=a.length:=by
 have hat:∀j,j<(a++47::b).length->((ByteArray.mk (a++47::b).toArray).data[j]!)=(a++47::b)[j]! :=fun j hj=>by simp
 rcases Lib.lastIndexByte_spec ⟨(a++47::b).toArray⟩ 47 with⟨_,h⟩|⟨i,hi,e,hc,hn⟩
 .exact absurd (by simp) (h a.length (by show a.length<(a++47::b).toArray.size;simp))
 .rw[e];have hi':i<(a++47::b).length:=by
   have:i<(a++47::b).toArray.size:=hi;simpa using this
  have h1:a.length<=i:=by
   apply Nat.le_of_not_lt
   intro hlt;exact hn a.length hlt (by show a.length<(a++47::b).toArray.size;simp) (by simp)
  by_cases h2:i=a.length
  .rw[h2]
  .exfalso
   apply hb
   have hlt:i-a.length-1<b.length:=by simp at hi';omega
   have hb':(a++47::b)[i]! =b[i-a.length-1]! :=by
    rw[List.getElem!_eq_getElem?_getD,List.getElem!_eq_getElem?_getD,List.getElem?_append_right h1];obtain⟨k,hk⟩:∃k,i-a.length=k+1:=⟨i-a.length-1,by omega⟩;rw[hk];simp
   rw[hat i hi',hb']at hc;have hm:b[i-a.length-1]! ∈b:=by
    rw[List.getElem!_eq_getElem?_getD,List.getElem?_eq_getElem hlt];simp
   have:b[i-a.length-1]! =47:=by
    apply UInt8.toNat_inj.1
    show _=47;omega
   rwa[this]at hm
theorem AO9(a b:List UInt8):(ByteArray.mk (a++47::b).toArray).extract 0 a.length=⟨a.toArray⟩:=by
 rw[pR];simp
theorem B95(a b:List UInt8):(ByteArray.mk (a++47::b).toArray).extract (a.length+1) (a.length+b.length+1)=⟨b.toArray⟩:=by
 have:=A07 (a++47::b) (a.length+1);rw[show (a++47::b).length=a.length+b.length+1 from by simp;omega]at this;rw[this];have e:(a++47::b).drop (a.length+1)=b:=by rw[<-List.drop_drop];simp
 rw[e]
def C98(a:List UInt8):List UInt8:=if a=[]then [47]else a
theorem B96:C98 []=[47]:=by rw[C98,if_pos rfl]
theorem AA8{a:List UInt8}(h:a≠[]):C98 a=a:=by rw[C98,if_neg h]
theorem qH{c d:ByteArray}(h:a=b)(h1:c=d)(h':i=j):Ending.returned (.tuple #[.string a,.string c,I0 i])=.returned (.tuple #[.string b,.string d,I0 j]):=by rw[h,h1,h']
theorem AA9(a b:List UInt8)(w:World)(hb:47∉b)(hg:DN (a++47::b)=true)(hne:a++47::b≠[47]):
  Calls prog 62 #[S0 (a++47::b)] w fun e w'=>
   e=.returned (.tuple #[S0 (C98 a),S0 b,I0 0])/\B0 w w':=by
 have hl:a.length+b.length+1<=200:=by have:=IU hg;simp at this;omega
 have hne1:(a++47::b==[47])=false:=by simpa using hne
 have Hg:=AA hg;have Hi:=AA (qG a b hb);clear hg hne hb;have hz:(ByteArray.mk (a++47::b).toArray).size=a.length+b.length+1:=by rw[Lib.size_eq];show (a++47::b).length=_;simp;omega
 have Hc1:=AA (AO9 a b);have Hc2:=AA (B95 a b);generalize a++47::b=l at*;go_enter func62,ntmps62;go_wp2_with fail;refine(GN _ _).mono ?_;rintro e w1 ⟨rfl,hb1⟩;rw[show (ByteArray.mk l.toArray).data.toList=l from rfl,A8 Hg];go_wp2_with fail;refine(strings_LastIndexByte _ _ (by omega) _).mono ?_;rintro e w2 ⟨rfl,rfl⟩;rw[A8 Hi];go_wp2_with fail;have cA:∀d os,Calls prog 72 #[.string ((ByteArray.mk l.toArray).extract 0 a.length)] (Sort.grow (redrawn w2 d) os) fun e w''=>e=.returned (S0 a)/\∃p:Regrown,w''=Sort.grow (redrawn w2 p.d) p.os:=
  fun d os=>Calls.regrown_of (by rw[A8 Hc1];exact TA _ _ (by rw[Lib.size_eq];show a.length<=_;omega))
 have cB:∀d os,Calls prog 72 #[.string ((ByteArray.mk l.toArray).extract (a.length+1) (a.length+b.length+1))] (Sort.grow (redrawn w2 d) os) fun e w''=>e=.returned (S0 b)/\∃p:Regrown,w''=Sort.grow (redrawn w2 p.d) p.os:=
  fun d os=>Calls.regrown_of (by rw[A8 Hc2];exact TA _ _ (by rw[Lib.size_eq];show b.length<=_;omega))
 have n1:(a.length:Int)<=a.length+b.length+1:=by omega
 have n2:(a.length:Int)<=a.length+b.length:=by omega
 have n3:IntKind.i64.wrap ((a.length:Int)+1)=(a.length:Int)+1:=by rw[IntKind.wrap_i64];omega
 have n4:(0:Int)<=(a.length:Int)+1:=by omega
 refine wp_region_quiet_below (by kernel_rfl) (by kernel_rfl) ?_
 repeat (quiet_step (first|exact cA _ _|exact cB _ _))
 refine wpQuiet_nil ?_;intro _ hw';obtain⟨⟨dq,osq⟩,hw''⟩:=hw';subst hw'';clear cA cB;have hb2:B0 w (Sort.grow (redrawn w2 dq) osq):=OE hb1 (below_regrown w2 dq osq)
 cases he:a.isEmpty
 .go_wp2
  go_ret3
  exact⟨qH (by rw[AA8 (by rintro rfl;simp at he)]) rfl rfl,hb2⟩
 .obtain rfl:a=[]:=by simpa using he
  go_wp2
  go_ret3
  exact⟨qH (by rw[B96]) rfl rfl,hb2⟩
theorem AP0(l:List UInt8)(w:World)(hg:DN l=false):
  Calls prog 62 #[S0 l] w (R0 w (.tuple #[.string ⟨#[]⟩,.string ⟨#[]⟩,I0 2])):=by
 have Hg:=AA hg;clear hg;go_enter func62,ntmps62;go_wp2_with fail;refine(GN _ _).mono ?_;rintro e w1 ⟨rfl,hb1⟩;rw[show (ByteArray.mk l.toArray).data.toList=l from rfl,A8 Hg];go_wp2_with fail
 go_ret3
 exact⟨rfl,hb1⟩
theorem AB0(w:World):
  Calls prog 62 #[.string ⟨#[47]⟩] w (R0 w (.tuple #[.string ⟨#[]⟩,.string ⟨#[]⟩,I0 7])):=by
 go_enter func62,ntmps62;go_wp2_with fail;refine(GN _ _).mono ?_;rintro e w1 ⟨rfl,hb1⟩;rw[show (ByteArray.mk #[47]).data.toList=[47]from rfl,YU];go_wp2_with fail
 go_ret3
 exact⟨rfl,hb1⟩
