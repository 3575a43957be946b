/-
  Part.
-/
import Derived.RangeFuncNested
import Derived.RangeFuncBound
import Derived.Test.YthcncjimjclfpaaGreatDoorRows
import Derived.Test.YthcncjimjclfpaaGreatDoorLSA
import Derived.WalkSpells
import Derived.WalkLawsBesides
import Derived.Test.YthcncjimjclfpaaGreatDoorShelf
set_option maxRecDepth 20000
set_option maxHeartbeats 8000000
namespace Go.Proofs.YthcncjimjclfpaaGreatDoor
open Go.RowKit Go.Proofs.Tryz
open _root_.Nat renaming le_refl->A8,lt_of_lt_of_le->AX
open Go.RowKit.Below renaming refl->AA,heap_setCell->BF
open _root_.Array renaming getElem?_eq_some_iff->AB
open _root_.ByteArray renaming mk->AQ
open _root_.List renaming length_cons->BG,length_nil->ES
open _root_.Bool renaming and_eq_true->BZ
open Go.Lib renaming size_eq->DK,decDigits->EJ
open Go.Ending renaming returned->DV
open Go.World renaming size_alloc->FP
open Go.Obj renaming cells->FT
open Go renaming World->FU,Value->FV,Calls->FW
open _root_.Option renaming none->FX,some->FZ
variable{n1:Nat}{l m d:List UInt8}{a b:ByteArray}{w:FU}{t:TypeId}{i j:Int}
structure ZJ(n1:Nat)(W W':FU):Prop where
 size:W.heap.size<=W'.heap.size
 block:∀k,n1<=k->k<W.heap.size->W'.heap[k]?=W.heap[k]?
theorem ZJ.refl(n1:Nat)(W:FU):ZJ n1 W W:=⟨A8 _,fun _ _ _=>rfl⟩
theorem ZJ.trans{A B C:FU}(h:ZJ n1 A B)(k:ZJ n1 B C):ZJ n1 A C:=
 ⟨Nat.le_trans h.size k.size,fun i hi hl=>(k.block i hi (AX hl h.size)).trans (h.block i hi hl)⟩
theorem ZJ.putObj{l:Nat}(W:FU)(o:Obj)(h:l<n1):ZJ n1 W (W.putObj l o):=
 ⟨by simp,fun k hk _=>World.putObj_heap_other (by omega)⟩
theorem ZJ.setCell(W:FU){p:Addr}(v:FV)(h:p.block<n1):ZJ n1 W (W.setCell p v):=
 ⟨(KeepsWalks.setCell W p v).size,fun k hk _=>BF W p v k (by omega)⟩
def CR7{α:Type}(F:Fence)(n:Nat)(P:Program)(g:Nat)(lb:Array FV)(encs:α->Array FV)(St Kp:FU->FU->Prop)(xs:List α)(W:FU):Prop:=
 ∀ (l:Nat) (J Jx:List α->FU->Prop),(∀s A B,J s A->St A B->J s B)->(∀s A B,Jx s A->St A B->Jx s B)->
  (∀pre x W1,J pre W1->pre++[x]<+:xs->YieldAt F (n-1) P l (encs x) W1 fun e W'=>
   (e=.returned (.bool true)/\J (pre++[x]) W'/\Kp W1 W')\/(e=.returned (.bool false)/\Jx (pre++[x]) W'/\Kp W1 W'))->
  J [] W->
  CallsIn F n P g (#[.func (.yield l) #[] #[]]++lb) W fun e W'=>(∃v,e=.returned v)/\(J xs W'\/∃pre,pre<+:xs/\Jx pre W')
def CT8{α:Type}(D l:Nat)(Kp:FU->FU->Prop)(I:List α->FU->Prop)(Ix:Code->List α->FU->Prop)(xs:List α)(W:FU):Exit->Act->FU->Prop
 | .normal,_,W'=>W'.heap[D]?=W.heap[D]? /\W'.heap[l]?=W.heap[l]? /\Kp W W'/\I xs W'
 | .ret,_,W'=>W'.heap[D]?=W.heap[D]? /\W'.heap[l]?=W.heap[l]? /\Kp W W'/\Ix .ret xs W'
 | .exit id,_,W'=>W'.heap[D]?=W.heap[D]? /\W'.heap[l]?=W.heap[l]? /\Kp W W'/\Ix (.exit id) xs W'
 | .goto t,_,W'=>W'.heap[D]?=W.heap[D]? /\W'.heap[l]?=W.heap[l]? /\Kp W W'/\Ix (.goto t) xs W'
 | .panic _,_,_=>False
 | .outgrown,_,_=>False
variable {F:Fence} {n:Nat} {P:Program}
theorem VY{α:Type}{g:Operand}{ps:Array Tmp}{assign body:Code}{Q:Exit->Act->FU->Prop}{a:Act}{w:FU}
  (hro:F.round=FX) (h1:1<=n) {gf:Nat} {lb:Array FV} (hg:a.eval g=.func (.func gf) #[] lb) (hFg:F.fn gf) (eg:∀args w,(callFunc gf args).run P w=.ok (.enter gf args) w)
  {encs:α->Array FV} {St Kp:FU->FU->Prop} {xs:List α}
  (hseq:∀o1 o2,CR7 F (n-1) P gf lb encs St Kp xs ((w.alloc o1).alloc o2))
  (hSt:∀A B k,St A B->k=w.heap.size\/k=w.heap.size+1->k<A.heap.size->B.heap[k]?=A.heap[k]?)
  (hKt:∀A B C,Kp A B->Kp B C->Kp A C) (hKb:∀W o,Kp W (W.putObj (w.heap.size+1) o)) (hps:∀x,(encs x).size=ps.size)
  (I:List α->FU->Prop) (Ix:Code->List α->FU->Prop) (hI:∀s A B,I s A->St A B->I s B) (hIx:∀c s A B,Ix c s A->St A B->Ix c s B)
  (hIp:∀s A o,I s A->I s (A.putObj (w.heap.size+1) o)) (CR8:∀c s A o,Ix c s A->Ix c s (A.putObj (w.heap.size+1) o))
  (h0:∀o1 o2,I [] ((w.alloc o1).alloc o2)) (a₁:α->Act)
  (hassign:∀ (x:α) (W:FU) (K:Act->FU->Prop),K (a₁ x) W->
   assign.wpIn (F.inRound (w.heap.size+1)) (n-1-1) P (Exit.then K (fun _ _ _=>False)) {tmps:=(ps.zip (encs x)).foldl (fun t (p,v)=>t.setIfInBounds p v) a.tmps,defers:=[]} W)
  (hbody:∀ (pre:List α) (x:α) (W:FU),I pre W->pre++[x]<+:xs->w.heap.size+1<W.heap.size->
   body.wpIn (F.inRound (w.heap.size+1)) (n-1-1) P (CT8 w.heap.size (w.heap.size+1) Kp I Ix (pre++[x]) W) (a₁ x) W)
  (hdone:∀ (W:FU),I xs W->W.heap[w.heap.size]?=FZ (.deferred (FZ []))->Q .normal {a with defers:={target:=.collected w.heap.size,args:=#[]}::a.defers} W)
  (hstop:∀ (c:Code) (pre:List α) (W:FU),pre<+:xs->Ix c pre W->W.heap[w.heap.size]?=FZ (.deferred (FZ []))->c.wpIn F n P Q {a with defers:={target:=.collected w.heap.size,args:=#[]}::a.defers} W):
  (Code.rangeFunc g ps assign body).wpIn F n P Q a w:=by
 refine wpIn_rangeFunc ?_;intro fn hfn;rw[hro];obtain⟨rec,hrec⟩:∃rec:LoopState->Option Code->Loop,rec=fun st pe=>{state:=st,pending:=pe,fn,tmps:=a.tmps,params:=ps,assign,body,defers:=w.heap.size}:=⟨_,rfl⟩;obtain⟨W1,hW1⟩:∃W1,(w.alloc (.deferred (FZ []))).alloc (.loop (rec .ready FX))=W1:=⟨_,rfl⟩;have hL1:W1.heap[w.heap.size+1]?=FZ (.loop (rec .ready FX)):=by
  rw[<-hW1];have:=World.alloc_heap_new (w.alloc (.deferred (FZ []))) (.loop (rec .ready FX));rwa[FP]at this
 have hK1:W1.heap[w.heap.size]?=FZ (.deferred (FZ [])):=by
  rw[<-hW1];exact(Below.heap_alloc _ _ _ (by simp)).trans (World.alloc_heap_new w _)
 have hI1:I [] W1:=by rw[<-hW1];exact h0 _ _
 have hS1:CR7 F (n-1) P gf lb encs St Kp xs W1:=by rw[<-hW1];exact hseq _ _
 refine⟨w.heap.size+1,[{target:=.collected w.heap.size,args:=#[]}],W1,{target:=.fn (.func gf) lb,args:=#[.func (.yield (w.heap.size+1)) #[] #[]]},W1,gf,
  #[.func (.yield (w.heap.size+1)) #[] #[]]++lb,W1,?_,?_,?_,?_,fun _=>h1,?_⟩
 .rw[<-hW1,hrec];exact run_enterLoop_outer _ _ _ _ _
 .simp only[resolve,hg];simp[go_sem]
 .intro f' hf';simp[Target.leads]at hf';subst hf';exact hFg
 .simp[invoke,go_sem,eg]
 .refine(hS1 (w.heap.size+1)
   (fun pre W=>I pre W/\W.heap[w.heap.size+1]?=FZ (.loop (rec .ready FX))/\W.heap[w.heap.size]?=FZ (.deferred (FZ [])))
   (fun pre W=>∃c,Ix c pre W/\W.heap[w.heap.size+1]?=FZ (.loop (rec .done (FZ c)))/\W.heap[w.heap.size]?=FZ (.deferred (FZ [])))
   (fun s A B hs hg'=>⟨hI s A B hs.1 hg',(hSt A B _ hg' (.inr rfl) (AB.1 hs.2.1).1).trans hs.2.1,(hSt A B _ hg' (.inl rfl) (AB.1 hs.2.2).1).trans hs.2.2⟩)
   (fun s A B hs hg'=>by
    obtain⟨c,hc,hl,hk⟩:=hs;exact⟨c,hIx c s A B hc hg',(hSt A B _ hg' (.inr rfl) (AB.1 hl).1).trans hl,(hSt A B _ hg' (.inl rfl) (AB.1 hk).1).trans hk⟩)
   ?_ ⟨hI1,hL1,hK1⟩).mono ?_
  .rintro pre x W ⟨hi,hl,hk⟩ hlen;have hlt:w.heap.size+1<W.heap.size:=(AB.1 hl).1;have hy:=run_yield (P:=P) (args:=encs x) hl (by rw[hrec];exact hps x);rw[hrec]at hy;refine⟨fn,_,assign,body,hy,roundIn_of_wpIn hfn (hassign x W _ ⟨_,run_beginRound hl (by rw[hrec]),?_⟩)⟩;have hl2:(W.putObj (w.heap.size+1) (.loop {rec .ready FX with state:=.busy})).heap[w.heap.size+1]?=FZ (.loop {rec .ready FX with state:=.busy}):=World.putObj_heap_same hlt;have hk2:(W.putObj (w.heap.size+1) (.loop {rec .ready FX with state:=.busy})).heap[w.heap.size]?=FZ (.deferred (FZ [])):=(World.putObj_heap_other (by omega)).trans hk;have hw2:Kp W (W.putObj (w.heap.size+1) (.loop {rec .ready FX with state:=.busy})):=hKb _ _;refine wpIn_mono (hbody pre x _ (hIp _ _ _ hi) hlen (by simpa using hlt)) ?_;have fin:∀ (jump:Option Code) (W3:FU),W3.heap[w.heap.size]?=FZ (.deferred (FZ []))->W3.heap[w.heap.size+1]?=FZ (.loop {rec .ready FX with state:=.busy})->
     (Instr.endRound (w.heap.size+1) jump).run P W3=.ok (.bool jump.isNone) (W3.putObj (w.heap.size+1) (.loop (rec (if jump.isNone then .ready else .done) jump)))/\
     (W3.putObj (w.heap.size+1) (.loop (rec (if jump.isNone then .ready else .done) jump))).heap[w.heap.size+1]?=FZ (.loop (rec (if jump.isNone then .ready else .done) jump))/\
     (W3.putObj (w.heap.size+1) (.loop (rec (if jump.isNone then .ready else .done) jump))).heap[w.heap.size]?=FZ (.deferred (FZ [])):=fun jump W3 hk3 hl3=>by
    have:=run_endRound (P:=P) jump hl3;rw[hrec]at this⊢;exact⟨this,World.putObj_heap_same (AB.1 hl3).1,(World.putObj_heap_other (by omega)).trans hk3⟩
   rintro e a3 W3 hp
   cases e with
   |normal=>
    obtain⟨hD3,hl3,hkp3,hi3⟩:=hp;obtain⟨hr,hl4,hk4⟩:=fin FX W3 (hD3.trans hk2) (hl3.trans hl2);exact⟨_,_,hr,.inl ⟨rfl,⟨hIp _ _ _ hi3,hl4,hk4⟩,hKt _ _ _ (hKt _ _ _ hw2 hkp3) (hKb _ _)⟩⟩
   |ret=>
    obtain⟨hD3,hl3,hkp3,hi3⟩:=hp;obtain⟨hr,hl4,hk4⟩:=fin (FZ .ret) W3 (hD3.trans hk2) (hl3.trans hl2);exact⟨_,_,hr,.inr ⟨rfl,⟨.ret,CR8 _ _ _ _ hi3,hl4,hk4⟩,hKt _ _ _ (hKt _ _ _ hw2 hkp3) (hKb _ _)⟩⟩
   |exit id=>
    obtain⟨hD3,hl3,hkp3,hi3⟩:=hp;obtain⟨hr,hl4,hk4⟩:=fin (FZ (.exit id)) W3 (hD3.trans hk2) (hl3.trans hl2);exact⟨_,_,hr,.inr ⟨rfl,⟨.exit id,CR8 _ _ _ _ hi3,hl4,hk4⟩,hKt _ _ _ (hKt _ _ _ hw2 hkp3) (hKb _ _)⟩⟩
   |goto t=>
    obtain⟨hD3,hl3,hkp3,hi3⟩:=hp;obtain⟨hr,hl4,hk4⟩:=fin (FZ (.goto t)) W3 (hD3.trans hk2) (hl3.trans hl2);exact⟨_,_,hr,.inr ⟨rfl,⟨.goto t,CR8 _ _ _ _ hi3,hl4,hk4⟩,hKt _ _ _ (hKt _ _ _ hw2 hkp3) (hKb _ _)⟩⟩
   |panic ch=>exact hp.elim
   |outgrown=>exact hp.elim
  .rintro e W2 ⟨⟨v,rfl⟩,(⟨hi,hl,hk⟩|⟨pre,hSp,c,hi,hl,hk⟩)⟩
   .exact⟨FX,_,by have:=run_endLoop (P:=P) hl (by rw[hrec];simp);rw[hrec]at this;exact this,hdone _ (hIp _ _ _ hi) ((World.putObj_heap_other (by omega)).trans hk)⟩
   .exact⟨FZ c,_,by have:=run_endLoop (P:=P) hl (by rw[hrec];simp);rw[hrec]at this;exact this,hstop c pre _ hSp (CR8 _ _ _ _ hi) ((World.putObj_heap_other (by omega)).trans hk)⟩
theorem RN{a b:Bool}(h:a=b):DV (.bool a)=.returned (.bool b):=by rw[h]
theorem nU(c:UInt8)(w:FU):
  FW prog 112 #[.int .u8 c.toNat] w fun e w'=>e=.returned (.bool (TU c))/\w'=w:=by
 have hc:=c.toNat_lt;go_enter func112,ntmps112
 go_wp2
 all_goals go_ret
 all_goals exact⟨RN (by rw[Bool.eq_iff_iff];simp[TU];try omega),rfl⟩
theorem U6(s:ByteArray)(w:FU)(hs:s.size<=maxLen):
  FW prog 78 #[.string s] w fun e w'=>e=.returned (.bool (IZ s.data.toList))/\w'=w:=by
 unfold maxLen at hs;by_cases h1:s.size<1
 .go_enter func78,ntmps78
  go_wp2
  go_ret;exact⟨RN (uN s h1).symm,rfl⟩
 by_cases h2:40<s.size
 .go_enter func78,ntmps78
  go_wp2
  go_ret;exact⟨RN (zO s h2).symm,rfl⟩
 go_enter func78,ntmps78
 go_wp2
 go_loop [14] (fun i=>∃k:Nat,k<=s.size/\i=I0 k/\(s.data.toList.take k).all TU=true) (fun i=>s.size-(intOf i).toNat)
 case atStart=>exact⟨0,Nat.zero_le _,rfl,by simp⟩
 case round=>
  obtain⟨k,hk,rfl,hall⟩:=hrel;have zX:=G6 hall;clear hall;by_cases hlt:k<s.size
  .by_cases hl:TU s[k]=true
   .go_wp2_with (go_at_call 112;refine(nU _ _).mono ?_;rintro e w' ⟨rfl,rfl⟩)
    go_round
    case rel=>exact⟨k+1,by omega,by go_num,V5 s k hlt TU (G5 zX) hl⟩
    case measure=>simp[intOf];omega
   .have hl':TU s[k]=false:=by simpa using hl
    clear hl;go_wp2_with (go_at_call 112;refine(nU _ _).mono ?_;rintro e w' ⟨rfl,rfl⟩);go_ret;exact⟨RN ((nP s (by omega) (by omega)).trans (dO s k hlt TU hl')).symm,rfl⟩
  .go_wp2
   go_ret;exact⟨RN ((nP s (by omega) (by omega)).trans (ZH s k (by omega) TU (G5 zX))).symm,rfl⟩
open Go.Shelf
attribute [local go_sem] Oper.semAt_some
def C22(w:FU)(b:Nat):Nat:=match w.cell? ⟨b,0,FX⟩with
 |some (.string s)=>s.size
 |_=>0
theorem A92{b:Nat}{s:ByteArray}(h:Boxed w b t (.string s)):C22 w b=s.size:=by
 simp[C22,h.cell]
theorem Boxed.of_heap{W W':FU}{B:Nat}{v:FV}(h:Boxed W B t v)(e:W'.heap[B]?=W.heap[B]?):Boxed W' B t v:=e.trans h
theorem uY(r:List UInt8)(i:Nat):(AQ r.toArray).extract 0 i=⟨(r.take i).toArray⟩:=by
 have:=Lib.extract_data ⟨r.toArray⟩ 0 i;rw[List.drop_zero,Nat.sub_zero]at this;exact congrArg (fun l:List UInt8=>AQ l.toArray) this
theorem A93(r:List UInt8)(i:Nat):(AQ r.toArray).extract i r.length=⟨(r.drop i).toArray⟩:=by
 have:=Lib.extract_data ⟨r.toArray⟩ i r.length;rw[List.take_of_length_le (by simp)]at this;exact congrArg (fun l:List UInt8=>AQ l.toArray) this
theorem U7(n:Nat):Fence.wide.depth.isSome=true->1<=n:=fun h=>by cases h
theorem mQ(n C23 Bs Bv:Nat)(s:List UInt8)(W:FU)(h1:Bs≠C23)(h2:Bs≠Bv)(hlen:s.length<=1000000)
  (b1:Boxed W C23 9 (.string ⟨#[47]⟩)) (b2:Boxed W Bs 9 (.string ⟨s.toArray⟩)) (b3:Boxed W Bv 3 (.int .i64 0)):
  CR7 Fence.wide n prog 256 #[.pointer (FZ ⟨C23,0,FX⟩),.pointer (FZ ⟨Bs,0,FX⟩),.pointer (FZ ⟨Bv,0,FX⟩)] (fun x:List UInt8=>#[.string ⟨x.toArray⟩])
   (fun A B=>∃v,B=A.setCell ⟨Bs,0,FX⟩ v) (fun A B=>∀k,k=C23\/k=Bs\/k=Bv->B.heap[k]?=A.heap[k]?) (KL s) W:=by
 intro l J Jx hJ hJx hY h0;refine callsIn_of_wp func256 rfl trivial ?_ rfl;simp only[ntmps256,List.size_toArray,BG,ES,Nat.reduceAdd,Nat.reduceSub,Array.replicate_succ,Array.replicate_zero,List.push_toArray,List.append_toArray,List.nil_append,List.cons_append];have c1:=b1.cell;have HY:=G6 hY;have HJ:=G6 hJ;have HJx:=G6 hJx;clear hY hJ hJx
 gi_wp2
 clear c1
 gi_loopw [7] (fun _ wr=>∃ (pre:List (List UInt8)) (r:List UInt8),KL s=pre++KL r/\r.length<=1000000/\Boxed wr C23 9 (.string ⟨#[47]⟩)/\Boxed wr Bs 9 (.string ⟨r.toArray⟩)/\Boxed wr Bv 3 (.int .i64 0)/\J pre wr)
  (fun _ wr=>C22 wr Bs)
 case atStart=>exact⟨[],s,rfl,hlen,b1,b2,b3,h0⟩
 case round=>
  clear b1 b2 b3 h0 hlen;obtain⟨pre,r,hpre,hlen,b1,b2,b3,hJs⟩:=hrel;have CF4:=G6 hpre;clear hpre;have c1:=b1.cell;have c2:=b2.cell;have c3:=b3.cell;have f2:=b2.frozen;have hz:(AQ r.toArray).size=r.length:=DK ⟨r.toArray⟩;rcases jC r with hi|⟨i,hi⟩
  .have Hs:=G6 (jA r hi);have Hi:=G6 hi;clear hi;obtain⟨fn,tmps,assign,body,hy,hR⟩:=G5 HY pre r wr hJs (by rw[G5 CF4,G5 Hs];exact List.prefix_refl _)
   gi_wp2_with fail
   refine⟨trivial,U7 _,(callsIn_wide.2 (strings_Index_one _ _ _)).mono ?_⟩;rintro e w' ⟨rfl,rfl⟩;rw[show (AQ r.toArray).data.toList=r from rfl,G5 Hi]
   gi_wp2
   refine⟨U7 _,hR.mono ?_⟩;rintro e W3 (⟨rfl,hJ3,_⟩|⟨rfl,hJx3,_⟩)
   .gi_wp2
    go_end0
    exact⟨⟨_,rfl⟩,.inl (by rw[G5 CF4,G5 Hs];exact hJ3)⟩
   .gi_wp2
    go_end0
    exact⟨⟨_,rfl⟩,.inr ⟨_,by rw[G5 CF4,G5 Hs];exact List.prefix_refl _,hJx3⟩⟩
  .obtain⟨hil,hsp⟩:=jB r i hi;have Hs:=G6 hsp;have Hi:=G6 hi;clear hi hsp;obtain⟨fn,tmps,assign,body,hy,hR⟩:=G5 HY pre (r.take i) wr hJs (by rw[G5 CF4,G5 Hs];simp)
   gi_wp2_with fail
   refine⟨trivial,U7 _,(callsIn_wide.2 (strings_Index_one _ _ _)).mono ?_⟩;rintro e w' ⟨rfl,rfl⟩;rw[show (AQ r.toArray).data.toList=r from rfl,G5 Hi];rw[<-uY r i]at hy
   gi_wp2
   refine⟨U7 _,hR.mono ?_⟩;rintro e W3 (⟨rfl,hJ3,hk3⟩|⟨rfl,hJx3,hk3⟩)
   .have d1:=Boxed.of_heap b1 (hk3 C23 (.inl rfl));have d2:=Boxed.of_heap b2 (hk3 Bs (.inr (.inl rfl)));have d3:=Boxed.of_heap b3 (hk3 Bv (.inr (.inr rfl)));have Hl:=G6 (A92 b2);clear c1 c2 c3 f2 b1 b2 b3 hk3 hy hR;have c1:=d1.cell;have c2:=d2.cell;have f2:=d2.frozen
    gi_wp2
    rw[A93];refine⟨⟨pre++[r.take i],r.drop (i+1),by rw[G5 CF4,G5 Hs];simp,by simp;omega,Boxed.of_heap d1 (BF W3 _ _ C23 (Ne.symm h1)),d2.set _,
     Boxed.of_heap d3 (BF W3 _ _ Bv (Ne.symm h2)),G5 HJ _ _ _ hJ3 ⟨_,rfl⟩⟩,?_⟩
    rw[A92 (d2.set _),G5 Hl];show (r.drop (i+1)).toArray.size<r.toArray.size;simp;omega
   .gi_wp2
    refine bodyPost_ret (results_none rfl _ _ _) rfl ?_;exact⟨⟨_,rfl⟩,.inr ⟨pre++[r.take i],by rw[G5 CF4,G5 Hs];simp,hJx3⟩⟩
attribute [local go_sem] Oper.semAt_some
theorem MO{l:Nat}(W:FU)(o:Obj)(h:n1<=l):Below n1 W (W.putObj l o):=
 ⟨rfl,rfl,rfl,by simp,fun k hk=>World.putObj_heap_other (by omega)⟩
theorem QS{W:FU}{B l:Nat}{v:FV}(o:Obj)(h:Boxed W B t v)(hne:B≠l):Boxed (W.putObj l o) B t v:=(World.putObj_heap_other hne).trans h
theorem mV(s sep:ByteArray)(w:FU):
  FW prog 209 #[.string s,.string sep] w fun e w'=>
   e=.returned (.func (.func 256) #[] #[.pointer (FZ ⟨w.heap.size+1,0,FX⟩),.pointer (FZ ⟨w.heap.size,0,FX⟩),.pointer (FZ ⟨w.heap.size+1+1,0,FX⟩)])/\
   w'=((w.alloc (FT #[.string s] 9)).alloc (FT #[.string sep] 9)).alloc (FT #[I0 0] 3):=by
 go_enter func209,ntmps209
 go_wp2
 go_ret;exact⟨rfl,rfl⟩
theorem AI7{n m l0:Nat}{P:Program}{l:Nat}{f:FuncId}{tmps:Array FV}{assign body:Code}{R:Ending->FU->Prop}(h:RoundIn Fence.wide n P l f tmps assign body w R):RoundIn (Fence.wide.inRound l0) m P l f tmps assign body w R:=
 ⟨h.1,fun c cs _=>h.2 c cs (room_wide _)⟩
theorem AI8(W:FU)(v0 v1 v2 v3:FV)(t0 t1 t2 t3:TypeId)(W0:FU)(h:(((W.alloc (FT #[v0] t0)).alloc (FT #[v1] t1)).alloc (FT #[v2] t2)).alloc (FT #[v3] t3)=W0):
  W0.heap.size=W.heap.size+4/\Boxed W0 W.heap.size t0 v0/\Boxed W0 (W.heap.size+1) t1 v1/\Boxed W0 (W.heap.size+2) t2 v2/\Boxed W0 (W.heap.size+3) t3 v3/\B0 W W0:=by
 subst h;refine⟨by simp,(((Boxed.new W t0 v0).alloc _).alloc _).alloc _,?_,?_,?_,?_⟩
 .have:=Boxed.new (W.alloc (FT #[v0] t0)) t1 v1;rw[FP]at this;exact(this.alloc _).alloc _
 .have:=Boxed.new ((W.alloc (FT #[v0] t0)).alloc (FT #[v1] t1)) t2 v2;rw[FP,FP]at this;exact this.alloc _
 .have:=Boxed.new (((W.alloc (FT #[v0] t0)).alloc (FT #[v1] t1)).alloc (FT #[v2] t2)) t3 v3;rw[FP,FP,FP]at this;exact this
 .exact((((AA _ W).alloc (A8 _) _).alloc (by simp) _).alloc (by simp;omega) _).alloc (by simp;omega) _
theorem zY(n Bp:Nat)(s:List UInt8)(W:FU)(hn:1<=n)(hlen:s.length<=1000000)(bp:Boxed W Bp 9 (S0 s)):
  CR7 Fence.wide n prog 208 #[P0 Bp] (fun x:List UInt8=>#[S0 x])
   (Below W.heap.size) (ZJ W.heap.size) (MN s) W:=by
 intro l J Jx hJ hJx hY h0;refine callsIn_of_wp_marks func208 rfl trivial ?_ rfl;simp only[ntmps208,List.size_toArray,BG,ES,Nat.reduceAdd,Nat.reduceSub,Array.replicate_succ,Array.replicate_zero,List.push_toArray,List.append_toArray,List.nil_append,List.cons_append];have cp:=bp.cell;have cp':=(bp.alloc (FT #[.func (.yield l) #[] #[]] 158)).cell;have HY:=G6 hY;have HJ:=G6 hJ;have HJx:=G6 hJx;clear hY hJ hJx;by_cases hroot:s=[47]
 .subst hroot
  gi_wp2
  refine⟨_,results_none rfl _ _ _,⟨_,rfl⟩,.inl ?_⟩;exact G5 HJ _ _ _ h0 ((AA _ W).alloc (A8 _) _)
 .have hr1:(s==[47])=false:=by simpa using hroot
  have Hst:Hid (MN s=KL (Lib.trimPrefix s [47])):=by rw[MN,if_neg hroot];exact rfl
  clear hroot
  gi_wp2_with fail
  refine⟨trivial,(callsIn_wide.2 (strings_TrimPrefix _ _ _)).mono ?_⟩;rintro e w' ⟨rfl,rfl⟩;rw[show (AQ s.toArray).data.toList=s from rfl,show (AQ #[47]).data.toList=[47]from rfl];generalize hR:Lib.trimPrefix s [47]=R;have hRl:R.length<=1000000:=by
   have:=Lib.trimPrefix_le s [47];rw[<-hR];omega
  have CT9:Hid (MN s=KL R):=by rw[<-hR];exact Hst
  clear hR Hst hr1 cp cp'
  gi_wp2_with fail
  refine⟨trivial,(callsIn_wide.2 (mV _ _ _)).mono ?_⟩;rintro e w' ⟨rfl,rfl⟩
  gi_wp2_with fail
  generalize hW0:(((W.alloc (FT #[.func (.yield l) #[] #[]] 158)).alloc (FT #[S0 R] 9)).alloc (FT #[.string ⟨#[47]⟩] 9)).alloc (FT #[I0 0] 3)=W0;obtain⟨hsz,k0,k1,k2,k3,kb⟩:=AI8 _ _ _ _ _ _ _ _ _ W0 hW0;clear hW0;refine VY (α:=List UInt8) rfl hn (gf:=256) (lb:=#[.pointer (FZ ⟨W.heap.size+2,0,FX⟩),.pointer (FZ ⟨W.heap.size+1,0,FX⟩),.pointer (FZ ⟨W.heap.size+3,0,FX⟩)]) rfl trivial (enters_of func256 (by kernel_rfl) rfl)
   (fun o1 o2=>mQ (n-1) (W.heap.size+2) (W.heap.size+1) (W.heap.size+3) R _ (by omega) (by omega) hRl ((k2.alloc o1).alloc o2) ((k1.alloc o1).alloc o2) ((k3.alloc o1).alloc o2))
   (fun A B k hs hk hl=>by obtain⟨v,rfl⟩:=hs;exact BF A _ _ k (by show k≠W.heap.size+1;omega))
   (fun A B C h k i hi=>(k i hi).trans (h i hi)) (fun A o k hk=>World.putObj_heap_other (by omega)) (fun _=>rfl)
   (fun pre A=>J pre A/\Boxed A W.heap.size 158 (.func (.yield l) #[] #[]))
   (fun c pre A=>c=.ret/\Jx pre A)
   (fun pre A B hs hg=>by
    obtain⟨v,rfl⟩:=hg;exact⟨G5 HJ _ _ _ hs.1 ((AA _ A).setCell (p:=⟨W.heap.size+1,0,FX⟩) (by simp) v),Boxed.of_heap hs.2 (BF A _ _ _ (by show W.heap.size≠W.heap.size+1;omega))⟩)
   (fun c pre A B hs hg=>by
    obtain⟨v,rfl⟩:=hg;exact⟨hs.1,G5 HJx _ _ _ hs.2 ((AA _ A).setCell (p:=⟨W.heap.size+1,0,FX⟩) (by simp) v)⟩)
   (fun pre A o hs=>⟨G5 HJ _ _ _ hs.1 (MO A o (by omega)),QS o hs.2 (by omega)⟩)
   (fun c pre A o hs=>⟨hs.1,G5 HJx _ _ _ hs.2 (MO A o (by omega))⟩)
   (fun o1 o2=>⟨G5 HJ _ _ _ h0 ((kb.alloc (by omega) o1).alloc (by simp;omega) o2),(k0.alloc o1).alloc o2⟩)
   (fun x=>{tmps:=#[.func (.yield l) #[] #[],P0 Bp,.pointer (FZ ⟨W.heap.size,0,FX⟩),S0 x,S0 s,.bool false,S0 s,S0 R,
    .func (.func 256) #[] #[.pointer (FZ ⟨W.heap.size+2,0,FX⟩),.pointer (FZ ⟨W.heap.size+1,0,FX⟩),.pointer (FZ ⟨W.heap.size+3,0,FX⟩)],S0 x,undef,undef,undef,undef],defers:=[]})
   ?assign ?body ?done ?stop
  case assign=>
   intro x A K hK
   gi_wp2
   exact hK
  case body=>
   rintro pre x A ⟨hJA,hbx⟩ hpre hlt;have cx:=hbx.cell;obtain⟨fn,tmps,assign,body,hy,hR⟩:=G5 HY pre x A hJA (by rw[G5 CT9];exact hpre)
   gi_wp2
   refine⟨U7 _,(AI7 hR).mono ?_⟩;rintro e W3 (⟨rfl,hJ3,hk3⟩|⟨rfl,hJx3,hk3⟩)
   .gi_wp2
    exact⟨hk3.block _ (by omega) (by omega),hk3.block _ (by omega) (by omega),fun k hk=>hk3.block k (by omega) (by omega),hJ3,Boxed.of_heap hbx (hk3.block _ (A8 _) (by omega))⟩
   .gi_wp2
    exact⟨hk3.block _ (by omega) (by omega),hk3.block _ (by omega) (by omega),fun k hk=>hk3.block k (by omega) (by omega),rfl,hJx3⟩
  case done=>
   rintro A ⟨hJA,hbx⟩ hK
   gi_wp2
   refine⟨by simp,.inl ⟨_,_,rfl,run_takeDeferred hK,?_⟩⟩;refine⟨_,results_none rfl _ _ _,⟨_,rfl⟩,.inl ?_⟩;rw[G5 CT9];exact G5 HJ _ _ _ hJA (MO A _ (by omega))
  case stop=>
   rintro c pre A hpre ⟨rfl,hJA⟩ hK
   gi_wp2
   refine⟨by simp,.inl ⟨_,_,rfl,run_takeDeferred hK,?_⟩⟩;refine⟨_,results_none rfl _ _ _,⟨_,rfl⟩,.inr ⟨pre,by rw[G5 CT9];exact hpre,?_⟩⟩;exact G5 HJx _ _ _ hJA (MO A _ (by omega))
attribute [local go_sem] Oper.semAt_some
theorem zZ(s:ByteArray)(w:FU):
  FW prog 180 #[.string s] w fun e w'=>
   e=.returned (.func (.func 208) #[] #[.pointer (FZ ⟨w.heap.size,0,FX⟩)])/\w'=w.alloc (FT #[.string s] 9):=by
 go_enter func180,ntmps180
 go_wp2
 go_ret;exact⟨rfl,rfl⟩
theorem AV1(W:FU)(v0 v1:FV)(t0 t1:TypeId)(W0:FU)(h:(W.alloc (FT #[v0] t0)).alloc (FT #[v1] t1)=W0):
  W0.heap.size=W.heap.size+2/\Boxed W0 W.heap.size t0 v0/\Boxed W0 (W.heap.size+1) t1 v1/\B0 W W0:=by
 subst h;refine⟨by simp,(Boxed.new W t0 v0).alloc _,?_,?_⟩
 .have:=Boxed.new (W.alloc (FT #[v0] t0)) t1 v1;rw[FP]at this;exact this
 .exact((AA _ W).alloc (A8 _) _).alloc (by simp) _
theorem AI9(h:200<l.length):II l=false:=by
 simp only[II,show ¬l.length<=200 from by omega,decide_false,Bool.false_and]
theorem A00(h:Lib.hasPrefix l [47]=false):II l=false:=by
 simp only[II,h,Bool.and_false,Bool.false_and]
theorem AV2(h0:l.length<=200)(h:Lib.hasPrefix l [47]=true):II l=(MN l).all IZ:=by
 simp only[II,h0,h,decide_true,Bool.true_and]
theorem qO(l:List UInt8):∀p∈MN l,p.length<=l.length:=by
 intro p hp;unfold MN at hp
 split at hp
 .simp at hp
 .have h1:=qM _ p hp;have h2:=Lib.trimPrefix_le l [47];omega
theorem ZK{pre xs:List (List UInt8)}(h:pre<+:xs)(h1:pre.all IZ=false):xs.all IZ=false:=by
 obtain⟨t,rfl⟩:=h;rw[List.all_append,h1,Bool.false_and]
theorem C24(s:ByteArray):∃l:List UInt8,s=⟨l.toArray⟩:=⟨s.data.toList,rfl⟩
theorem AV3(l:List UInt8)(w:FU)(h0:l.length<=200)(hp:Lib.hasPrefix l [47]=true):
  FW prog 136 #[S0 l] w (R0 w (.bool ((MN l).all IZ))):=by
 refine(callsIn_wide (n:=6)).1 ?_;refine callsIn_of_wp_marks func136 rfl trivial ?_ rfl;simp only[ntmps136,List.size_toArray,BG,ES,Nat.reduceAdd,Nat.reduceSub,Array.replicate_succ,Array.replicate_zero,List.push_toArray,List.append_toArray,List.nil_append,List.cons_append];have hz:(AQ l.toArray).size=l.length:=DK ⟨l.toArray⟩;have Hp:=G6 hp;clear hp
 gi_wp2_with fail
 refine⟨trivial,(callsIn_wide.2 (strings_HasPrefix _ _ _)).mono ?_⟩;rintro e w' ⟨rfl,rfl⟩;rw[show (AQ l.toArray).data.toList=l from rfl,show (AQ #[47]).data.toList=[47]from rfl,G5 Hp]
 gi_wp2_with fail
 refine⟨trivial,(callsIn_wide.2 (zZ _ _)).mono ?_⟩;rintro e w' ⟨rfl,rfl⟩
 gi_wp2_with fail
 generalize hW0:(w.alloc (FT #[.bool false] 4)).alloc (FT #[S0 l] 9)=W0;obtain⟨hsz,k0,k1,kb⟩:=AV1 _ _ _ _ _ W0 hW0;clear hW0;refine VY (α:=List UInt8) (encs:=fun x=>#[S0 x]) rfl (by omega) (gf:=208) (lb:=#[.pointer (FZ ⟨w.heap.size+1,0,FX⟩)]) rfl trivial (enters_of func208 (by kernel_rfl) rfl)
  (St:=Below (W0.heap.size+1+1)) (Kp:=ZJ (W0.heap.size+1+1)) (xs:=MN l)
  (fun o1 o2=>by
   have h:=zY 5 (w.heap.size+1) l ((W0.alloc o1).alloc o2) (by omega) (by omega) ((k1.alloc o1).alloc o2);rw[FP,FP]at h;exact h)
  (fun A B k hs hk _=>hs.block k (by omega))
  (fun A B C h k=>h.trans k) (fun A o=>ZJ.putObj A o (by omega)) (fun _=>rfl)
  (fun pre A=>B0 w A/\Boxed A w.heap.size 4 (.bool false)/\pre.all IZ=true)
  (fun c pre A=>c=.ret/\B0 w A/\Boxed A w.heap.size 4 (.bool false)/\pre.all IZ=false)
  (fun pre A B hs hg=>⟨hs.1.trans (hg.mono (by omega)),Boxed.of_heap hs.2.1 (hg.block _ (by omega)),hs.2.2⟩)
  (fun c pre A B hs hg=>⟨hs.1,hs.2.1.trans (hg.mono (by omega)),Boxed.of_heap hs.2.2.1 (hg.block _ (by omega)),hs.2.2.2⟩)
  (fun pre A o hs=>⟨hs.1.trans (MO A o (by omega)),QS o hs.2.1 (by omega),hs.2.2⟩)
  (fun c pre A o hs=>⟨hs.1,hs.2.1.trans (MO A o (by omega)),QS o hs.2.2.1 (by omega),hs.2.2.2⟩)
  (fun o1 o2=>⟨(kb.alloc (by omega) o1).alloc (by simp;omega) o2,(k0.alloc o1).alloc o2,rfl⟩)
  (fun x=>{tmps:=#[S0 l,undef,.pointer (FZ ⟨w.heap.size,0,FX⟩),S0 x,S0 l,I0 l.length,.bool (decide (200<(l.length:Int))),.bool (decide (200<(l.length:Int))),S0 l,.bool true,.bool false,
   .bool (decide (200<(l.length:Int))),S0 l,.func (.func 208) #[] #[.pointer (FZ ⟨w.heap.size+1,0,FX⟩)],S0 x,undef,undef,undef],defers:=[]})
  ?assign ?body ?done ?stop
 case assign=>
  intro x A K hK
  gi_wp2
  exact hK
 case body=>
  rintro pre x A ⟨hB,hbx,hall⟩ hpre hlt;have cx:=hbx.cell;have fx:=hbx.frozen;have hxl:x.length<=200:=by
   have:=qO l x (hpre.subset (by simp));omega
  have hxs:(AQ x.toArray).size<=maxLen:=by
   unfold maxLen;rw[DK];show x.length<=_;omega
  have zX:=G6 hall;clear hall
  gi_wp2_with fail
  refine⟨trivial,(CallsIn.inRound _ (callsIn_wide.2 (U6 _ _ hxs))).mono ?_⟩;rintro e w' ⟨rfl,rfl⟩;rw[show (AQ x.toArray).data.toList=x from rfl]
  cases hx:IZ x
  .gi_wp2
   refine⟨BF _ _ _ _ (by show W0.heap.size≠w.heap.size;omega),BF _ _ _ _ (by show W0.heap.size+1≠w.heap.size;omega),ZJ.setCell _ _ (by show w.heap.size<_;omega),rfl,hB.setCell (p:=⟨w.heap.size,0,FX⟩) (A8 _) _,hbx.set _,?_⟩;rw[List.all_append,G5 zX];simp[hx]
  .gi_wp2
   refine⟨rfl,rfl,ZJ.refl _ _,hB,hbx,?_⟩;rw[List.all_append,G5 zX];simp[hx]
 case done=>
  rintro A ⟨hB,hbx,hall⟩ hK;have cx:=hbx.cell;have fx:=hbx.frozen;have zX:=G6 hall;clear hall
  gi_wp2
  have hK':(A.setCell ⟨w.heap.size,0,FX⟩ (.bool true)).heap[W0.heap.size]?=FZ (.deferred (FZ [])):=(BF _ _ _ _ (by show W0.heap.size≠w.heap.size;omega)).trans hK;have hc:=(QS (l:=W0.heap.size) (.deferred FX) (hbx.set (.bool true)) (by omega)).cell;refine⟨by simp,.inl ⟨_,_,rfl,run_takeDeferred hK',?_⟩⟩;refine⟨.bool true,?_,by rw[G5 zX],(hB.setCell (p:=⟨w.heap.size,0,FX⟩) (A8 _) _).trans (MO _ _ (by omega))⟩;simp[results,f136,go_sem,hc]
 case stop=>
  rintro c pre A hpre ⟨rfl,hB,hbx,hall⟩ hK;have zX:=G6 (ZK hpre hall);clear hall
  gi_wp2
  have hc:=(QS (l:=W0.heap.size) (.deferred FX) hbx (by omega)).cell;refine⟨by simp,.inl ⟨_,_,rfl,run_takeDeferred hK,?_⟩⟩;refine⟨.bool false,?_,by rw[G5 zX],hB.trans (MO _ _ (by omega))⟩;simp[results,f136,go_sem,hc]
theorem AV4(l:List UInt8)(w:FU)(h0:200<l.length):
  FW prog 136 #[S0 l] w (R0 w (.bool false)):=by
 have hz:(AQ l.toArray).size=l.length:=DK ⟨l.toArray⟩;go_enter func136,ntmps136;go_wp2_with fail;exact bodyPost_ret (v:=.bool false) (by simp[results,f136,go_sem]) rfl ⟨rfl,(AA _ _).alloc (A8 _) _⟩
theorem AJ0(l:List UInt8)(w:FU)(h0:l.length<=200)(hp:Lib.hasPrefix l [47]=false):
  FW prog 136 #[S0 l] w (R0 w (.bool false)):=by
 have hz:(AQ l.toArray).size=l.length:=DK ⟨l.toArray⟩;have Hp:=G6 hp;clear hp;go_enter func136,ntmps136;go_wp2_with fail;refine(strings_HasPrefix _ _ _).mono ?_;rintro e w' ⟨rfl,rfl⟩;rw[show (AQ l.toArray).data.toList=l from rfl,show (AQ #[47]).data.toList=[47]from rfl,G5 Hp];go_wp2_with fail;exact bodyPost_ret (v:=.bool false) (by simp[results,f136,go_sem]) rfl ⟨rfl,(AA _ _).alloc (A8 _) _⟩
theorem LY(s:ByteArray)(w:FU):FW prog 136 #[.string s] w (R0 w (.bool (II s.data.toList))):=by
 obtain⟨l,rfl⟩:=C24 s;show FW _ _ _ _ fun e w'=>e=.returned (.bool (II l))/\_;by_cases h0:200<l.length
 .rw[AI9 h0];exact AV4 l w h0
 .cases hp:Lib.hasPrefix l [47]
  .rw[A00 hp];exact AJ0 l w (by omega) hp
  .rw[AV2 (by omega) hp];exact AV3 l w (by omega) hp
theorem AV5(h:a=b):DV (.string a)=.returned (.string b):=by rw[h]
theorem PD(l m:List UInt8):(AQ l.toArray)++(AQ m.toArray)=⟨(l++m).toArray⟩:=by
 have h:((AQ l.toArray)++(AQ m.toArray)).data.toList=l++m:=by simp[ByteArray.data_append]
 exact congrArg (fun l:List UInt8=>AQ l.toArray) h
theorem MP(h:II l=true):l.length<=200:=by
 simp only[II,BZ,decide_eq_true_eq]at h;exact h.1.1
theorem uZ(h:IZ l=true):1<=l.length/\l.length<=40:=by
 simp only[IZ,BZ,decide_eq_true_eq]at h;exact⟨h.1.1,h.1.2⟩
theorem iE(h:a=b)(h':i=j):DV (.tuple #[.string a,I0 i])=.returned (.tuple #[.string b,I0 j]):=by rw[h,h']
theorem TV(h:m.length<=140737488355328):(AQ m.toArray).size<=maxLen:=by
 unfold maxLen;rw[DK];show m.length<=_;omega
theorem SB{a b c:FU}(h:B0 a b)(k:B0 b c):B0 a c:=h.trans (k.mono h.size)
theorem VD:∀ (a b:List UInt8),47∉b->KL (a++47::b)=KL a++[b]
 |[],b,hb=>by
  have h:∀l:List UInt8,47∉l->KL l=[l]:=by
   intro l
   induction l with
   |nil=>intro _;rfl
   |cons c l ih=>intro h;exact NC (by rintro rfl;simp at h) (ih (by simp at h;exact h.2))
  simp[QM,h b hb,KL]
 |c::a,b,hb=>by
  have ih:=VD a b hb;by_cases hc:c=47
  .subst hc;rw[List.cons_append,QM,QM,ih];rfl
  .cases hl:KL a with
   |nil=>exact absurd hl (uQ a)
   |cons p ps=>
    rw[hl]at ih;rw[List.cons_append,NC hc ih,NC hc hl];rfl
theorem aP:∀l:List UInt8,47∉l->KL l=[l]
 |[],_=>rfl
 |c::l,h=>NC (by rintro rfl;simp at h) (aP l (by simp at h;exact h.2))
theorem dU:∀l:List UInt8,47∈l->∃a b,l=a++47::b/\47∉b
 |[],h=>by simp at h
 |c::l,h=>by
  by_cases hl:47∈l
  .obtain⟨a,b,e,hb⟩:=dU l hl;exact⟨c::a,b,by rw[e];rfl,hb⟩
  .have hc:c=47:=by
    rcases List.mem_cons.1 h with e|e
    .exact e.symm
    .exact absurd e hl
   exact⟨[],l,by rw[hc];rfl,hl⟩
theorem U8(r:List UInt8)(hr:r≠[]):II (47::r)=(decide (r.length+1<=200)&&(KL r).all IZ):=by
 have h1:Lib.hasPrefix (47::r) [47]=true:=by simp[Lib.hasPrefix,List.isPrefixOf]
 have h2:MN (47::r)=KL r:=by
  rw[MN,if_neg (by simp[hr]),Lib.trimPrefix,if_pos h1];rfl
 simp only[II,h1,h2,Bool.and_true,BG]
theorem YH:II [47]=true:=by decide+kernel
theorem qP:IZ []=false:=by decide+kernel
theorem mW{b:List UInt8}(h:IZ b=true):47∉b:=by
 intro hm;simp only[IZ,BZ,List.all_eq_true]at h;have:=h.2 47 hm;revert this;decide
theorem WU(s:ByteArray)(w:FU)(hs:s.size<=281474976710656):
  FW prog 40 #[.string s] w (R0 w (.string s)):=by
 go_enter func40,ntmps40;go_wp2_with fail;refine(stringslite_Clone s _ hs).mono ?_;rintro e w1 ⟨rfl,hb1⟩;go_wp2_with fail;go_ret;exact⟨rfl,hb1⟩
def ten(n:Nat):List UInt8:=(List.range 10).map fun t=>Lib.dg n (9-t)
theorem UE(n:Nat):(ten n).length=10:=by simp[ten]
theorem Z7(n:Nat)(h:n<=2147483647):Lib.nDigits n<=10:=by
 have aux:∀k u,u<10^(k+1)->Lib.nDigits u<=k+1:=by
  intro k
  induction k with
  |zero=>intro u hu;rw[Lib.nDigits_small (by simpa using hu)];omega
  |succ k ih=>
   intro u hu;by_cases h:u<10
   .rw[Lib.nDigits_small h];omega
   .rw[Lib.nDigits_big h];have:=ih (u/10) (by rw[Nat.pow_succ]at hu;omega);omega
 exact aux 9 n (by omega)
theorem C26(u p:Nat)(h:u<10^p):Lib.dg u p=48:=by
 unfold Lib.dg;rw[Nat.div_eq_of_lt h];rfl
theorem CH8(n:Nat)(h:n<=2147483647):Lib.repeatL [48] (10-(EJ n).length)++EJ n=ten n:=by
 have hd:=Z7 n h;have hp:=Lib.nDigits_pos n;have hr:∀c,Lib.repeatL [48] c=List.replicate c 48:=fun c=>by
  have:=Lib.repeatL_replicate 48 1 c;simpa using this
 rw[Lib.decDigits_length,hr,Lib.decDigits_eq]
 apply List.ext_getElem
 .simp[ten];omega
 .intro i h1 h2;have hi:i<10:=by simpa [ten]using h2
  by_cases hc:i<10-Lib.nDigits n
  .rw[List.getElem_append_left (by simpa using hc)];simp only[List.getElem_replicate,ten,List.getElem_map,List.getElem_range];exact(C26 n (9-i) (AX (Lib.lt_pow_nDigits n) (Nat.pow_le_pow_right (by decide) (by omega)))).symm
  .rw[List.getElem_append_right (by simp;omega)];simp only[List.length_replicate,ten,List.getElem_map,List.getElem_range]
   congr 1
   omega
def val:List UInt8->Nat
 |[]=>0
 |c::l=>(c.toNat-48)*10^l.length+val l
def A04(c:UInt8):Prop:=48<=c.toNat/\c.toNat<=57
theorem AX1:∀l:List UInt8,(∀c∈l,A04 c)->val l<10^l.length
 |[],_=>by simp[val]
 |c::l,h=>by
  have hc:=h c (by simp);have ih:=AX1 l (fun x hx=>h x (by simp[hx]));have h9:c.toNat-48<=9:=by unfold A04 at hc;omega
  have hm:(c.toNat-48)*10^l.length<=9*10^l.length:=Nat.mul_le_mul_right _ h9;simp only[val,BG,Nat.pow_succ];omega
theorem AA1:∀a b:List UInt8,a.length=b.length->(∀c∈a,A04 c)->(∀c∈b,A04 c)->(Op.bytesLess a b=true↔val a<val b)
 |[],[],_,_,_=>by simp[Op.bytesLess,val]
 |x::a,y::b,hl,ha,hb=>by
  have hl':a.length=b.length:=by simpa using hl
  have hx:=ha x (by simp);have hy:=hb y (by simp);have ih:=AA1 a b hl' (fun c hc=>ha c (by simp[hc])) (fun c hc=>hb c (by simp[hc]));have va:=AX1 a (fun c hc=>ha c (by simp[hc]));have vb:=AX1 b (fun c hc=>hb c (by simp[hc]));unfold A04 at hx hy;simp only[Op.bytesLess,val,hl',Bool.or_eq_true,BZ,decide_eq_true_eq,beq_iff_eq,ih];rw[hl']at va;obtain⟨P,hP⟩:∃P,10^b.length=P:=⟨_,rfl⟩;rw[hP]at va vb⊢;have hlt:(x<y)↔x.toNat<y.toNat:=UInt8.lt_iff_toNat_lt;have heq:(x=y)↔x.toNat=y.toNat:=UInt8.toNat_inj.symm;rw[hlt,heq];rcases Nat.lt_trichotomy x.toNat y.toNat with h|h|h
  .have hm:(x.toNat-48+1)*P<=(y.toNat-48)*P:=Nat.mul_le_mul_right _ (by omega);rw[Nat.add_mul]at hm;constructor
   .intro _;omega
   .intro _;exact .inl h
  .rw[h];constructor
   .rintro(h'|⟨_,h'⟩)<;>omega
   .intro h';exact .inr ⟨rfl,by omega⟩
  .have hm:(y.toNat-48+1)*P<=(x.toNat-48)*P:=Nat.mul_le_mul_right _ (by omega);rw[Nat.add_mul]at hm;constructor
   .rintro(h'|⟨h',_⟩)<;>omega
   .intro h';omega
theorem AA2(u p:Nat):(Lib.dg u p).toNat=48+u/10^p%10:=by
 unfold Lib.dg;simp only[UInt8.toNat_ofNat'];omega
theorem AX2(n:Nat):∀c∈ten n,A04 c:=by
 intro c hc;simp only[ten,List.mem_map]at hc;obtain⟨t,_,rfl⟩:=hc;unfold A04;rw[AA2];omega
theorem vJ(n:Nat):∀k,val ((List.range k).map fun t=>Lib.dg n (k-1-t))=n%10^k
 |0=>by simp[val,Nat.mod_one]
 |k+1=>by
  have ih:=vJ n k;rw[List.range_succ_eq_map,List.map_cons,List.map_map];have e:((List.range k).map ((fun t=>Lib.dg n (k+1-1-t)) ∘ Nat.succ))=(List.range k).map fun t=>Lib.dg n (k-1-t):=
   List.map_congr_left fun t _=>by simp only[Function.comp];congr 1;omega
  simp only[val];rw[e,ih,AA2,List.length_map,List.length_range,show k+1-1-0=k from by omega,Nat.pow_succ,Nat.mod_mul];rw[show 48+n/10^k%10-48=n/10^k%10 from by omega,Nat.mul_comm];omega
theorem AX3(n:Nat)(h:n<=2147483647):val (ten n)=n:=by
 have:=vJ n 10;unfold ten;rw[show (fun t=>Lib.dg n (9-t))=(fun t=>Lib.dg n (10-1-t))from rfl,this];exact Nat.mod_eq_of_lt (by omega)
theorem A05(p a b:List UInt8):Op.bytesLess (p++a) (p++b)=Op.bytesLess a b:=by
 induction p with
 |nil=>rfl
 |cons x p ih=>simp[Op.bytesLess,ih]
theorem A06(p:List UInt8)(n m:Nat)(hn:n<=2147483647)(hm:m<=2147483647):Op.bytesLess (p++ten n) (p++ten m)=decide (n<m):=by
 rw[A05,Bool.eq_iff_iff,AA1 _ _ (by simp[UE]) (AX2 n) (AX2 m),AX3 n hn,AX3 m hm];simp
theorem AJ5(w:FU)(k:Nat)(os:Array Obj):B0 w (Sort.grow (w.drewN k) os):=
 ⟨rfl,rfl,rfl,by simp[Sort.grow,World.drewN],fun i hi=>by simp[Sort.grow,World.drewN,Array.getElem?_append_left hi]⟩
theorem iH(h:a=b)(h':i=j):DV (.tuple #[.string a,I0 i])=.returned (.tuple #[.string b,I0 j]):=by rw[h,h']
theorem CU1(h:a.data.toList=l):a=⟨l.toArray⟩:=by
 rw[<-h]
def AJ6(l:List UInt8):ByteArray:=if IZ l then⟨l.toArray⟩else⟨#[]⟩
def vK(l:List UInt8):Int:=if IZ l then 0 else 2
theorem vM(h:IZ l=true):AJ6 l=⟨l.toArray⟩:=by rw[AJ6,if_pos h]
theorem vO(h:IZ l=true):vK l=0:=by rw[vK,if_pos h]
theorem AA3(h:IZ l=false):AJ6 l=⟨#[]⟩:=by rw[AJ6,if_neg (by simp[h])]
theorem AA4(h:IZ l=false):vK l=2:=by rw[vK,if_neg (by simp[h])]
theorem BH4(name:ByteArray)(R D:List UInt8):(name++⟨R.toArray⟩++⟨D.toArray⟩:ByteArray).data.toList=name.data.toList++(R++D):=by
 simp[ByteArray.data_append]
theorem BH5(name:ByteArray)(R D:List UInt8):(name++⟨R.toArray⟩++⟨D.toArray⟩:ByteArray).size=name.size+R.length+D.length:=by
 rw[ByteArray.size_append,ByteArray.size_append];rfl
theorem AJ7(name:ByteArray)(n:Int)(w:FU)(hn:n<0\/2147483647<n):
  FW prog 220 #[.string name,I0 n] w fun e w'=>e=.returned (.tuple #[.string ⟨#[]⟩,I0 3])/\w'=w:=by
 rcases hn with h|h
 .go_enter func220,ntmps220;go_wp2_with fail
  go_ret2
  exact⟨rfl,rfl⟩
 .have h':¬n<0:=by omega
  go_enter func220,ntmps220;go_wp2_with fail
  go_ret2
  exact⟨rfl,rfl⟩
theorem AX4(name:ByteArray)(n:Nat)(w:FU)(hn:n<=2147483647)(hs:name.size<=140737488355328)
  (htab:Lib.TabIs prog w "internal/strconv.uint64pow10" .u64 Lib.pow10Tab):
  FW prog 220 #[.string name,I0 n] w fun e w'=>
   e=.returned (.tuple #[.string (AJ6 (name.data.toList++ten n)),I0 (vK (name.data.toList++ten n))])/\B0 w w':=by
 have hd:=Z7 n hn;have hp:=Lib.nDigits_pos n;have Hten:=G6 (CH8 n hn);have Hit:=G6 (Lib.itoa_nonneg n);have Hlen:=G6 (Lib.decDigits_length n);go_enter func220,ntmps220;go_wp2_with fail;refine(strconv_Itoa _ (by omega) (by omega) _ htab).mono ?_;rintro e w1 ⟨rfl,k,os,hw1⟩;have hb1:B0 w w1:=by rw[hw1];exact AJ5 w k os
 clear hw1;rw[G5 Hit];generalize hD:EJ n=D;have hDl:D.length=Lib.nDigits n:=by rw[<-hD];exact G5 Hlen
 have HD:=G6 hD;clear hD;have hD1:1<=D.length:=by omega
 have hD10:D.length<=10:=by omega
 clear hDl hd hp;go_wp2_with fail;rw[show (10-(D.length:Int))=((10-D.length:Nat):Int)from by omega];refine(strings_Repeat _ _ _ (by omega) (by show 1*_<=_;omega)).mono ?_;rintro e w2 ⟨rfl,hb2⟩;generalize hR:Lib.repeatL (AQ #[48]).data.toList (10-D.length)=R;have hR':Lib.repeatL [48] (10-D.length)=R:=hR;have hRl:R.length<=10:=by rw[<-hR',Lib.repeatL_length];simp
 have HR:Hid (R++D=ten n):=by
  have h1:=G5 Hten;have h2:=G5 HD;rw[h2,hR']at h1;exact h1
 clear hR hR' Hten HD Hit Hlen;go_wp2_with fail;generalize hX:(name++⟨R.toArray⟩++⟨D.toArray⟩:ByteArray)=X;have HX:Hid (X.data.toList=name.data.toList++ten n):=by
  rw[<-G5 HR,<-hX];exact BH4 name R D
 have hXs:X.size<=maxLen:=by
  unfold maxLen;rw[<-hX,BH5];omega
 clear hX HR;refine(U6 X _ hXs).mono ?_;rintro e w3 ⟨rfl,rfl⟩
 cases hnm:IZ X.data.toList
 .go_wp2_with fail
  go_ret2
  rw[G5 HX]at hnm;exact⟨iH (AA3 hnm).symm (AA4 hnm).symm,hb1.trans (hb2.mono hb1.size)⟩
 .go_wp2_with fail
  go_ret2
  rw[G5 HX]at hnm;exact⟨iH ((CU1 (G5 HX)).trans (vM hnm).symm) (vO hnm).symm,hb1.trans (hb2.mono hb1.size)⟩
def BX7(l:List UInt8)(n:Int):ByteArray:=if 0<=n/\n<=2147483647 then AJ6 (l++ten n.toNat)else⟨#[]⟩
def mZ(l:List UInt8)(n:Int):Int:=if 0<=n/\n<=2147483647 then vK (l++ten n.toNat)else 3
theorem AJ8(name:ByteArray)(n:Int)(w:FU)(hs:name.size<=140737488355328)(htab:Lib.TabIs prog w "internal/strconv.uint64pow10" .u64 Lib.pow10Tab):
  FW prog 220 #[.string name,I0 n] w fun e w'=>
   e=.returned (.tuple #[.string (BX7 name.data.toList n),I0 (mZ name.data.toList n)])/\B0 w w':=by
 by_cases h:0<=n/\n<=2147483647
 .obtain⟨k,rfl⟩:=Int.eq_ofNat_of_zero_le h.1;refine(AX4 name k w (by omega) hs htab).mono ?_;rintro e w' ⟨rfl,hb⟩;exact⟨iH (by rw[BX7,if_pos h,Int.toNat_natCast]) (by rw[mZ,if_pos h,Int.toNat_natCast]),hb⟩
 .refine(AJ7 name n w (by omega)).mono ?_;rintro e w' ⟨rfl,rfl⟩;exact⟨iH (by rw[BX7,if_neg h]) (by rw[mZ,if_neg h]),AA _ _⟩
theorem C27{n:Int}(h:mZ l n≠0):BX7 l n=⟨#[]⟩:=by
 unfold mZ at h;unfold BX7;by_cases h1:0<=n/\n<=2147483647
 .rw[if_pos h1]at h⊢
  cases h2:IZ (l++ten n.toNat)
  .exact AA3 h2
  .exact absurd (vO h2) h
 .rw[if_neg h1]
theorem A07{n:Int}(h:mZ l n=0):0<=n/\n<=2147483647/\IZ (l++ten n.toNat)=true/\BX7 l n=⟨(l++ten n.toNat).toArray⟩:=by
 unfold mZ at h;unfold BX7;by_cases h1:0<=n/\n<=2147483647
 .rw[if_pos h1]at h⊢
  cases h2:IZ (l++ten n.toNat)
  .rw[AA4 h2]at h;exact absurd h (by decide)
  .exact⟨h1.1,h1.2,rfl,vM h2⟩
 .rw[if_neg h1]at h;exact absurd h (by decide)
theorem gPow:prog.globalNamed "internal/strconv.uint64pow10" =FZ 1:=by kernel_rfl
theorem CH9(htab:Lib.TabIs prog w "internal/strconv.uint64pow10" .u64 Lib.pow10Tab):1<w.heap.size:=by
 have hc:=htab.cell gPow 0 (by decide);unfold World.cell? at hc
 cases ho:w.heap[1]? with
 |none=>simp[ho]at hc
 |some o=>exact(AB.1 ho).1
theorem AA5{w':FU}(htab:Lib.TabIs prog w "internal/strconv.uint64pow10" .u64 Lib.pow10Tab)(hb:B0 w w'):Lib.TabIs prog w' "internal/strconv.uint64pow10" .u64 Lib.pow10Tab:=
 var?_below hb gPow (CH9 htab) htab
def RG(l:List UInt8):List UInt8:=if l=[47]then [47]else l++[47]
theorem dV:RG [47]=[47]:=by rw[RG,if_pos rfl]
theorem ZM(h:l≠[47]):RG l=l++[47]:=by rw[RG,if_neg h]
theorem vP(l:List UInt8):(RG l).length<=l.length+1:=by
 unfold RG
 split
 .simp
 .simp
def BX8(a b:List UInt8):Bool:=II a&&II b&& !(a==b)&&Lib.hasPrefix a (RG b)
theorem jL(l:List UInt8)(w:FU)(hl:l.length<=140737488355328):
  FW prog 246 #[S0 l] w fun e w'=>e=.returned (S0 (RG l))/\w'=w:=by
 have hz:(AQ l.toArray).size=l.length:=DK ⟨l.toArray⟩;by_cases h:l=[47]
 .subst h;go_enter func246,ntmps246
  go_wp2
  go_ret;exact⟨AV5 (by rw[dV]),rfl⟩
 .have h1:(l==[47])=false:=by simpa using h
  have Ho:=G6 (ZM h);clear h;go_enter func246,ntmps246
  go_wp2
  go_ret;exact⟨AV5 (by rw[G5 Ho];exact PD l [47]),rfl⟩
def nC(d m:List UInt8):List UInt8:=if II d&&IZ m then(if(RG d++m).length<=200 then RG d++m else [])else []
def dW(d m:List UInt8):Int:=if II d&&IZ m then(if(RG d++m).length<=200 then 0 else 1)else 2
theorem AA6(h:(II d&&IZ m)=false):nC d m=[]/\dW d m=2:=by
 unfold nC dW;rw[h];exact⟨rfl,rfl⟩
theorem vS(h:(II d&&IZ m)=true)(h1:200<(RG d++m).length):nC d m=[]/\dW d m=1:=by
 unfold nC dW;rw[if_pos h,if_pos h,if_neg (by omega),if_neg (by omega)];exact⟨rfl,rfl⟩
theorem vT(h:(II d&&IZ m)=true)(h1:(RG d++m).length<=200):nC d m=RG d++m/\dW d m=0:=by
 unfold nC dW;rw[if_pos h,if_pos h,if_pos h1,if_pos h1];exact⟨rfl,rfl⟩
theorem BH6(d m:List UInt8)(w:FU)(hm:m.length<=140737488355328):
  FW prog 221 #[S0 d,S0 m] w (R0 w (.tuple #[S0 (nC d m),I0 (dW d m)])):=by
 cases hd:II d
 .obtain⟨h1,h2⟩:=AA6 (d:=d) (m:=m) (by rw[hd];rfl);have H1:=G6 h1;have H2:=G6 h2;have Hd:=G6 hd;clear h1 h2 hd;go_enter func221,ntmps221;go_wp2_with fail;refine(LY _ _).mono ?_;rintro e w1 ⟨rfl,hb1⟩;rw[show (AQ d.toArray).data.toList=d from rfl,G5 Hd];go_wp2_with fail
  go_ret2
  exact⟨iE (by rw[G5 H1]) (G5 H2).symm,hb1⟩
 cases hn:IZ m
 .obtain⟨h1,h2⟩:=AA6 (d:=d) (m:=m) (by rw[hn,Bool.and_false]);have H1:=G6 h1;have H2:=G6 h2;have Hd:=G6 hd;have Hn:=G6 hn;clear h1 h2 hd hn;go_enter func221,ntmps221;go_wp2_with fail;refine(LY _ _).mono ?_;rintro e w1 ⟨rfl,hb1⟩;rw[show (AQ d.toArray).data.toList=d from rfl,G5 Hd];go_wp2_with fail;refine(U6 _ _ (TV hm)).mono ?_;rintro e w2 ⟨rfl,rfl⟩;rw[show (AQ m.toArray).data.toList=m from rfl,G5 Hn];go_wp2_with fail
  go_ret2
  exact⟨iE (by rw[G5 H1]) (G5 H2).symm,hb1⟩
 have hdl:=MP hd;have hml:=uZ hn;have hol:=vP d;have hdn:(II d&&IZ m)=true:=by rw[hd,hn];rfl
 have Hd:=G6 hd;have Hn:=G6 hn;clear hd hn;generalize hO:RG d=O at hol;have HO:=G6 hO;clear hO;have hz:((AQ O.toArray)++(AQ m.toArray)).size=O.length+m.length:=by rw[PD,DK];show (O++m).length=_;simp
 by_cases hf:O.length+m.length<=200
 .obtain⟨h1,h2⟩:=vT hdn (by rw[G5 HO];simpa using hf);have H1:=G6 h1;have H2:=G6 h2;clear h1 h2 hdn;go_enter func221,ntmps221;go_wp2_with fail;refine(LY _ _).mono ?_;rintro e w1 ⟨rfl,hb1⟩;rw[show (AQ d.toArray).data.toList=d from rfl,G5 Hd];go_wp2_with fail;refine(U6 _ _ (TV hm)).mono ?_;rintro e w2 ⟨rfl,rfl⟩;rw[show (AQ m.toArray).data.toList=m from rfl,G5 Hn];go_wp2_with fail;refine(jL _ _ (by omega)).mono ?_;rintro e w3 ⟨rfl,rfl⟩;rw[G5 HO];go_wp2_with fail
  go_ret2
  exact⟨iE (by rw[G5 H1,G5 HO];exact PD O m) (G5 H2).symm,hb1⟩
 .obtain⟨h1,h2⟩:=vS hdn (by rw[G5 HO];simp;omega);have H1:=G6 h1;have H2:=G6 h2;clear h1 h2 hdn;go_enter func221,ntmps221;go_wp2_with fail;refine(LY _ _).mono ?_;rintro e w1 ⟨rfl,hb1⟩;rw[show (AQ d.toArray).data.toList=d from rfl,G5 Hd];go_wp2_with fail;refine(U6 _ _ (TV hm)).mono ?_;rintro e w2 ⟨rfl,rfl⟩;rw[show (AQ m.toArray).data.toList=m from rfl,G5 Hn];go_wp2_with fail;refine(jL _ _ (by omega)).mono ?_;rintro e w3 ⟨rfl,rfl⟩;rw[G5 HO];go_wp2_with fail
  go_ret2
  exact⟨iE (by rw[G5 H1]) (G5 H2).symm,hb1⟩
theorem BX9{a b:List UInt8}(h:BX8 a b=true):II a=true/\II b=true/\a≠b/\RG b<+:a:=by
 simp only[BX8,Lib.hasPrefix,BZ,Bool.not_eq_true',beq_eq_false_iff_ne,List.isPrefixOf_iff_prefix]at h;exact⟨h.1.1.1,h.1.1.2,h.1.2,h.2⟩
theorem jM{a:List UInt8}(h:II a=true):[47]<+:a:=by
 simp only[II,Lib.hasPrefix,BZ,List.isPrefixOf_iff_prefix]at h;exact h.1.2
theorem vU(a b:List UInt8)(hb:47∉b):Lib.lastIndexByte ⟨(a++47::b).toArray⟩ 47=a.length:=by
 have hat:∀j,j<(a++47::b).length->((AQ (a++47::b).toArray).data[j]!)=(a++47::b)[j]! :=fun j hj=>by simp
 rcases Lib.lastIndexByte_spec ⟨(a++47::b).toArray⟩ 47 with⟨_,h⟩|⟨i,hi,e,hc,hn⟩
 .exact absurd (by simp) (h a.length (by show a.length<(a++47::b).toArray.size;simp))
 .rw[e];have hi':i<(a++47::b).length:=by
   have:i<(a++47::b).toArray.size:=hi;simpa using this
  have h1:a.length<=i:=by
   apply Nat.le_of_not_lt
   intro hlt;exact hn a.length hlt (by show a.length<(a++47::b).toArray.size;simp) (by simp)
  by_cases h2:i=a.length
  .rw[h2]
  .exfalso
   apply hb
   have hlt:i-a.length-1<b.length:=by simp at hi';omega
   have hb':(a++47::b)[i]! =b[i-a.length-1]! :=by
    rw[List.getElem!_eq_getElem?_getD,List.getElem!_eq_getElem?_getD,List.getElem?_append_right h1];obtain⟨k,hk⟩:∃k,i-a.length=k+1:=⟨i-a.length-1,by omega⟩;rw[hk];simp
   rw[hat i hi',hb']at hc;have hm:b[i-a.length-1]! ∈b:=by
    rw[List.getElem!_eq_getElem?_getD,List.getElem?_eq_getElem hlt];simp
   have:b[i-a.length-1]! =47:=by
    apply UInt8.toNat_inj.1
    show _=47;omega
   rwa[this]at hm
theorem AX5(a b:List UInt8):(AQ (a++47::b).toArray).extract 0 a.length=⟨a.toArray⟩:=by
 rw[uY];simp
theorem BH7(a b:List UInt8):(AQ (a++47::b).toArray).extract (a.length+1) (a.length+b.length+1)=⟨b.toArray⟩:=by
 have:=A93 (a++47::b) (a.length+1);rw[show (a++47::b).length=a.length+b.length+1 from by simp;omega]at this;rw[this];have e:(a++47::b).drop (a.length+1)=b:=by rw[<-List.drop_drop];simp
 rw[e]
def BE8(a:List UInt8):List UInt8:=if a=[]then [47]else a
theorem aU:BE8 []=[47]:=by rw[BE8,if_pos rfl]
theorem dX{a:List UInt8}(h:a≠[]):BE8 a=a:=by rw[BE8,if_neg h]
theorem vV{c d:ByteArray}(h:a=b)(h1:c=d)(h':i=j):DV (.tuple #[.string a,.string c,I0 i])=.returned (.tuple #[.string b,.string d,I0 j]):=by rw[h,h1,h']
theorem AJ9(a b:List UInt8)(w:FU)(hb:47∉b)(hg:II (a++47::b)=true)(hne:a++47::b≠[47]):
  FW prog 195 #[S0 (a++47::b)] w fun e w'=>
   e=.returned (.tuple #[S0 (BE8 a),S0 b,I0 0])/\B0 w w':=by
 have hl:a.length+b.length+1<=200:=by have:=MP hg;simp at this;omega
 have hne1:(a++47::b==[47])=false:=by simpa using hne
 have Hg:=G6 hg;have Hi:=G6 (vU a b hb);clear hg hne hb;have hz:(AQ (a++47::b).toArray).size=a.length+b.length+1:=by rw[DK];show (a++47::b).length=_;simp;omega
 have Hc1:=G6 (AX5 a b);have Hc2:=G6 (BH7 a b);generalize a++47::b=l at*;go_enter func195,ntmps195;go_wp2_with fail;refine(LY _ _).mono ?_;rintro e w1 ⟨rfl,hb1⟩;rw[show (AQ l.toArray).data.toList=l from rfl,G5 Hg];go_wp2_with fail;refine(strings_LastIndexByte _ _ (by omega) _).mono ?_;rintro e w2 ⟨rfl,rfl⟩;rw[G5 Hi];go_wp2_with fail;have cA:∀d os,FW prog 40 #[.string ((AQ l.toArray).extract 0 a.length)] (Sort.grow (redrawn w2 d) os) fun e w''=>e=.returned (S0 a)/\∃p:Regrown,w''=Sort.grow (redrawn w2 p.d) p.os:=
  fun d os=>Calls.regrown_of (by rw[G5 Hc1];exact WU _ _ (by rw[DK];show a.length<=_;omega))
 have cB:∀d os,FW prog 40 #[.string ((AQ l.toArray).extract (a.length+1) (a.length+b.length+1))] (Sort.grow (redrawn w2 d) os) fun e w''=>e=.returned (S0 b)/\∃p:Regrown,w''=Sort.grow (redrawn w2 p.d) p.os:=
  fun d os=>Calls.regrown_of (by rw[G5 Hc2];exact WU _ _ (by rw[DK];show b.length<=_;omega))
 have n1:(a.length:Int)<=a.length+b.length+1:=by omega
 have n2:(a.length:Int)<=a.length+b.length:=by omega
 have n3:IntKind.i64.wrap ((a.length:Int)+1)=(a.length:Int)+1:=by rw[IntKind.wrap_i64];omega
 have n4:(0:Int)<=(a.length:Int)+1:=by omega
 refine wp_region_quiet_below (by kernel_rfl) (by kernel_rfl) ?_
 repeat (quiet_step (first|exact cA _ _|exact cB _ _))
 refine wpQuiet_nil ?_;intro _ hw';obtain⟨⟨dq,osq⟩,hw''⟩:=hw';subst hw'';clear cA cB;have hb2:B0 w (Sort.grow (redrawn w2 dq) osq):=SB hb1 (below_regrown w2 dq osq)
 cases he:a.isEmpty
 .go_wp2
  go_ret3
  exact⟨vV (by rw[dX (by rintro rfl;simp at he)]) rfl rfl,hb2⟩
 .obtain rfl:a=[]:=by simpa using he
  go_wp2
  go_ret3
  exact⟨vV (by rw[aU]) rfl rfl,hb2⟩
theorem AX6(l:List UInt8)(w:FU)(hg:II l=false):
  FW prog 195 #[S0 l] w (R0 w (.tuple #[.string ⟨#[]⟩,.string ⟨#[]⟩,I0 2])):=by
 have Hg:=G6 hg;clear hg;go_enter func195,ntmps195;go_wp2_with fail;refine(LY _ _).mono ?_;rintro e w1 ⟨rfl,hb1⟩;rw[show (AQ l.toArray).data.toList=l from rfl,G5 Hg];go_wp2_with fail
 go_ret3
 exact⟨rfl,hb1⟩
theorem AK0(w:FU):
  FW prog 195 #[.string ⟨#[47]⟩] w (R0 w (.tuple #[.string ⟨#[]⟩,.string ⟨#[]⟩,I0 7])):=by
 go_enter func195,ntmps195;go_wp2_with fail;refine(LY _ _).mono ?_;rintro e w1 ⟨rfl,hb1⟩;rw[show (AQ #[47]).data.toList=[47]from rfl,YH];go_wp2_with fail
 go_ret3
 exact⟨rfl,hb1⟩
theorem A08(hg:II l=true)(hne:l≠[47]):
  ∃a b,l=a++47::b/\47∉b/\IZ b=true/\II (BE8 a)=true/\RG (BE8 a)++b=l/\MN l=MN (BE8 a)++[b]:=by
 obtain⟨r,rfl⟩:∃r,l=47::r:=by
  obtain⟨t,ht⟩:=jM hg;exact⟨t,ht.symm⟩
 have hr:r≠[]:=by rintro rfl;exact hne rfl
 rw[U8 r hr,BZ,decide_eq_true_eq]at hg;obtain⟨hlen,hall⟩:=hg;have hst:MN (47::r)=KL r:=by
  rw[MN,if_neg hne,Lib.trimPrefix,if_pos (by simp[Lib.hasPrefix,List.isPrefixOf])];rfl
 obtain⟨a,b,e,hb⟩:=dU (47::r) (by simp);refine⟨a,b,e,hb,?_⟩
 cases a with
 |nil=>
  simp only[List.nil_append,List.cons.injEq,true_and]at e;subst e;rw[aP r hb]at hall hst;refine⟨by simpa using hall,by rw[aU];exact YH,by rw[aU,dV];rfl,?_⟩;rw[hst,aU,MN,if_pos rfl];rfl
 |cons c a=>
  simp only[List.cons_append,List.cons.injEq]at e;obtain⟨rfl,rfl⟩:=e;rw[VD a b hb]at hall hst;rw[List.all_append,BZ]at hall;have ha:a≠[]:=by
   rintro rfl;have h:=hall.1;rw[show KL []=[[]]from rfl]at h;simp[qP]at h
  have hd:BE8 (47::a)=47::a:=dX (by simp);have hd1:(47::a:List UInt8)≠[47]:=by simp[ha]
  refine⟨by simpa using hall.2,?_,?_,?_⟩
  .rw[hd,U8 a ha,hall.1,Bool.and_true,decide_eq_true_eq];simp at hlen;omega
  .rw[hd,ZM hd1];simp
  .rw[hst,hd,MN,if_neg hd1,Lib.trimPrefix,if_pos (by simp[Lib.hasPrefix,List.isPrefixOf])];rfl
theorem AK1(hd:II d=true)(hm:IZ m=true)(hl:(RG d++m).length<=200):
  ∃a,RG d++m=a++47::m/\47∉m/\BE8 a=d/\II (RG d++m)=true/\RG d++m≠[47]/\MN (RG d++m)=MN d++[m]:=by
 have hno:=mW hm;have hm1:=(uZ hm).1;have hmn:m≠[]:=by rintro rfl;simp at hm1
 obtain⟨r,rfl⟩:∃r,d=47::r:=by
  obtain⟨t,ht⟩:=jM hd;exact⟨t,ht.symm⟩
 by_cases hr:r=[]
 .subst hr;rw[dV]at hl⊢;have hne:([47]++m:List UInt8)≠[47]:=by simp[hmn]
  have hst:MN ([47]++m)=[m]:=by
   rw[MN,if_neg hne,Lib.trimPrefix,if_pos (by simp[Lib.hasPrefix,List.isPrefixOf])];exact aP m hno
  refine⟨[],rfl,hno,aU,?_,hne,?_⟩
  .show II (47::m)=true;rw[U8 m hmn,aP m hno];simp at hl;simp[hm];omega
  .rw[hst,MN,if_pos rfl];rfl
 .have hd1:(47::r:List UInt8)≠[47]:=by simp[hr]
  rw[ZM hd1]at hl⊢;have e:(47::r)++[47]++m=47::(r++47::m):=by simp
  have hst:MN (47::(r++47::m))=KL r++[m]:=by
   rw[MN,if_neg (by simp),Lib.trimPrefix,if_pos (by simp[Lib.hasPrefix,List.isPrefixOf])];exact VD r m hno
  have hd2:=hd;rw[U8 r hr,BZ,decide_eq_true_eq]at hd2;refine⟨47::r,by simp,hno,dX (by simp),?_,by simp,?_⟩
  .rw[e,U8 _ (by simp),VD r m hno,List.all_append,hd2.2];simp at hl;simp[hm];omega
  .rw[e,hst,MN,if_neg hd1,Lib.trimPrefix,if_pos (by simp[Lib.hasPrefix,List.isPrefixOf])];rfl
