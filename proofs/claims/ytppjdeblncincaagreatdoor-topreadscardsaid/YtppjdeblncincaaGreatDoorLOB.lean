/-
  Part.
-/
import Derived.RangeFuncNested
import Derived.RangeFuncBound
import Derived.Test.YtppjdeblncincaaGreatDoorRows
import Derived.Test.YtppjdeblncincaaGreatDoorLOA
import Derived.WalkSpells
import Derived.WalkLawsBesides
import Derived.Test.YtppjdeblncincaaGreatDoorShelf
set_option maxRecDepth 20000
set_option maxHeartbeats 8000000
namespace Go.Proofs.YtppjdeblncincaaGreatDoor
open Go.RowKit Go.Proofs.Tryz
open _root_.Nat renaming le_refl->A8,lt_of_lt_of_le->AY
open Go.RowKit.Below renaming refl->AA,heap_setCell->BG
open _root_.Array renaming getElem?_eq_some_iff->AL
open _root_.ByteArray renaming mk->AU
open _root_.List renaming length_cons->BH,length_nil->EW
open Go.Lib renaming size_eq->DN,decDigits->EM
open Go.Ending renaming returned->DX
open Go.World renaming size_alloc->FT
open Go.Obj renaming cells->FV
open Go renaming World->FW,Value->FX,Calls->FZ
open _root_.Option renaming none->G5,some->G6
variable{n1:Nat}{l m d:List UInt8}{a b:ByteArray}{w:FW}{t:TypeId}{i j:Int}
structure ZF(n1:Nat)(W W':FW):Prop where
 size:W.heap.size<=W'.heap.size
 block:∀k,n1<=k->k<W.heap.size->W'.heap[k]?=W.heap[k]?
theorem ZF.refl(n1:Nat)(W:FW):ZF n1 W W:=⟨A8 _,fun _ _ _=>rfl⟩
theorem ZF.trans{A B C:FW}(h:ZF n1 A B)(k:ZF n1 B C):ZF n1 A C:=
 ⟨Nat.le_trans h.size k.size,fun i hi hl=>(k.block i hi (AY hl h.size)).trans (h.block i hi hl)⟩
theorem ZF.putObj{l:Nat}(W:FW)(o:Obj)(h:l<n1):ZF n1 W (W.putObj l o):=
 ⟨by simp,fun k hk _=>World.putObj_heap_other (by omega)⟩
theorem ZF.setCell(W:FW){p:Addr}(v:FX)(h:p.block<n1):ZF n1 W (W.setCell p v):=
 ⟨(KeepsWalks.setCell W p v).size,fun k hk _=>BG W p v k (by omega)⟩
def CR7{α:Type}(F:Fence)(n:Nat)(P:Program)(g:Nat)(lb:Array FX)(encs:α->Array FX)(St Kp:FW->FW->Prop)(xs:List α)(W:FW):Prop:=
 ∀ (l:Nat) (J Jx:List α->FW->Prop),(∀s A B,J s A->St A B->J s B)->(∀s A B,Jx s A->St A B->Jx s B)->
  (∀pre x W1,J pre W1->pre++[x]<+:xs->YieldAt F (n-1) P l (encs x) W1 fun e W'=>
   (e=.returned (.bool true)/\J (pre++[x]) W'/\Kp W1 W')\/(e=.returned (.bool false)/\Jx (pre++[x]) W'/\Kp W1 W'))->
  J [] W->
  CallsIn F n P g (#[.func (.yield l) #[] #[]]++lb) W fun e W'=>(∃v,e=.returned v)/\(J xs W'\/∃pre,pre<+:xs/\Jx pre W')
def CT9{α:Type}(D l:Nat)(Kp:FW->FW->Prop)(I:List α->FW->Prop)(Ix:Code->List α->FW->Prop)(xs:List α)(W:FW):Exit->Act->FW->Prop
 | .normal,_,W'=>W'.heap[D]?=W.heap[D]? /\W'.heap[l]?=W.heap[l]? /\Kp W W'/\I xs W'
 | .ret,_,W'=>W'.heap[D]?=W.heap[D]? /\W'.heap[l]?=W.heap[l]? /\Kp W W'/\Ix .ret xs W'
 | .exit id,_,W'=>W'.heap[D]?=W.heap[D]? /\W'.heap[l]?=W.heap[l]? /\Kp W W'/\Ix (.exit id) xs W'
 | .goto t,_,W'=>W'.heap[D]?=W.heap[D]? /\W'.heap[l]?=W.heap[l]? /\Kp W W'/\Ix (.goto t) xs W'
 | .panic _,_,_=>False
 | .outgrown,_,_=>False
variable {F:Fence} {n:Nat} {P:Program}
theorem VU{α:Type}{g:Operand}{ps:Array Tmp}{assign body:Code}{Q:Exit->Act->FW->Prop}{a:Act}{w:FW}
  (hro:F.round=G5) (h1:1<=n) {gf:Nat} {lb:Array FX} (hg:a.eval g=.func (.func gf) #[] lb) (hFg:F.fn gf) (eg:∀args w,(callFunc gf args).run P w=.ok (.enter gf args) w)
  {encs:α->Array FX} {St Kp:FW->FW->Prop} {xs:List α}
  (hseq:∀o1 o2,CR7 F (n-1) P gf lb encs St Kp xs ((w.alloc o1).alloc o2))
  (hSt:∀A B k,St A B->k=w.heap.size\/k=w.heap.size+1->k<A.heap.size->B.heap[k]?=A.heap[k]?)
  (hKt:∀A B C,Kp A B->Kp B C->Kp A C) (hKb:∀W o,Kp W (W.putObj (w.heap.size+1) o)) (hps:∀x,(encs x).size=ps.size)
  (I:List α->FW->Prop) (Ix:Code->List α->FW->Prop) (hI:∀s A B,I s A->St A B->I s B) (hIx:∀c s A B,Ix c s A->St A B->Ix c s B)
  (hIp:∀s A o,I s A->I s (A.putObj (w.heap.size+1) o)) (CR8:∀c s A o,Ix c s A->Ix c s (A.putObj (w.heap.size+1) o))
  (h0:∀o1 o2,I [] ((w.alloc o1).alloc o2)) (a₁:α->Act)
  (hassign:∀ (x:α) (W:FW) (K:Act->FW->Prop),K (a₁ x) W->
   assign.wpIn (F.inRound (w.heap.size+1)) (n-1-1) P (Exit.then K (fun _ _ _=>False)) {tmps:=(ps.zip (encs x)).foldl (fun t (p,v)=>t.setIfInBounds p v) a.tmps,defers:=[]} W)
  (hbody:∀ (pre:List α) (x:α) (W:FW),I pre W->pre++[x]<+:xs->w.heap.size+1<W.heap.size->
   body.wpIn (F.inRound (w.heap.size+1)) (n-1-1) P (CT9 w.heap.size (w.heap.size+1) Kp I Ix (pre++[x]) W) (a₁ x) W)
  (hdone:∀ (W:FW),I xs W->W.heap[w.heap.size]?=G6 (.deferred (G6 []))->Q .normal {a with defers:={target:=.collected w.heap.size,args:=#[]}::a.defers} W)
  (hstop:∀ (c:Code) (pre:List α) (W:FW),pre<+:xs->Ix c pre W->W.heap[w.heap.size]?=G6 (.deferred (G6 []))->c.wpIn F n P Q {a with defers:={target:=.collected w.heap.size,args:=#[]}::a.defers} W):
  (Code.rangeFunc g ps assign body).wpIn F n P Q a w:=by
 refine wpIn_rangeFunc ?_;intro fn hfn;rw[hro];obtain⟨rec,hrec⟩:∃rec:LoopState->Option Code->Loop,rec=fun st pe=>{state:=st,pending:=pe,fn,tmps:=a.tmps,params:=ps,assign,body,defers:=w.heap.size}:=⟨_,rfl⟩;obtain⟨W1,hW1⟩:∃W1,(w.alloc (.deferred (G6 []))).alloc (.loop (rec .ready G5))=W1:=⟨_,rfl⟩;have hL1:W1.heap[w.heap.size+1]?=G6 (.loop (rec .ready G5)):=by
  rw[<-hW1];have:=World.alloc_heap_new (w.alloc (.deferred (G6 []))) (.loop (rec .ready G5));rwa[FT]at this
 have hK1:W1.heap[w.heap.size]?=G6 (.deferred (G6 [])):=by
  rw[<-hW1];exact(Below.heap_alloc _ _ _ (by simp)).trans (World.alloc_heap_new w _)
 have hI1:I [] W1:=by rw[<-hW1];exact h0 _ _
 have hS1:CR7 F (n-1) P gf lb encs St Kp xs W1:=by rw[<-hW1];exact hseq _ _
 refine⟨w.heap.size+1,[{target:=.collected w.heap.size,args:=#[]}],W1,{target:=.fn (.func gf) lb,args:=#[.func (.yield (w.heap.size+1)) #[] #[]]},W1,gf,
  #[.func (.yield (w.heap.size+1)) #[] #[]]++lb,W1,?_,?_,?_,?_,fun _=>h1,?_⟩
 .rw[<-hW1,hrec];exact run_enterLoop_outer _ _ _ _ _
 .simp only[resolve,hg];simp[go_sem]
 .intro f' hf';simp[Target.leads]at hf';subst hf';exact hFg
 .simp[invoke,go_sem,eg]
 .refine(hS1 (w.heap.size+1)
   (fun pre W=>I pre W/\W.heap[w.heap.size+1]?=G6 (.loop (rec .ready G5))/\W.heap[w.heap.size]?=G6 (.deferred (G6 [])))
   (fun pre W=>∃c,Ix c pre W/\W.heap[w.heap.size+1]?=G6 (.loop (rec .done (G6 c)))/\W.heap[w.heap.size]?=G6 (.deferred (G6 [])))
   (fun s A B hs hg'=>⟨hI s A B hs.1 hg',(hSt A B _ hg' (.inr rfl) (AL.1 hs.2.1).1).trans hs.2.1,(hSt A B _ hg' (.inl rfl) (AL.1 hs.2.2).1).trans hs.2.2⟩)
   (fun s A B hs hg'=>by
    obtain⟨c,hc,hl,hk⟩:=hs;exact⟨c,hIx c s A B hc hg',(hSt A B _ hg' (.inr rfl) (AL.1 hl).1).trans hl,(hSt A B _ hg' (.inl rfl) (AL.1 hk).1).trans hk⟩)
   ?_ ⟨hI1,hL1,hK1⟩).mono ?_
  .rintro pre x W ⟨hi,hl,hk⟩ hlen;have hlt:w.heap.size+1<W.heap.size:=(AL.1 hl).1;have hy:=run_yield (P:=P) (args:=encs x) hl (by rw[hrec];exact hps x);rw[hrec]at hy;refine⟨fn,_,assign,body,hy,roundIn_of_wpIn hfn (hassign x W _ ⟨_,run_beginRound hl (by rw[hrec]),?_⟩)⟩;have hl2:(W.putObj (w.heap.size+1) (.loop {rec .ready G5 with state:=.busy})).heap[w.heap.size+1]?=G6 (.loop {rec .ready G5 with state:=.busy}):=World.putObj_heap_same hlt;have hk2:(W.putObj (w.heap.size+1) (.loop {rec .ready G5 with state:=.busy})).heap[w.heap.size]?=G6 (.deferred (G6 [])):=(World.putObj_heap_other (by omega)).trans hk;have hw2:Kp W (W.putObj (w.heap.size+1) (.loop {rec .ready G5 with state:=.busy})):=hKb _ _;refine wpIn_mono (hbody pre x _ (hIp _ _ _ hi) hlen (by simpa using hlt)) ?_;have fin:∀ (jump:Option Code) (W3:FW),W3.heap[w.heap.size]?=G6 (.deferred (G6 []))->W3.heap[w.heap.size+1]?=G6 (.loop {rec .ready G5 with state:=.busy})->
     (Instr.endRound (w.heap.size+1) jump).run P W3=.ok (.bool jump.isNone) (W3.putObj (w.heap.size+1) (.loop (rec (if jump.isNone then .ready else .done) jump)))/\
     (W3.putObj (w.heap.size+1) (.loop (rec (if jump.isNone then .ready else .done) jump))).heap[w.heap.size+1]?=G6 (.loop (rec (if jump.isNone then .ready else .done) jump))/\
     (W3.putObj (w.heap.size+1) (.loop (rec (if jump.isNone then .ready else .done) jump))).heap[w.heap.size]?=G6 (.deferred (G6 [])):=fun jump W3 hk3 hl3=>by
    have:=run_endRound (P:=P) jump hl3;rw[hrec]at this⊢;exact⟨this,World.putObj_heap_same (AL.1 hl3).1,(World.putObj_heap_other (by omega)).trans hk3⟩
   rintro e a3 W3 hp
   cases e with
   |normal=>
    obtain⟨hD3,hl3,hkp3,hi3⟩:=hp;obtain⟨hr,hl4,hk4⟩:=fin G5 W3 (hD3.trans hk2) (hl3.trans hl2);exact⟨_,_,hr,.inl ⟨rfl,⟨hIp _ _ _ hi3,hl4,hk4⟩,hKt _ _ _ (hKt _ _ _ hw2 hkp3) (hKb _ _)⟩⟩
   |ret=>
    obtain⟨hD3,hl3,hkp3,hi3⟩:=hp;obtain⟨hr,hl4,hk4⟩:=fin (G6 .ret) W3 (hD3.trans hk2) (hl3.trans hl2);exact⟨_,_,hr,.inr ⟨rfl,⟨.ret,CR8 _ _ _ _ hi3,hl4,hk4⟩,hKt _ _ _ (hKt _ _ _ hw2 hkp3) (hKb _ _)⟩⟩
   |exit id=>
    obtain⟨hD3,hl3,hkp3,hi3⟩:=hp;obtain⟨hr,hl4,hk4⟩:=fin (G6 (.exit id)) W3 (hD3.trans hk2) (hl3.trans hl2);exact⟨_,_,hr,.inr ⟨rfl,⟨.exit id,CR8 _ _ _ _ hi3,hl4,hk4⟩,hKt _ _ _ (hKt _ _ _ hw2 hkp3) (hKb _ _)⟩⟩
   |goto t=>
    obtain⟨hD3,hl3,hkp3,hi3⟩:=hp;obtain⟨hr,hl4,hk4⟩:=fin (G6 (.goto t)) W3 (hD3.trans hk2) (hl3.trans hl2);exact⟨_,_,hr,.inr ⟨rfl,⟨.goto t,CR8 _ _ _ _ hi3,hl4,hk4⟩,hKt _ _ _ (hKt _ _ _ hw2 hkp3) (hKb _ _)⟩⟩
   |panic ch=>exact hp.elim
   |outgrown=>exact hp.elim
  .rintro e W2 ⟨⟨v,rfl⟩,(⟨hi,hl,hk⟩|⟨pre,hSp,c,hi,hl,hk⟩)⟩
   .exact⟨G5,_,by have:=run_endLoop (P:=P) hl (by rw[hrec];simp);rw[hrec]at this;exact this,hdone _ (hIp _ _ _ hi) ((World.putObj_heap_other (by omega)).trans hk)⟩
   .exact⟨G6 c,_,by have:=run_endLoop (P:=P) hl (by rw[hrec];simp);rw[hrec]at this;exact this,hstop c pre _ hSp (CR8 _ _ _ _ hi) ((World.putObj_heap_other (by omega)).trans hk)⟩
theorem RJ{a b:Bool}(h:a=b):DX (.bool a)=.returned (.bool b):=by rw[h]
theorem nJ(c:UInt8)(w:FW):
  FZ prog 148 #[.int .u8 c.toNat] w fun e w'=>e=.returned (.bool (TW c))/\w'=w:=by
 have hc:=c.toNat_lt;go_enter func148,ntmps148
 go_wp2
 all_goals go_ret
 all_goals exact⟨RJ (by rw[Bool.eq_iff_iff];simp[TW];try omega),rfl⟩
theorem UD(s:ByteArray)(w:FW)(hs:s.size<=maxLen):
  FZ prog 102 #[.string s] w fun e w'=>e=.returned (.bool (JB s.data.toList))/\w'=w:=by
 unfold maxLen at hs;by_cases h1:s.size<1
 .go_enter func102,ntmps102
  go_wp2
  go_ret;exact⟨RJ (tX s h1).symm,rfl⟩
 by_cases h2:40<s.size
 .go_enter func102,ntmps102
  go_wp2
  go_ret;exact⟨RJ (yU s h2).symm,rfl⟩
 go_enter func102,ntmps102
 go_wp2
 go_loop [14] (fun i=>∃k:Nat,k<=s.size/\i=I0 k/\(s.data.toList.take k).all TW=true) (fun i=>s.size-(intOf i).toNat)
 case atStart=>exact⟨0,Nat.zero_le _,rfl,by simp⟩
 case round=>
  obtain⟨k,hk,rfl,hall⟩:=hrel;have zG:=G8 hall;clear hall;by_cases hlt:k<s.size
  .by_cases hl:TW s[k]=true
   .go_wp2_with (go_at_call 148;refine(nJ _ _).mono ?_;rintro e w' ⟨rfl,rfl⟩)
    go_round
    case rel=>exact⟨k+1,by omega,by go_num,VA s k hlt TW (G7 zG) hl⟩
    case measure=>simp[intOf];omega
   .have hl':TW s[k]=false:=by simpa using hl
    clear hl;go_wp2_with (go_at_call 148;refine(nJ _ _).mono ?_;rintro e w' ⟨rfl,rfl⟩);go_ret;exact⟨RJ ((nD s (by omega) (by omega)).trans (dJ s k hlt TW hl')).symm,rfl⟩
  .go_wp2
   go_ret;exact⟨RJ ((nD s (by omega) (by omega)).trans (ZC s k (by omega) TW (G7 zG))).symm,rfl⟩
open Go.Shelf
attribute [local go_sem] Oper.semAt_some
def C14(w:FW)(b:Nat):Nat:=match w.cell? ⟨b,0,G5⟩with
 |some (.string s)=>s.size
 |_=>0
theorem A74{b:Nat}{s:ByteArray}(h:Boxed w b t (.string s)):C14 w b=s.size:=by
 simp[C14,h.cell]
theorem Boxed.of_heap{W W':FW}{B:Nat}{v:FX}(h:Boxed W B t v)(e:W'.heap[B]?=W.heap[B]?):Boxed W' B t v:=e.trans h
theorem uJ(r:List UInt8)(i:Nat):(AU r.toArray).extract 0 i=⟨(r.take i).toArray⟩:=by
 have:=Lib.extract_data ⟨r.toArray⟩ 0 i;rw[List.drop_zero,Nat.sub_zero]at this;exact congrArg (fun l:List UInt8=>AU l.toArray) this
theorem A75(r:List UInt8)(i:Nat):(AU r.toArray).extract i r.length=⟨(r.drop i).toArray⟩:=by
 have:=Lib.extract_data ⟨r.toArray⟩ i r.length;rw[List.take_of_length_le (by simp)]at this;exact congrArg (fun l:List UInt8=>AU l.toArray) this
theorem UE(n:Nat):Fence.wide.depth.isSome=true->1<=n:=fun h=>by cases h
theorem mG(n C15 Bs Bv:Nat)(s:List UInt8)(W:FW)(h1:Bs≠C15)(h2:Bs≠Bv)(hlen:s.length<=1000000)
  (b1:Boxed W C15 9 (.string ⟨#[47]⟩)) (b2:Boxed W Bs 9 (.string ⟨s.toArray⟩)) (b3:Boxed W Bv 3 (.int .i64 0)):
  CR7 Fence.wide n prog 261 #[.pointer (G6 ⟨C15,0,G5⟩),.pointer (G6 ⟨Bs,0,G5⟩),.pointer (G6 ⟨Bv,0,G5⟩)] (fun x:List UInt8=>#[.string ⟨x.toArray⟩])
   (fun A B=>∃v,B=A.setCell ⟨Bs,0,G5⟩ v) (fun A B=>∀k,k=C15\/k=Bs\/k=Bv->B.heap[k]?=A.heap[k]?) (N7 s) W:=by
 intro l J Jx hJ hJx hY h0;refine callsIn_of_wp func261 rfl trivial ?_ rfl;simp only[ntmps261,List.size_toArray,BH,EW,Nat.reduceAdd,Nat.reduceSub,Array.replicate_succ,Array.replicate_zero,List.push_toArray,List.append_toArray,List.nil_append,List.cons_append];have c1:=b1.cell;have HY:=G8 hY;have HJ:=G8 hJ;have HJx:=G8 hJx;clear hY hJ hJx
 gi_wp2
 clear c1
 gi_loopw [7] (fun _ wr=>∃ (pre:List (List UInt8)) (r:List UInt8),N7 s=pre++N7 r/\r.length<=1000000/\Boxed wr C15 9 (.string ⟨#[47]⟩)/\Boxed wr Bs 9 (.string ⟨r.toArray⟩)/\Boxed wr Bv 3 (.int .i64 0)/\J pre wr)
  (fun _ wr=>C14 wr Bs)
 case atStart=>exact⟨[],s,rfl,hlen,b1,b2,b3,h0⟩
 case round=>
  clear b1 b2 b3 h0 hlen;obtain⟨pre,r,hpre,hlen,b1,b2,b3,hJs⟩:=hrel;have CF1:=G8 hpre;clear hpre;have c1:=b1.cell;have c2:=b2.cell;have c3:=b3.cell;have f2:=b2.frozen;have hz:(AU r.toArray).size=r.length:=DN ⟨r.toArray⟩;rcases jA r with hi|⟨i,hi⟩
  .have Hs:=G8 (iY r hi);have Hi:=G8 hi;clear hi;obtain⟨fn,tmps,assign,body,hy,hR⟩:=G7 HY pre r wr hJs (by rw[G7 CF1,G7 Hs];exact List.prefix_refl _)
   gi_wp2_with fail
   refine⟨trivial,UE _,(callsIn_wide.2 (strings_Index_one _ _ _)).mono ?_⟩;rintro e w' ⟨rfl,rfl⟩;rw[show (AU r.toArray).data.toList=r from rfl,G7 Hi]
   gi_wp2
   refine⟨UE _,hR.mono ?_⟩;rintro e W3 (⟨rfl,hJ3,_⟩|⟨rfl,hJx3,_⟩)
   .gi_wp2
    go_end0
    exact⟨⟨_,rfl⟩,.inl (by rw[G7 CF1,G7 Hs];exact hJ3)⟩
   .gi_wp2
    go_end0
    exact⟨⟨_,rfl⟩,.inr ⟨_,by rw[G7 CF1,G7 Hs];exact List.prefix_refl _,hJx3⟩⟩
  .obtain⟨hil,hsp⟩:=iZ r i hi;have Hs:=G8 hsp;have Hi:=G8 hi;clear hi hsp;obtain⟨fn,tmps,assign,body,hy,hR⟩:=G7 HY pre (r.take i) wr hJs (by rw[G7 CF1,G7 Hs];simp)
   gi_wp2_with fail
   refine⟨trivial,UE _,(callsIn_wide.2 (strings_Index_one _ _ _)).mono ?_⟩;rintro e w' ⟨rfl,rfl⟩;rw[show (AU r.toArray).data.toList=r from rfl,G7 Hi];rw[<-uJ r i]at hy
   gi_wp2
   refine⟨UE _,hR.mono ?_⟩;rintro e W3 (⟨rfl,hJ3,hk3⟩|⟨rfl,hJx3,hk3⟩)
   .have d1:=Boxed.of_heap b1 (hk3 C15 (.inl rfl));have d2:=Boxed.of_heap b2 (hk3 Bs (.inr (.inl rfl)));have d3:=Boxed.of_heap b3 (hk3 Bv (.inr (.inr rfl)));have Hl:=G8 (A74 b2);clear c1 c2 c3 f2 b1 b2 b3 hk3 hy hR;have c1:=d1.cell;have c2:=d2.cell;have f2:=d2.frozen
    gi_wp2
    rw[A75];refine⟨⟨pre++[r.take i],r.drop (i+1),by rw[G7 CF1,G7 Hs];simp,by simp;omega,Boxed.of_heap d1 (BG W3 _ _ C15 (Ne.symm h1)),d2.set _,
     Boxed.of_heap d3 (BG W3 _ _ Bv (Ne.symm h2)),G7 HJ _ _ _ hJ3 ⟨_,rfl⟩⟩,?_⟩
    rw[A74 (d2.set _),G7 Hl];show (r.drop (i+1)).toArray.size<r.toArray.size;simp;omega
   .gi_wp2
    refine bodyPost_ret (results_none rfl _ _ _) rfl ?_;exact⟨⟨_,rfl⟩,.inr ⟨pre++[r.take i],by rw[G7 CF1,G7 Hs];simp,hJx3⟩⟩
attribute [local go_sem] Oper.semAt_some
theorem MN{l:Nat}(W:FW)(o:Obj)(h:n1<=l):Below n1 W (W.putObj l o):=
 ⟨rfl,rfl,rfl,by simp,fun k hk=>World.putObj_heap_other (by omega)⟩
theorem QK{W:FW}{B l:Nat}{v:FX}(o:Obj)(h:Boxed W B t v)(hne:B≠l):Boxed (W.putObj l o) B t v:=(World.putObj_heap_other hne).trans h
theorem mJ(s sep:ByteArray)(w:FW):
  FZ prog 207 #[.string s,.string sep] w fun e w'=>
   e=.returned (.func (.func 261) #[] #[.pointer (G6 ⟨w.heap.size+1,0,G5⟩),.pointer (G6 ⟨w.heap.size,0,G5⟩),.pointer (G6 ⟨w.heap.size+1+1,0,G5⟩)])/\
   w'=((w.alloc (FV #[.string s] 9)).alloc (FV #[.string sep] 9)).alloc (FV #[I0 0] 3):=by
 go_enter func207,ntmps207
 go_wp2
 go_ret;exact⟨rfl,rfl⟩
theorem AG5{n m l0:Nat}{P:Program}{l:Nat}{f:FuncId}{tmps:Array FX}{assign body:Code}{R:Ending->FW->Prop}(h:RoundIn Fence.wide n P l f tmps assign body w R):RoundIn (Fence.wide.inRound l0) m P l f tmps assign body w R:=
 ⟨h.1,fun c cs _=>h.2 c cs (room_wide _)⟩
theorem AG6(W:FW)(v0 v1 v2 v3:FX)(t0 t1 t2 t3:TypeId)(W0:FW)(h:(((W.alloc (FV #[v0] t0)).alloc (FV #[v1] t1)).alloc (FV #[v2] t2)).alloc (FV #[v3] t3)=W0):
  W0.heap.size=W.heap.size+4/\Boxed W0 W.heap.size t0 v0/\Boxed W0 (W.heap.size+1) t1 v1/\Boxed W0 (W.heap.size+2) t2 v2/\Boxed W0 (W.heap.size+3) t3 v3/\B0 W W0:=by
 subst h;refine⟨by simp,(((Boxed.new W t0 v0).alloc _).alloc _).alloc _,?_,?_,?_,?_⟩
 .have:=Boxed.new (W.alloc (FV #[v0] t0)) t1 v1;rw[FT]at this;exact(this.alloc _).alloc _
 .have:=Boxed.new ((W.alloc (FV #[v0] t0)).alloc (FV #[v1] t1)) t2 v2;rw[FT,FT]at this;exact this.alloc _
 .have:=Boxed.new (((W.alloc (FV #[v0] t0)).alloc (FV #[v1] t1)).alloc (FV #[v2] t2)) t3 v3;rw[FT,FT,FT]at this;exact this
 .exact((((AA _ W).alloc (A8 _) _).alloc (by simp) _).alloc (by simp;omega) _).alloc (by simp;omega) _
theorem zH(n Bp:Nat)(s:List UInt8)(W:FW)(hn:1<=n)(hlen:s.length<=1000000)(bp:Boxed W Bp 9 (S0 s)):
  CR7 Fence.wide n prog 206 #[P0 Bp] (fun x:List UInt8=>#[S0 x])
   (Below W.heap.size) (ZF W.heap.size) (YU s) W:=by
 intro l J Jx hJ hJx hY h0;refine callsIn_of_wp_marks func206 rfl trivial ?_ rfl;simp only[ntmps206,List.size_toArray,BH,EW,Nat.reduceAdd,Nat.reduceSub,Array.replicate_succ,Array.replicate_zero,List.push_toArray,List.append_toArray,List.nil_append,List.cons_append];have cp:=bp.cell;have cp':=(bp.alloc (FV #[.func (.yield l) #[] #[]] 178)).cell;have HY:=G8 hY;have HJ:=G8 hJ;have HJx:=G8 hJx;clear hY hJ hJx;by_cases hroot:s=[47]
 .subst hroot
  gi_wp2
  refine⟨_,results_none rfl _ _ _,⟨_,rfl⟩,.inl ?_⟩;exact G7 HJ _ _ _ h0 ((AA _ W).alloc (A8 _) _)
 .have hr1:(s==[47])=false:=by simpa using hroot
  have Hst:Hid (YU s=N7 (Lib.trimPrefix s [47])):=by rw[YU,if_neg hroot];exact rfl
  clear hroot
  gi_wp2_with fail
  refine⟨trivial,(callsIn_wide.2 (strings_TrimPrefix _ _ _)).mono ?_⟩;rintro e w' ⟨rfl,rfl⟩;rw[show (AU s.toArray).data.toList=s from rfl,show (AU #[47]).data.toList=[47]from rfl];generalize hR:Lib.trimPrefix s [47]=R;have hRl:R.length<=1000000:=by
   have:=Lib.trimPrefix_le s [47];rw[<-hR];omega
  have CU0:Hid (YU s=N7 R):=by rw[<-hR];exact Hst
  clear hR Hst hr1 cp cp'
  gi_wp2_with fail
  refine⟨trivial,(callsIn_wide.2 (mJ _ _ _)).mono ?_⟩;rintro e w' ⟨rfl,rfl⟩
  gi_wp2_with fail
  generalize hW0:(((W.alloc (FV #[.func (.yield l) #[] #[]] 178)).alloc (FV #[S0 R] 9)).alloc (FV #[.string ⟨#[47]⟩] 9)).alloc (FV #[I0 0] 3)=W0;obtain⟨hsz,k0,k1,k2,k3,kb⟩:=AG6 _ _ _ _ _ _ _ _ _ W0 hW0;clear hW0;refine VU (α:=List UInt8) rfl hn (gf:=261) (lb:=#[.pointer (G6 ⟨W.heap.size+2,0,G5⟩),.pointer (G6 ⟨W.heap.size+1,0,G5⟩),.pointer (G6 ⟨W.heap.size+3,0,G5⟩)]) rfl trivial (enters_of func261 (by kernel_rfl) rfl)
   (fun o1 o2=>mG (n-1) (W.heap.size+2) (W.heap.size+1) (W.heap.size+3) R _ (by omega) (by omega) hRl ((k2.alloc o1).alloc o2) ((k1.alloc o1).alloc o2) ((k3.alloc o1).alloc o2))
   (fun A B k hs hk hl=>by obtain⟨v,rfl⟩:=hs;exact BG A _ _ k (by show k≠W.heap.size+1;omega))
   (fun A B C h k i hi=>(k i hi).trans (h i hi)) (fun A o k hk=>World.putObj_heap_other (by omega)) (fun _=>rfl)
   (fun pre A=>J pre A/\Boxed A W.heap.size 178 (.func (.yield l) #[] #[]))
   (fun c pre A=>c=.ret/\Jx pre A)
   (fun pre A B hs hg=>by
    obtain⟨v,rfl⟩:=hg;exact⟨G7 HJ _ _ _ hs.1 ((AA _ A).setCell (p:=⟨W.heap.size+1,0,G5⟩) (by simp) v),Boxed.of_heap hs.2 (BG A _ _ _ (by show W.heap.size≠W.heap.size+1;omega))⟩)
   (fun c pre A B hs hg=>by
    obtain⟨v,rfl⟩:=hg;exact⟨hs.1,G7 HJx _ _ _ hs.2 ((AA _ A).setCell (p:=⟨W.heap.size+1,0,G5⟩) (by simp) v)⟩)
   (fun pre A o hs=>⟨G7 HJ _ _ _ hs.1 (MN A o (by omega)),QK o hs.2 (by omega)⟩)
   (fun c pre A o hs=>⟨hs.1,G7 HJx _ _ _ hs.2 (MN A o (by omega))⟩)
   (fun o1 o2=>⟨G7 HJ _ _ _ h0 ((kb.alloc (by omega) o1).alloc (by simp;omega) o2),(k0.alloc o1).alloc o2⟩)
   (fun x=>{tmps:=#[.func (.yield l) #[] #[],P0 Bp,.pointer (G6 ⟨W.heap.size,0,G5⟩),S0 x,S0 s,.bool false,S0 s,S0 R,
    .func (.func 261) #[] #[.pointer (G6 ⟨W.heap.size+2,0,G5⟩),.pointer (G6 ⟨W.heap.size+1,0,G5⟩),.pointer (G6 ⟨W.heap.size+3,0,G5⟩)],S0 x,undef,undef,undef,undef],defers:=[]})
   ?assign ?body ?done ?stop
  case assign=>
   intro x A K hK
   gi_wp2
   exact hK
  case body=>
   rintro pre x A ⟨hJA,hbx⟩ hpre hlt;have cx:=hbx.cell;obtain⟨fn,tmps,assign,body,hy,hR⟩:=G7 HY pre x A hJA (by rw[G7 CU0];exact hpre)
   gi_wp2
   refine⟨UE _,(AG5 hR).mono ?_⟩;rintro e W3 (⟨rfl,hJ3,hk3⟩|⟨rfl,hJx3,hk3⟩)
   .gi_wp2
    exact⟨hk3.block _ (by omega) (by omega),hk3.block _ (by omega) (by omega),fun k hk=>hk3.block k (by omega) (by omega),hJ3,Boxed.of_heap hbx (hk3.block _ (A8 _) (by omega))⟩
   .gi_wp2
    exact⟨hk3.block _ (by omega) (by omega),hk3.block _ (by omega) (by omega),fun k hk=>hk3.block k (by omega) (by omega),rfl,hJx3⟩
  case done=>
   rintro A ⟨hJA,hbx⟩ hK
   gi_wp2
   refine⟨by simp,.inl ⟨_,_,rfl,run_takeDeferred hK,?_⟩⟩;refine⟨_,results_none rfl _ _ _,⟨_,rfl⟩,.inl ?_⟩;rw[G7 CU0];exact G7 HJ _ _ _ hJA (MN A _ (by omega))
  case stop=>
   rintro c pre A hpre ⟨rfl,hJA⟩ hK
   gi_wp2
   refine⟨by simp,.inl ⟨_,_,rfl,run_takeDeferred hK,?_⟩⟩;refine⟨_,results_none rfl _ _ _,⟨_,rfl⟩,.inr ⟨pre,by rw[G7 CU0];exact hpre,?_⟩⟩;exact G7 HJx _ _ _ hJA (MN A _ (by omega))
attribute [local go_sem] Oper.semAt_some
theorem zI(s:ByteArray)(w:FW):
  FZ prog 182 #[.string s] w fun e w'=>
   e=.returned (.func (.func 206) #[] #[.pointer (G6 ⟨w.heap.size,0,G5⟩)])/\w'=w.alloc (FV #[.string s] 9):=by
 go_enter func182,ntmps182
 go_wp2
 go_ret;exact⟨rfl,rfl⟩
theorem AU1(W:FW)(v0 v1:FX)(t0 t1:TypeId)(W0:FW)(h:(W.alloc (FV #[v0] t0)).alloc (FV #[v1] t1)=W0):
  W0.heap.size=W.heap.size+2/\Boxed W0 W.heap.size t0 v0/\Boxed W0 (W.heap.size+1) t1 v1/\B0 W W0:=by
 subst h;refine⟨by simp,(Boxed.new W t0 v0).alloc _,?_,?_⟩
 .have:=Boxed.new (W.alloc (FV #[v0] t0)) t1 v1;rw[FT]at this;exact this
 .exact((AA _ W).alloc (A8 _) _).alloc (by simp) _
theorem AG7(h:200<l.length):J6 l=false:=by
 simp only[J6,show ¬l.length<=200 from by omega,decide_false,Bool.false_and]
theorem zJ(h:Lib.hasPrefix l [47]=false):J6 l=false:=by
 simp only[J6,h,Bool.and_false,Bool.false_and]
theorem AU2(h0:l.length<=200)(h:Lib.hasPrefix l [47]=true):J6 l=(YU l).all JB:=by
 simp only[J6,h0,h,decide_true,Bool.true_and]
theorem qE(l:List UInt8):∀p∈YU l,p.length<=l.length:=by
 intro p hp;unfold YU at hp
 split at hp
 .simp at hp
 .have h1:=qA _ p hp;have h2:=Lib.trimPrefix_le l [47];omega
theorem ZG{pre xs:List (List UInt8)}(h:pre<+:xs)(h1:pre.all JB=false):xs.all JB=false:=by
 obtain⟨t,rfl⟩:=h;rw[List.all_append,h1,Bool.false_and]
theorem C16(s:ByteArray):∃l:List UInt8,s=⟨l.toArray⟩:=⟨s.data.toList,rfl⟩
theorem AU3(l:List UInt8)(w:FW)(h0:l.length<=200)(hp:Lib.hasPrefix l [47]=true):
  FZ prog 126 #[S0 l] w (R0 w (.bool ((YU l).all JB))):=by
 refine(callsIn_wide (n:=6)).1 ?_;refine callsIn_of_wp_marks func126 rfl trivial ?_ rfl;simp only[ntmps126,List.size_toArray,BH,EW,Nat.reduceAdd,Nat.reduceSub,Array.replicate_succ,Array.replicate_zero,List.push_toArray,List.append_toArray,List.nil_append,List.cons_append];have hz:(AU l.toArray).size=l.length:=DN ⟨l.toArray⟩;have Hp:=G8 hp;clear hp
 gi_wp2_with fail
 refine⟨trivial,(callsIn_wide.2 (strings_HasPrefix _ _ _)).mono ?_⟩;rintro e w' ⟨rfl,rfl⟩;rw[show (AU l.toArray).data.toList=l from rfl,show (AU #[47]).data.toList=[47]from rfl,G7 Hp]
 gi_wp2_with fail
 refine⟨trivial,(callsIn_wide.2 (zI _ _)).mono ?_⟩;rintro e w' ⟨rfl,rfl⟩
 gi_wp2_with fail
 generalize hW0:(w.alloc (FV #[.bool false] 4)).alloc (FV #[S0 l] 9)=W0;obtain⟨hsz,k0,k1,kb⟩:=AU1 _ _ _ _ _ W0 hW0;clear hW0;refine VU (α:=List UInt8) (encs:=fun x=>#[S0 x]) rfl (by omega) (gf:=206) (lb:=#[.pointer (G6 ⟨w.heap.size+1,0,G5⟩)]) rfl trivial (enters_of func206 (by kernel_rfl) rfl)
  (St:=Below (W0.heap.size+1+1)) (Kp:=ZF (W0.heap.size+1+1)) (xs:=YU l)
  (fun o1 o2=>by
   have h:=zH 5 (w.heap.size+1) l ((W0.alloc o1).alloc o2) (by omega) (by omega) ((k1.alloc o1).alloc o2);rw[FT,FT]at h;exact h)
  (fun A B k hs hk _=>hs.block k (by omega))
  (fun A B C h k=>h.trans k) (fun A o=>ZF.putObj A o (by omega)) (fun _=>rfl)
  (fun pre A=>B0 w A/\Boxed A w.heap.size 4 (.bool false)/\pre.all JB=true)
  (fun c pre A=>c=.ret/\B0 w A/\Boxed A w.heap.size 4 (.bool false)/\pre.all JB=false)
  (fun pre A B hs hg=>⟨hs.1.trans (hg.mono (by omega)),Boxed.of_heap hs.2.1 (hg.block _ (by omega)),hs.2.2⟩)
  (fun c pre A B hs hg=>⟨hs.1,hs.2.1.trans (hg.mono (by omega)),Boxed.of_heap hs.2.2.1 (hg.block _ (by omega)),hs.2.2.2⟩)
  (fun pre A o hs=>⟨hs.1.trans (MN A o (by omega)),QK o hs.2.1 (by omega),hs.2.2⟩)
  (fun c pre A o hs=>⟨hs.1,hs.2.1.trans (MN A o (by omega)),QK o hs.2.2.1 (by omega),hs.2.2.2⟩)
  (fun o1 o2=>⟨(kb.alloc (by omega) o1).alloc (by simp;omega) o2,(k0.alloc o1).alloc o2,rfl⟩)
  (fun x=>{tmps:=#[S0 l,undef,.pointer (G6 ⟨w.heap.size,0,G5⟩),S0 x,S0 l,I0 l.length,.bool (decide (200<(l.length:Int))),.bool (decide (200<(l.length:Int))),S0 l,.bool true,.bool false,
   .bool (decide (200<(l.length:Int))),S0 l,.func (.func 206) #[] #[.pointer (G6 ⟨w.heap.size+1,0,G5⟩)],S0 x,undef,undef,undef],defers:=[]})
  ?assign ?body ?done ?stop
 case assign=>
  intro x A K hK
  gi_wp2
  exact hK
 case body=>
  rintro pre x A ⟨hB,hbx,hall⟩ hpre hlt;have cx:=hbx.cell;have fx:=hbx.frozen;have hxl:x.length<=200:=by
   have:=qE l x (hpre.subset (by simp));omega
  have hxs:(AU x.toArray).size<=maxLen:=by
   unfold maxLen;rw[DN];show x.length<=_;omega
  have zG:=G8 hall;clear hall
  gi_wp2_with fail
  refine⟨trivial,(CallsIn.inRound _ (callsIn_wide.2 (UD _ _ hxs))).mono ?_⟩;rintro e w' ⟨rfl,rfl⟩;rw[show (AU x.toArray).data.toList=x from rfl]
  cases hx:JB x
  .gi_wp2
   refine⟨BG _ _ _ _ (by show W0.heap.size≠w.heap.size;omega),BG _ _ _ _ (by show W0.heap.size+1≠w.heap.size;omega),ZF.setCell _ _ (by show w.heap.size<_;omega),rfl,hB.setCell (p:=⟨w.heap.size,0,G5⟩) (A8 _) _,hbx.set _,?_⟩;rw[List.all_append,G7 zG];simp[hx]
  .gi_wp2
   refine⟨rfl,rfl,ZF.refl _ _,hB,hbx,?_⟩;rw[List.all_append,G7 zG];simp[hx]
 case done=>
  rintro A ⟨hB,hbx,hall⟩ hK;have cx:=hbx.cell;have fx:=hbx.frozen;have zG:=G8 hall;clear hall
  gi_wp2
  have hK':(A.setCell ⟨w.heap.size,0,G5⟩ (.bool true)).heap[W0.heap.size]?=G6 (.deferred (G6 [])):=(BG _ _ _ _ (by show W0.heap.size≠w.heap.size;omega)).trans hK;have hc:=(QK (l:=W0.heap.size) (.deferred G5) (hbx.set (.bool true)) (by omega)).cell;refine⟨by simp,.inl ⟨_,_,rfl,run_takeDeferred hK',?_⟩⟩;refine⟨.bool true,?_,by rw[G7 zG],(hB.setCell (p:=⟨w.heap.size,0,G5⟩) (A8 _) _).trans (MN _ _ (by omega))⟩;simp[results,f126,go_sem,hc]
 case stop=>
  rintro c pre A hpre ⟨rfl,hB,hbx,hall⟩ hK;have zG:=G8 (ZG hpre hall);clear hall
  gi_wp2
  have hc:=(QK (l:=W0.heap.size) (.deferred G5) hbx (by omega)).cell;refine⟨by simp,.inl ⟨_,_,rfl,run_takeDeferred hK,?_⟩⟩;refine⟨.bool false,?_,by rw[G7 zG],hB.trans (MN _ _ (by omega))⟩;simp[results,f126,go_sem,hc]
theorem AU4(l:List UInt8)(w:FW)(h0:200<l.length):
  FZ prog 126 #[S0 l] w (R0 w (.bool false)):=by
 have hz:(AU l.toArray).size=l.length:=DN ⟨l.toArray⟩;go_enter func126,ntmps126;go_wp2_with fail;exact bodyPost_ret (v:=.bool false) (by simp[results,f126,go_sem]) rfl ⟨rfl,(AA _ _).alloc (A8 _) _⟩
theorem AG8(l:List UInt8)(w:FW)(h0:l.length<=200)(hp:Lib.hasPrefix l [47]=false):
  FZ prog 126 #[S0 l] w (R0 w (.bool false)):=by
 have hz:(AU l.toArray).size=l.length:=DN ⟨l.toArray⟩;have Hp:=G8 hp;clear hp;go_enter func126,ntmps126;go_wp2_with fail;refine(strings_HasPrefix _ _ _).mono ?_;rintro e w' ⟨rfl,rfl⟩;rw[show (AU l.toArray).data.toList=l from rfl,show (AU #[47]).data.toList=[47]from rfl,G7 Hp];go_wp2_with fail;exact bodyPost_ret (v:=.bool false) (by simp[results,f126,go_sem]) rfl ⟨rfl,(AA _ _).alloc (A8 _) _⟩
theorem LX(s:ByteArray)(w:FW):FZ prog 126 #[.string s] w (R0 w (.bool (J6 s.data.toList))):=by
 obtain⟨l,rfl⟩:=C16 s;show FZ _ _ _ _ fun e w'=>e=.returned (.bool (J6 l))/\_;by_cases h0:200<l.length
 .rw[AG7 h0];exact AU4 l w h0
 .cases hp:Lib.hasPrefix l [47]
  .rw[zJ hp];exact AG8 l w (by omega) hp
  .rw[AU2 (by omega) hp];exact AU3 l w (by omega) hp
theorem AU5(h:a=b):DX (.string a)=.returned (.string b):=by rw[h]
theorem P6(l m:List UInt8):(AU l.toArray)++(AU m.toArray)=⟨(l++m).toArray⟩:=by
 have h:((AU l.toArray)++(AU m.toArray)).data.toList=l++m:=by simp[ByteArray.data_append]
 exact congrArg (fun l:List UInt8=>AU l.toArray) h
theorem MO(h:J6 l=true):l.length<=200:=by
 simp only[J6,Bool.and_eq_true,decide_eq_true_eq]at h;exact h.1.1
theorem AU6(h:JB l=true):1<=l.length/\l.length<=40:=by
 simp only[JB,Bool.and_eq_true,decide_eq_true_eq]at h;exact⟨h.1.1,h.1.2⟩
theorem gZ(h:a=b)(h':i=j):DX (.tuple #[.string a,I0 i])=.returned (.tuple #[.string b,I0 j]):=by rw[h,h']
theorem TY(h:m.length<=140737488355328):(AU m.toArray).size<=maxLen:=by
 unfold maxLen;rw[DN];show m.length<=_;omega
theorem S9{a b c:FW}(h:B0 a b)(k:B0 b c):B0 a c:=h.trans (k.mono h.size)
theorem nK:∀l:List UInt8,47∈l->∃a b,l=a++47::b/\47∉b
 |[],h=>by simp at h
 |c::l,h=>by
  by_cases hl:47∈l
  .obtain⟨a,b,e,hb⟩:=nK l hl;exact⟨c::a,b,by rw[e];rfl,hb⟩
  .have hc:c=47:=by
    rcases List.mem_cons.1 h with e|e
    .exact e.symm
    .exact absurd e hl
   exact⟨[],l,by rw[hc];rfl,hl⟩
theorem dP:J6 [47]=true:=by decide+kernel
theorem WU(s:ByteArray)(w:FW)(hs:s.size<=281474976710656):
  FZ prog 48 #[.string s] w (R0 w (.string s)):=by
 go_enter func48,ntmps48;go_wp2_with fail;refine(stringslite_Clone s _ hs).mono ?_;rintro e w1 ⟨rfl,hb1⟩;go_wp2_with fail;go_ret;exact⟨rfl,hb1⟩
def ten(n:Nat):List UInt8:=(List.range 10).map fun t=>Lib.dg n (9-t)
theorem YZ(n:Nat)(h:n<=2147483647):Lib.nDigits n<=10:=by
 have aux:∀k u,u<10^(k+1)->Lib.nDigits u<=k+1:=by
  intro k
  induction k with
  |zero=>intro u hu;rw[Lib.nDigits_small (by simpa using hu)];omega
  |succ k ih=>
   intro u hu;by_cases h:u<10
   .rw[Lib.nDigits_small h];omega
   .rw[Lib.nDigits_big h];have:=ih (u/10) (by rw[Nat.pow_succ]at hu;omega);omega
 exact aux 9 n (by omega)
theorem C19(u p:Nat)(h:u<10^p):Lib.dg u p=48:=by
 unfold Lib.dg;rw[Nat.div_eq_of_lt h];rfl
theorem CH1(n:Nat)(h:n<=2147483647):Lib.repeatL [48] (10-(EM n).length)++EM n=ten n:=by
 have hd:=YZ n h;have hp:=Lib.nDigits_pos n;have hr:∀c,Lib.repeatL [48] c=List.replicate c 48:=fun c=>by
  have:=Lib.repeatL_replicate 48 1 c;simpa using this
 rw[Lib.decDigits_length,hr,Lib.decDigits_eq]
 apply List.ext_getElem
 .simp[ten];omega
 .intro i h1 h2;have hi:i<10:=by simpa [ten]using h2
  by_cases hc:i<10-Lib.nDigits n
  .rw[List.getElem_append_left (by simpa using hc)];simp only[List.getElem_replicate,ten,List.getElem_map,List.getElem_range];exact(C19 n (9-i) (AY (Lib.lt_pow_nDigits n) (Nat.pow_le_pow_right (by decide) (by omega)))).symm
  .rw[List.getElem_append_right (by simp;omega)];simp only[List.length_replicate,ten,List.getElem_map,List.getElem_range]
   congr 1
   omega
theorem AH5(w:FW)(k:Nat)(os:Array Obj):B0 w (Sort.grow (w.drewN k) os):=
 ⟨rfl,rfl,rfl,by simp[Sort.grow,World.drewN],fun i hi=>by simp[Sort.grow,World.drewN,Array.getElem?_append_left hi]⟩
theorem iC(h:a=b)(h':i=j):DX (.tuple #[.string a,I0 i])=.returned (.tuple #[.string b,I0 j]):=by rw[h,h']
theorem CU2(h:a.data.toList=l):a=⟨l.toArray⟩:=by
 rw[<-h]
def AH6(l:List UInt8):ByteArray:=if JB l then⟨l.toArray⟩else⟨#[]⟩
def uS(l:List UInt8):Int:=if JB l then 0 else 2
theorem uT(h:JB l=true):AH6 l=⟨l.toArray⟩:=by rw[AH6,if_pos h]
theorem uU(h:JB l=true):uS l=0:=by rw[uS,if_pos h]
theorem A82(h:JB l=false):AH6 l=⟨#[]⟩:=by rw[AH6,if_neg (by simp[h])]
theorem A83(h:JB l=false):uS l=2:=by rw[uS,if_neg (by simp[h])]
theorem BH0(name:ByteArray)(R D:List UInt8):(name++⟨R.toArray⟩++⟨D.toArray⟩:ByteArray).data.toList=name.data.toList++(R++D):=by
 simp[ByteArray.data_append]
theorem BH1(name:ByteArray)(R D:List UInt8):(name++⟨R.toArray⟩++⟨D.toArray⟩:ByteArray).size=name.size+R.length+D.length:=by
 rw[ByteArray.size_append,ByteArray.size_append];rfl
theorem AH7(name:ByteArray)(n:Int)(w:FW)(hn:n<0\/2147483647<n):
  FZ prog 223 #[.string name,I0 n] w fun e w'=>e=.returned (.tuple #[.string ⟨#[]⟩,I0 3])/\w'=w:=by
 rcases hn with h|h
 .go_enter func223,ntmps223;go_wp2_with fail
  go_ret2
  exact⟨rfl,rfl⟩
 .have h':¬n<0:=by omega
  go_enter func223,ntmps223;go_wp2_with fail
  go_ret2
  exact⟨rfl,rfl⟩
theorem AV8(name:ByteArray)(n:Nat)(w:FW)(hn:n<=2147483647)(hs:name.size<=140737488355328)
  (htab:Lib.TabIs prog w "internal/strconv.uint64pow10" .u64 Lib.pow10Tab):
  FZ prog 223 #[.string name,I0 n] w fun e w'=>
   e=.returned (.tuple #[.string (AH6 (name.data.toList++ten n)),I0 (uS (name.data.toList++ten n))])/\B0 w w':=by
 have hd:=YZ n hn;have hp:=Lib.nDigits_pos n;have Hten:=G8 (CH1 n hn);have Hit:=G8 (Lib.itoa_nonneg n);have Hlen:=G8 (Lib.decDigits_length n);go_enter func223,ntmps223;go_wp2_with fail;refine(strconv_Itoa _ (by omega) (by omega) _ htab).mono ?_;rintro e w1 ⟨rfl,k,os,hw1⟩;have hb1:B0 w w1:=by rw[hw1];exact AH5 w k os
 clear hw1;rw[G7 Hit];generalize hD:EM n=D;have hDl:D.length=Lib.nDigits n:=by rw[<-hD];exact G7 Hlen
 have HD:=G8 hD;clear hD;have hD1:1<=D.length:=by omega
 have hD10:D.length<=10:=by omega
 clear hDl hd hp;go_wp2_with fail;rw[show (10-(D.length:Int))=((10-D.length:Nat):Int)from by omega];refine(strings_Repeat _ _ _ (by omega) (by show 1*_<=_;omega)).mono ?_;rintro e w2 ⟨rfl,hb2⟩;generalize hR:Lib.repeatL (AU #[48]).data.toList (10-D.length)=R;have hR':Lib.repeatL [48] (10-D.length)=R:=hR;have hRl:R.length<=10:=by rw[<-hR',Lib.repeatL_length];simp
 have HR:Hid (R++D=ten n):=by
  have h1:=G7 Hten;have h2:=G7 HD;rw[h2,hR']at h1;exact h1
 clear hR hR' Hten HD Hit Hlen;go_wp2_with fail;generalize hX:(name++⟨R.toArray⟩++⟨D.toArray⟩:ByteArray)=X;have HX:Hid (X.data.toList=name.data.toList++ten n):=by
  rw[<-G7 HR,<-hX];exact BH0 name R D
 have hXs:X.size<=maxLen:=by
  unfold maxLen;rw[<-hX,BH1];omega
 clear hX HR;refine(UD X _ hXs).mono ?_;rintro e w3 ⟨rfl,rfl⟩
 cases hnm:JB X.data.toList
 .go_wp2_with fail
  go_ret2
  rw[G7 HX]at hnm;exact⟨iC (A82 hnm).symm (A83 hnm).symm,hb1.trans (hb2.mono hb1.size)⟩
 .go_wp2_with fail
  go_ret2
  rw[G7 HX]at hnm;exact⟨iC ((CU2 (G7 HX)).trans (uT hnm).symm) (uU hnm).symm,hb1.trans (hb2.mono hb1.size)⟩
def BX2(l:List UInt8)(n:Int):ByteArray:=if 0<=n/\n<=2147483647 then AH6 (l++ten n.toNat)else⟨#[]⟩
def nU(l:List UInt8)(n:Int):Int:=if 0<=n/\n<=2147483647 then uS (l++ten n.toNat)else 3
theorem AH8(name:ByteArray)(n:Int)(w:FW)(hs:name.size<=140737488355328)(htab:Lib.TabIs prog w "internal/strconv.uint64pow10" .u64 Lib.pow10Tab):
  FZ prog 223 #[.string name,I0 n] w fun e w'=>
   e=.returned (.tuple #[.string (BX2 name.data.toList n),I0 (nU name.data.toList n)])/\B0 w w':=by
 by_cases h:0<=n/\n<=2147483647
 .obtain⟨k,rfl⟩:=Int.eq_ofNat_of_zero_le h.1;refine(AV8 name k w (by omega) hs htab).mono ?_;rintro e w' ⟨rfl,hb⟩;exact⟨iC (by rw[BX2,if_pos h,Int.toNat_natCast]) (by rw[nU,if_pos h,Int.toNat_natCast]),hb⟩
 .refine(AH7 name n w (by omega)).mono ?_;rintro e w' ⟨rfl,rfl⟩;exact⟨iC (by rw[BX2,if_neg h]) (by rw[nU,if_neg h]),AA _ _⟩
theorem C20{n:Int}(h:nU l n≠0):BX2 l n=⟨#[]⟩:=by
 unfold nU at h;unfold BX2;by_cases h1:0<=n/\n<=2147483647
 .rw[if_pos h1]at h⊢
  cases h2:JB (l++ten n.toNat)
  .exact A82 h2
  .exact absurd (uU h2) h
 .rw[if_neg h1]
theorem AV9{n:Int}(h:nU l n=0):0<=n/\n<=2147483647/\JB (l++ten n.toNat)=true/\BX2 l n=⟨(l++ten n.toNat).toArray⟩:=by
 unfold nU at h;unfold BX2;by_cases h1:0<=n/\n<=2147483647
 .rw[if_pos h1]at h⊢
  cases h2:JB (l++ten n.toNat)
  .rw[A83 h2]at h;exact absurd h (by decide)
  .exact⟨h1.1,h1.2,rfl,uT h2⟩
 .rw[if_neg h1]at h;exact absurd h (by decide)
theorem gPow:prog.globalNamed "internal/strconv.uint64pow10" =G6 1:=by kernel_rfl
theorem CH2(htab:Lib.TabIs prog w "internal/strconv.uint64pow10" .u64 Lib.pow10Tab):1<w.heap.size:=by
 have hc:=htab.cell gPow 0 (by decide);unfold World.cell? at hc
 cases ho:w.heap[1]? with
 |none=>simp[ho]at hc
 |some o=>exact(AL.1 ho).1
theorem A84{w':FW}(htab:Lib.TabIs prog w "internal/strconv.uint64pow10" .u64 Lib.pow10Tab)(hb:B0 w w'):Lib.TabIs prog w' "internal/strconv.uint64pow10" .u64 Lib.pow10Tab:=
 var?_below hb gPow (CH2 htab) htab
def aT(l:List UInt8):List UInt8:=if l=[47]then [47]else l++[47]
theorem AH9:aT [47]=[47]:=by rw[aT,if_pos rfl]
theorem zQ(h:l≠[47]):aT l=l++[47]:=by rw[aT,if_neg h]
theorem uV(l:List UInt8):(aT l).length<=l.length+1:=by
 unfold aT
 split
 .simp
 .simp
theorem jJ(l:List UInt8)(w:FW)(hl:l.length<=140737488355328):
  FZ prog 251 #[S0 l] w fun e w'=>e=.returned (S0 (aT l))/\w'=w:=by
 have hz:(AU l.toArray).size=l.length:=DN ⟨l.toArray⟩;by_cases h:l=[47]
 .subst h;go_enter func251,ntmps251
  go_wp2
  go_ret;exact⟨AU5 (by rw[AH9]),rfl⟩
 .have h1:(l==[47])=false:=by simpa using h
  have Ho:=G8 (zQ h);clear h;go_enter func251,ntmps251
  go_wp2
  go_ret;exact⟨AU5 (by rw[G7 Ho];exact P6 l [47]),rfl⟩
def mM(d m:List UInt8):List UInt8:=if J6 d&&JB m then(if(aT d++m).length<=200 then aT d++m else [])else []
def dQ(d m:List UInt8):Int:=if J6 d&&JB m then(if(aT d++m).length<=200 then 0 else 1)else 2
theorem A85(h:(J6 d&&JB m)=false):mM d m=[]/\dQ d m=2:=by
 unfold mM dQ;rw[h];exact⟨rfl,rfl⟩
theorem AW4(h:(J6 d&&JB m)=true)(h1:200<(aT d++m).length):mM d m=[]/\dQ d m=1:=by
 unfold mM dQ;rw[if_pos h,if_pos h,if_neg (by omega),if_neg (by omega)];exact⟨rfl,rfl⟩
theorem AW5(h:(J6 d&&JB m)=true)(h1:(aT d++m).length<=200):mM d m=aT d++m/\dQ d m=0:=by
 unfold mM dQ;rw[if_pos h,if_pos h,if_pos h1,if_pos h1];exact⟨rfl,rfl⟩
theorem BH2(d m:List UInt8)(w:FW)(hm:m.length<=140737488355328):
  FZ prog 224 #[S0 d,S0 m] w (R0 w (.tuple #[S0 (mM d m),I0 (dQ d m)])):=by
 cases hd:J6 d
 .obtain⟨h1,h2⟩:=A85 (d:=d) (m:=m) (by rw[hd];rfl);have H1:=G8 h1;have H2:=G8 h2;have Hd:=G8 hd;clear h1 h2 hd;go_enter func224,ntmps224;go_wp2_with fail;refine(LX _ _).mono ?_;rintro e w1 ⟨rfl,hb1⟩;rw[show (AU d.toArray).data.toList=d from rfl,G7 Hd];go_wp2_with fail
  go_ret2
  exact⟨gZ (by rw[G7 H1]) (G7 H2).symm,hb1⟩
 cases hn:JB m
 .obtain⟨h1,h2⟩:=A85 (d:=d) (m:=m) (by rw[hn,Bool.and_false]);have H1:=G8 h1;have H2:=G8 h2;have Hd:=G8 hd;have Hn:=G8 hn;clear h1 h2 hd hn;go_enter func224,ntmps224;go_wp2_with fail;refine(LX _ _).mono ?_;rintro e w1 ⟨rfl,hb1⟩;rw[show (AU d.toArray).data.toList=d from rfl,G7 Hd];go_wp2_with fail;refine(UD _ _ (TY hm)).mono ?_;rintro e w2 ⟨rfl,rfl⟩;rw[show (AU m.toArray).data.toList=m from rfl,G7 Hn];go_wp2_with fail
  go_ret2
  exact⟨gZ (by rw[G7 H1]) (G7 H2).symm,hb1⟩
 have hdl:=MO hd;have hml:=AU6 hn;have hol:=uV d;have hdn:(J6 d&&JB m)=true:=by rw[hd,hn];rfl
 have Hd:=G8 hd;have Hn:=G8 hn;clear hd hn;generalize hO:aT d=O at hol;have HO:=G8 hO;clear hO;have hz:((AU O.toArray)++(AU m.toArray)).size=O.length+m.length:=by rw[P6,DN];show (O++m).length=_;simp
 by_cases hf:O.length+m.length<=200
 .obtain⟨h1,h2⟩:=AW5 hdn (by rw[G7 HO];simpa using hf);have H1:=G8 h1;have H2:=G8 h2;clear h1 h2 hdn;go_enter func224,ntmps224;go_wp2_with fail;refine(LX _ _).mono ?_;rintro e w1 ⟨rfl,hb1⟩;rw[show (AU d.toArray).data.toList=d from rfl,G7 Hd];go_wp2_with fail;refine(UD _ _ (TY hm)).mono ?_;rintro e w2 ⟨rfl,rfl⟩;rw[show (AU m.toArray).data.toList=m from rfl,G7 Hn];go_wp2_with fail;refine(jJ _ _ (by omega)).mono ?_;rintro e w3 ⟨rfl,rfl⟩;rw[G7 HO];go_wp2_with fail
  go_ret2
  exact⟨gZ (by rw[G7 H1,G7 HO];exact P6 O m) (G7 H2).symm,hb1⟩
 .obtain⟨h1,h2⟩:=AW4 hdn (by rw[G7 HO];simp;omega);have H1:=G8 h1;have H2:=G8 h2;clear h1 h2 hdn;go_enter func224,ntmps224;go_wp2_with fail;refine(LX _ _).mono ?_;rintro e w1 ⟨rfl,hb1⟩;rw[show (AU d.toArray).data.toList=d from rfl,G7 Hd];go_wp2_with fail;refine(UD _ _ (TY hm)).mono ?_;rintro e w2 ⟨rfl,rfl⟩;rw[show (AU m.toArray).data.toList=m from rfl,G7 Hn];go_wp2_with fail;refine(jJ _ _ (by omega)).mono ?_;rintro e w3 ⟨rfl,rfl⟩;rw[G7 HO];go_wp2_with fail
  go_ret2
  exact⟨gZ (by rw[G7 H1]) (G7 H2).symm,hb1⟩
theorem uX(a b:List UInt8)(hb:47∉b):Lib.lastIndexByte ⟨(a++47::b).toArray⟩ 47=a.length:=by
 have hat:∀j,j<(a++47::b).length->((AU (a++47::b).toArray).data[j]!)=(a++47::b)[j]! :=fun j hj=>by simp
 rcases Lib.lastIndexByte_spec ⟨(a++47::b).toArray⟩ 47 with⟨_,h⟩|⟨i,hi,e,hc,hn⟩
 .exact absurd (by simp) (h a.length (by show a.length<(a++47::b).toArray.size;simp))
 .rw[e];have hi':i<(a++47::b).length:=by
   have:i<(a++47::b).toArray.size:=hi;simpa using this
  have h1:a.length<=i:=by
   apply Nat.le_of_not_lt
   intro hlt;exact hn a.length hlt (by show a.length<(a++47::b).toArray.size;simp) (by simp)
  by_cases h2:i=a.length
  .rw[h2]
  .exfalso
   apply hb
   have hlt:i-a.length-1<b.length:=by simp at hi';omega
   have hb':(a++47::b)[i]! =b[i-a.length-1]! :=by
    rw[List.getElem!_eq_getElem?_getD,List.getElem!_eq_getElem?_getD,List.getElem?_append_right h1];obtain⟨k,hk⟩:∃k,i-a.length=k+1:=⟨i-a.length-1,by omega⟩;rw[hk];simp
   rw[hat i hi',hb']at hc;have hm:b[i-a.length-1]! ∈b:=by
    rw[List.getElem!_eq_getElem?_getD,List.getElem?_eq_getElem hlt];simp
   have:b[i-a.length-1]! =47:=by
    apply UInt8.toNat_inj.1
    show _=47;omega
   rwa[this]at hm
theorem AW6(a b:List UInt8):(AU (a++47::b).toArray).extract 0 a.length=⟨a.toArray⟩:=by
 rw[uJ];simp
theorem BH3(a b:List UInt8):(AU (a++47::b).toArray).extract (a.length+1) (a.length+b.length+1)=⟨b.toArray⟩:=by
 have:=A75 (a++47::b) (a.length+1);rw[show (a++47::b).length=a.length+b.length+1 from by simp;omega]at this;rw[this];have e:(a++47::b).drop (a.length+1)=b:=by rw[<-List.drop_drop];simp
 rw[e]
def CH3(a:List UInt8):List UInt8:=if a=[]then [47]else a
theorem BH4:CH3 []=[47]:=by rw[CH3,if_pos rfl]
theorem AI0{a:List UInt8}(h:a≠[]):CH3 a=a:=by rw[CH3,if_neg h]
theorem uY{c d:ByteArray}(h:a=b)(h1:c=d)(h':i=j):DX (.tuple #[.string a,.string c,I0 i])=.returned (.tuple #[.string b,.string d,I0 j]):=by rw[h,h1,h']
theorem AI1(a b:List UInt8)(w:FW)(hb:47∉b)(hg:J6 (a++47::b)=true)(hne:a++47::b≠[47]):
  FZ prog 193 #[S0 (a++47::b)] w fun e w'=>
   e=.returned (.tuple #[S0 (CH3 a),S0 b,I0 0])/\B0 w w':=by
 have hl:a.length+b.length+1<=200:=by have:=MO hg;simp at this;omega
 have hne1:(a++47::b==[47])=false:=by simpa using hne
 have Hg:=G8 hg;have Hi:=G8 (uX a b hb);clear hg hne hb;have hz:(AU (a++47::b).toArray).size=a.length+b.length+1:=by rw[DN];show (a++47::b).length=_;simp;omega
 have Hc1:=G8 (AW6 a b);have Hc2:=G8 (BH3 a b);generalize a++47::b=l at*;go_enter func193,ntmps193;go_wp2_with fail;refine(LX _ _).mono ?_;rintro e w1 ⟨rfl,hb1⟩;rw[show (AU l.toArray).data.toList=l from rfl,G7 Hg];go_wp2_with fail;refine(strings_LastIndexByte _ _ (by omega) _).mono ?_;rintro e w2 ⟨rfl,rfl⟩;rw[G7 Hi];go_wp2_with fail;have cA:∀d os,FZ prog 48 #[.string ((AU l.toArray).extract 0 a.length)] (Sort.grow (redrawn w2 d) os) fun e w''=>e=.returned (S0 a)/\∃p:Regrown,w''=Sort.grow (redrawn w2 p.d) p.os:=
  fun d os=>Calls.regrown_of (by rw[G7 Hc1];exact WU _ _ (by rw[DN];show a.length<=_;omega))
 have cB:∀d os,FZ prog 48 #[.string ((AU l.toArray).extract (a.length+1) (a.length+b.length+1))] (Sort.grow (redrawn w2 d) os) fun e w''=>e=.returned (S0 b)/\∃p:Regrown,w''=Sort.grow (redrawn w2 p.d) p.os:=
  fun d os=>Calls.regrown_of (by rw[G7 Hc2];exact WU _ _ (by rw[DN];show b.length<=_;omega))
 have n1:(a.length:Int)<=a.length+b.length+1:=by omega
 have n2:(a.length:Int)<=a.length+b.length:=by omega
 have n3:IntKind.i64.wrap ((a.length:Int)+1)=(a.length:Int)+1:=by rw[IntKind.wrap_i64];omega
 have n4:(0:Int)<=(a.length:Int)+1:=by omega
 refine wp_region_quiet_below (by kernel_rfl) (by kernel_rfl) ?_
 repeat (quiet_step (first|exact cA _ _|exact cB _ _))
 refine wpQuiet_nil ?_;intro _ hw';obtain⟨⟨dq,osq⟩,hw''⟩:=hw';subst hw'';clear cA cB;have hb2:B0 w (Sort.grow (redrawn w2 dq) osq):=S9 hb1 (below_regrown w2 dq osq)
 cases he:a.isEmpty
 .go_wp2
  go_ret3
  exact⟨uY (by rw[AI0 (by rintro rfl;simp at he)]) rfl rfl,hb2⟩
 .obtain rfl:a=[]:=by simpa using he
  go_wp2
  go_ret3
  exact⟨uY (by rw[BH4]) rfl rfl,hb2⟩
theorem AW7(l:List UInt8)(w:FW)(hg:J6 l=false):
  FZ prog 193 #[S0 l] w (R0 w (.tuple #[.string ⟨#[]⟩,.string ⟨#[]⟩,I0 2])):=by
 have Hg:=G8 hg;clear hg;go_enter func193,ntmps193;go_wp2_with fail;refine(LX _ _).mono ?_;rintro e w1 ⟨rfl,hb1⟩;rw[show (AU l.toArray).data.toList=l from rfl,G7 Hg];go_wp2_with fail
 go_ret3
 exact⟨rfl,hb1⟩
theorem AI2(w:FW):
  FZ prog 193 #[.string ⟨#[47]⟩] w (R0 w (.tuple #[.string ⟨#[]⟩,.string ⟨#[]⟩,I0 7])):=by
 go_enter func193,ntmps193;go_wp2_with fail;refine(LX _ _).mono ?_;rintro e w1 ⟨rfl,hb1⟩;rw[show (AU #[47]).data.toList=[47]from rfl,dP];go_wp2_with fail
 go_ret3
 exact⟨rfl,hb1⟩
