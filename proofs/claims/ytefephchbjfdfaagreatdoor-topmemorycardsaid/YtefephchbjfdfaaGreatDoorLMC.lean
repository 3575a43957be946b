/-
  Part.
-/
import Derived.RangeFuncNested
import Derived.RangeFuncBound
import Derived.Test.YtefephchbjfdfaaGreatDoorRows
import Derived.Test.YtefephchbjfdfaaGreatDoorLMA
import Derived.WalkSpells
import Derived.WalkLawsBesides
import Derived.Test.YtefephchbjfdfaaGreatDoorShelf
set_option maxRecDepth 20000
set_option maxHeartbeats 8000000
namespace Go.Proofs.YtefephchbjfdfaaGreatDoor
open Go.RowKit Go.Proofs.Tryz
open _root_.Nat renaming le_refl->AA,lt_of_lt_of_le->AY
open Go.RowKit.Below renaming refl->AB,heap_setCell->BG
open _root_.Array renaming getElem?_eq_some_iff->AL
open _root_.ByteArray renaming mk->AU
open _root_.List renaming length_cons->BH,length_nil->EZ
open Go.Lib renaming size_eq->DU,decDigits->EN
open Go.Ending renaming returned->DY
open Go.World renaming size_alloc->FU
open Go.Obj renaming cells->FW
open Go renaming World->FX,Value->FZ,Calls->G5
open _root_.Option renaming none->G6,some->G8
variable{n1:Nat}{l m d:List UInt8}{a b:ByteArray}{w:FX}{t:TypeId}{i j:Int}
structure ZG(n1:Nat)(W W':FX):Prop where
 size:W.heap.size<=W'.heap.size
 block:∀k,n1<=k->k<W.heap.size->W'.heap[k]?=W.heap[k]?
theorem ZG.refl(n1:Nat)(W:FX):ZG n1 W W:=⟨AA _,fun _ _ _=>rfl⟩
theorem ZG.trans{A B C:FX}(h:ZG n1 A B)(k:ZG n1 B C):ZG n1 A C:=
 ⟨Nat.le_trans h.size k.size,fun i hi hl=>(k.block i hi (AY hl h.size)).trans (h.block i hi hl)⟩
theorem ZG.putObj{l:Nat}(W:FX)(o:Obj)(h:l<n1):ZG n1 W (W.putObj l o):=
 ⟨by simp,fun k hk _=>World.putObj_heap_other (by omega)⟩
theorem ZG.setCell(W:FX){p:Addr}(v:FZ)(h:p.block<n1):ZG n1 W (W.setCell p v):=
 ⟨(KeepsWalks.setCell W p v).size,fun k hk _=>BG W p v k (by omega)⟩
def CR6{α:Type}(F:Fence)(n:Nat)(P:Program)(g:Nat)(lb:Array FZ)(encs:α->Array FZ)(St Kp:FX->FX->Prop)(xs:List α)(W:FX):Prop:=
 ∀ (l:Nat) (J Jx:List α->FX->Prop),(∀s A B,J s A->St A B->J s B)->(∀s A B,Jx s A->St A B->Jx s B)->
  (∀pre x W1,J pre W1->pre++[x]<+:xs->YieldAt F (n-1) P l (encs x) W1 fun e W'=>
   (e=.returned (.bool true)/\J (pre++[x]) W'/\Kp W1 W')\/(e=.returned (.bool false)/\Jx (pre++[x]) W'/\Kp W1 W'))->
  J [] W->
  CallsIn F n P g (#[.func (.yield l) #[] #[]]++lb) W fun e W'=>(∃v,e=.returned v)/\(J xs W'\/∃pre,pre<+:xs/\Jx pre W')
def CT7{α:Type}(D l:Nat)(Kp:FX->FX->Prop)(I:List α->FX->Prop)(Ix:Code->List α->FX->Prop)(xs:List α)(W:FX):Exit->Act->FX->Prop
 | .normal,_,W'=>W'.heap[D]?=W.heap[D]? /\W'.heap[l]?=W.heap[l]? /\Kp W W'/\I xs W'
 | .ret,_,W'=>W'.heap[D]?=W.heap[D]? /\W'.heap[l]?=W.heap[l]? /\Kp W W'/\Ix .ret xs W'
 | .exit id,_,W'=>W'.heap[D]?=W.heap[D]? /\W'.heap[l]?=W.heap[l]? /\Kp W W'/\Ix (.exit id) xs W'
 | .goto t,_,W'=>W'.heap[D]?=W.heap[D]? /\W'.heap[l]?=W.heap[l]? /\Kp W W'/\Ix (.goto t) xs W'
 | .panic _,_,_=>False
 | .outgrown,_,_=>False
variable {F:Fence} {n:Nat} {P:Program}
theorem VY{α:Type}{g:Operand}{ps:Array Tmp}{assign body:Code}{Q:Exit->Act->FX->Prop}{a:Act}{w:FX}
  (hro:F.round=G6) (h1:1<=n) {gf:Nat} {lb:Array FZ} (hg:a.eval g=.func (.func gf) #[] lb) (hFg:F.fn gf) (eg:∀args w,(callFunc gf args).run P w=.ok (.enter gf args) w)
  {encs:α->Array FZ} {St Kp:FX->FX->Prop} {xs:List α}
  (hseq:∀o1 o2,CR6 F (n-1) P gf lb encs St Kp xs ((w.alloc o1).alloc o2))
  (hSt:∀A B k,St A B->k=w.heap.size\/k=w.heap.size+1->k<A.heap.size->B.heap[k]?=A.heap[k]?)
  (hKt:∀A B C,Kp A B->Kp B C->Kp A C) (hKb:∀W o,Kp W (W.putObj (w.heap.size+1) o)) (hps:∀x,(encs x).size=ps.size)
  (I:List α->FX->Prop) (Ix:Code->List α->FX->Prop) (hI:∀s A B,I s A->St A B->I s B) (hIx:∀c s A B,Ix c s A->St A B->Ix c s B)
  (hIp:∀s A o,I s A->I s (A.putObj (w.heap.size+1) o)) (CR7:∀c s A o,Ix c s A->Ix c s (A.putObj (w.heap.size+1) o))
  (h0:∀o1 o2,I [] ((w.alloc o1).alloc o2)) (a₁:α->Act)
  (hassign:∀ (x:α) (W:FX) (K:Act->FX->Prop),K (a₁ x) W->
   assign.wpIn (F.inRound (w.heap.size+1)) (n-1-1) P (Exit.then K (fun _ _ _=>False)) {tmps:=(ps.zip (encs x)).foldl (fun t (p,v)=>t.setIfInBounds p v) a.tmps,defers:=[]} W)
  (hbody:∀ (pre:List α) (x:α) (W:FX),I pre W->pre++[x]<+:xs->w.heap.size+1<W.heap.size->
   body.wpIn (F.inRound (w.heap.size+1)) (n-1-1) P (CT7 w.heap.size (w.heap.size+1) Kp I Ix (pre++[x]) W) (a₁ x) W)
  (hdone:∀ (W:FX),I xs W->W.heap[w.heap.size]?=G8 (.deferred (G8 []))->Q .normal {a with defers:={target:=.collected w.heap.size,args:=#[]}::a.defers} W)
  (hstop:∀ (c:Code) (pre:List α) (W:FX),pre<+:xs->Ix c pre W->W.heap[w.heap.size]?=G8 (.deferred (G8 []))->c.wpIn F n P Q {a with defers:={target:=.collected w.heap.size,args:=#[]}::a.defers} W):
  (Code.rangeFunc g ps assign body).wpIn F n P Q a w:=by
 refine wpIn_rangeFunc ?_;intro fn hfn;rw[hro];obtain⟨rec,hrec⟩:∃rec:LoopState->Option Code->Loop,rec=fun st pe=>{state:=st,pending:=pe,fn,tmps:=a.tmps,params:=ps,assign,body,defers:=w.heap.size}:=⟨_,rfl⟩;obtain⟨W1,hW1⟩:∃W1,(w.alloc (.deferred (G8 []))).alloc (.loop (rec .ready G6))=W1:=⟨_,rfl⟩;have hL1:W1.heap[w.heap.size+1]?=G8 (.loop (rec .ready G6)):=by
  rw[<-hW1];have:=World.alloc_heap_new (w.alloc (.deferred (G8 []))) (.loop (rec .ready G6));rwa[FU]at this
 have hK1:W1.heap[w.heap.size]?=G8 (.deferred (G8 [])):=by
  rw[<-hW1];exact(Below.heap_alloc _ _ _ (by simp)).trans (World.alloc_heap_new w _)
 have hI1:I [] W1:=by rw[<-hW1];exact h0 _ _
 have hS1:CR6 F (n-1) P gf lb encs St Kp xs W1:=by rw[<-hW1];exact hseq _ _
 refine⟨w.heap.size+1,[{target:=.collected w.heap.size,args:=#[]}],W1,{target:=.fn (.func gf) lb,args:=#[.func (.yield (w.heap.size+1)) #[] #[]]},W1,gf,
  #[.func (.yield (w.heap.size+1)) #[] #[]]++lb,W1,?_,?_,?_,?_,fun _=>h1,?_⟩
 .rw[<-hW1,hrec];exact run_enterLoop_outer _ _ _ _ _
 .simp only[resolve,hg];simp[go_sem]
 .intro f' hf';simp[Target.leads]at hf';subst hf';exact hFg
 .simp[invoke,go_sem,eg]
 .refine(hS1 (w.heap.size+1)
   (fun pre W=>I pre W/\W.heap[w.heap.size+1]?=G8 (.loop (rec .ready G6))/\W.heap[w.heap.size]?=G8 (.deferred (G8 [])))
   (fun pre W=>∃c,Ix c pre W/\W.heap[w.heap.size+1]?=G8 (.loop (rec .done (G8 c)))/\W.heap[w.heap.size]?=G8 (.deferred (G8 [])))
   (fun s A B hs hg'=>⟨hI s A B hs.1 hg',(hSt A B _ hg' (.inr rfl) (AL.1 hs.2.1).1).trans hs.2.1,(hSt A B _ hg' (.inl rfl) (AL.1 hs.2.2).1).trans hs.2.2⟩)
   (fun s A B hs hg'=>by
    obtain⟨c,hc,hl,hk⟩:=hs;exact⟨c,hIx c s A B hc hg',(hSt A B _ hg' (.inr rfl) (AL.1 hl).1).trans hl,(hSt A B _ hg' (.inl rfl) (AL.1 hk).1).trans hk⟩)
   ?_ ⟨hI1,hL1,hK1⟩).mono ?_
  .rintro pre x W ⟨hi,hl,hk⟩ hlen;have hlt:w.heap.size+1<W.heap.size:=(AL.1 hl).1;have hy:=run_yield (P:=P) (args:=encs x) hl (by rw[hrec];exact hps x);rw[hrec]at hy;refine⟨fn,_,assign,body,hy,roundIn_of_wpIn hfn (hassign x W _ ⟨_,run_beginRound hl (by rw[hrec]),?_⟩)⟩;have hl2:(W.putObj (w.heap.size+1) (.loop {rec .ready G6 with state:=.busy})).heap[w.heap.size+1]?=G8 (.loop {rec .ready G6 with state:=.busy}):=World.putObj_heap_same hlt;have hk2:(W.putObj (w.heap.size+1) (.loop {rec .ready G6 with state:=.busy})).heap[w.heap.size]?=G8 (.deferred (G8 [])):=(World.putObj_heap_other (by omega)).trans hk;have hw2:Kp W (W.putObj (w.heap.size+1) (.loop {rec .ready G6 with state:=.busy})):=hKb _ _;refine wpIn_mono (hbody pre x _ (hIp _ _ _ hi) hlen (by simpa using hlt)) ?_;have fin:∀ (jump:Option Code) (W3:FX),W3.heap[w.heap.size]?=G8 (.deferred (G8 []))->W3.heap[w.heap.size+1]?=G8 (.loop {rec .ready G6 with state:=.busy})->
     (Instr.endRound (w.heap.size+1) jump).run P W3=.ok (.bool jump.isNone) (W3.putObj (w.heap.size+1) (.loop (rec (if jump.isNone then .ready else .done) jump)))/\
     (W3.putObj (w.heap.size+1) (.loop (rec (if jump.isNone then .ready else .done) jump))).heap[w.heap.size+1]?=G8 (.loop (rec (if jump.isNone then .ready else .done) jump))/\
     (W3.putObj (w.heap.size+1) (.loop (rec (if jump.isNone then .ready else .done) jump))).heap[w.heap.size]?=G8 (.deferred (G8 [])):=fun jump W3 hk3 hl3=>by
    have:=run_endRound (P:=P) jump hl3;rw[hrec]at this⊢;exact⟨this,World.putObj_heap_same (AL.1 hl3).1,(World.putObj_heap_other (by omega)).trans hk3⟩
   rintro e a3 W3 hp
   cases e with
   |normal=>
    obtain⟨hD3,hl3,hkp3,hi3⟩:=hp;obtain⟨hr,hl4,hk4⟩:=fin G6 W3 (hD3.trans hk2) (hl3.trans hl2);exact⟨_,_,hr,.inl ⟨rfl,⟨hIp _ _ _ hi3,hl4,hk4⟩,hKt _ _ _ (hKt _ _ _ hw2 hkp3) (hKb _ _)⟩⟩
   |ret=>
    obtain⟨hD3,hl3,hkp3,hi3⟩:=hp;obtain⟨hr,hl4,hk4⟩:=fin (G8 .ret) W3 (hD3.trans hk2) (hl3.trans hl2);exact⟨_,_,hr,.inr ⟨rfl,⟨.ret,CR7 _ _ _ _ hi3,hl4,hk4⟩,hKt _ _ _ (hKt _ _ _ hw2 hkp3) (hKb _ _)⟩⟩
   |exit id=>
    obtain⟨hD3,hl3,hkp3,hi3⟩:=hp;obtain⟨hr,hl4,hk4⟩:=fin (G8 (.exit id)) W3 (hD3.trans hk2) (hl3.trans hl2);exact⟨_,_,hr,.inr ⟨rfl,⟨.exit id,CR7 _ _ _ _ hi3,hl4,hk4⟩,hKt _ _ _ (hKt _ _ _ hw2 hkp3) (hKb _ _)⟩⟩
   |goto t=>
    obtain⟨hD3,hl3,hkp3,hi3⟩:=hp;obtain⟨hr,hl4,hk4⟩:=fin (G8 (.goto t)) W3 (hD3.trans hk2) (hl3.trans hl2);exact⟨_,_,hr,.inr ⟨rfl,⟨.goto t,CR7 _ _ _ _ hi3,hl4,hk4⟩,hKt _ _ _ (hKt _ _ _ hw2 hkp3) (hKb _ _)⟩⟩
   |panic ch=>exact hp.elim
   |outgrown=>exact hp.elim
  .rintro e W2 ⟨⟨v,rfl⟩,(⟨hi,hl,hk⟩|⟨pre,hSp,c,hi,hl,hk⟩)⟩
   .exact⟨G6,_,by have:=run_endLoop (P:=P) hl (by rw[hrec];simp);rw[hrec]at this;exact this,hdone _ (hIp _ _ _ hi) ((World.putObj_heap_other (by omega)).trans hk)⟩
   .exact⟨G8 c,_,by have:=run_endLoop (P:=P) hl (by rw[hrec];simp);rw[hrec]at this;exact this,hstop c pre _ hSp (CR7 _ _ _ _ hi) ((World.putObj_heap_other (by omega)).trans hk)⟩
theorem RV{a b:Bool}(h:a=b):DY (.bool a)=.returned (.bool b):=by rw[h]
theorem nH(c:UInt8)(w:FX):
  G5 prog 104 #[.int .u8 c.toNat] w fun e w'=>e=.returned (.bool (U5 c))/\w'=w:=by
 have hc:=c.toNat_lt;go_enter func104,ntmps104
 go_wp2
 all_goals go_ret
 all_goals exact⟨RV (by rw[Bool.eq_iff_iff];simp[U5];try omega),rfl⟩
theorem UG(s:ByteArray)(w:FX)(hs:s.size<=maxLen):
  G5 prog 65 #[.string s] w fun e w'=>e=.returned (.bool (JF s.data.toList))/\w'=w:=by
 unfold maxLen at hs;by_cases h1:s.size<1
 .go_enter func65,ntmps65
  go_wp2
  go_ret;exact⟨RV (uH s h1).symm,rfl⟩
 by_cases h2:40<s.size
 .go_enter func65,ntmps65
  go_wp2
  go_ret;exact⟨RV (yZ s h2).symm,rfl⟩
 go_enter func65,ntmps65
 go_wp2
 go_loop [14] (fun i=>∃k:Nat,k<=s.size/\i=I0 k/\(s.data.toList.take k).all U5=true) (fun i=>s.size-(intOf i).toNat)
 case atStart=>exact⟨0,Nat.zero_le _,rfl,by simp⟩
 case round=>
  obtain⟨k,hk,rfl,hall⟩:=hrel;have zJ:=GH hall;clear hall;by_cases hlt:k<s.size
  .by_cases hl:U5 s[k]=true
   .go_wp2_with (go_at_call 104;refine(nH _ _).mono ?_;rintro e w' ⟨rfl,rfl⟩)
    go_round
    case rel=>exact⟨k+1,by omega,by go_num,VA s k hlt U5 (G9 zJ) hl⟩
    case measure=>simp[intOf];omega
   .have hl':U5 s[k]=false:=by simpa using hl
    clear hl;go_wp2_with (go_at_call 104;refine(nH _ _).mono ?_;rintro e w' ⟨rfl,rfl⟩);go_ret;exact⟨RV ((mZ s (by omega) (by omega)).trans (dL s k hlt U5 hl')).symm,rfl⟩
  .go_wp2
   go_ret;exact⟨RV ((mZ s (by omega) (by omega)).trans (ZE s k (by omega) U5 (G9 zJ))).symm,rfl⟩
open Go.Shelf
attribute [local go_sem] Oper.semAt_some
def C06(w:FX)(b:Nat):Nat:=match w.cell? ⟨b,0,G6⟩with
 |some (.string s)=>s.size
 |_=>0
theorem A78{b:Nat}{s:ByteArray}(h:Boxed w b t (.string s)):C06 w b=s.size:=by
 simp[C06,h.cell]
theorem Boxed.of_heap{W W':FX}{B:Nat}{v:FZ}(h:Boxed W B t v)(e:W'.heap[B]?=W.heap[B]?):Boxed W' B t v:=e.trans h
theorem uQ(r:List UInt8)(i:Nat):(AU r.toArray).extract 0 i=⟨(r.take i).toArray⟩:=by
 have:=Lib.extract_data ⟨r.toArray⟩ 0 i;rw[List.drop_zero,Nat.sub_zero]at this;exact congrArg (fun l:List UInt8=>AU l.toArray) this
theorem A79(r:List UInt8)(i:Nat):(AU r.toArray).extract i r.length=⟨(r.drop i).toArray⟩:=by
 have:=Lib.extract_data ⟨r.toArray⟩ i r.length;rw[List.take_of_length_le (by simp)]at this;exact congrArg (fun l:List UInt8=>AU l.toArray) this
theorem UH(n:Nat):Fence.wide.depth.isSome=true->1<=n:=fun h=>by cases h
theorem mD(n C07 Bs Bv:Nat)(s:List UInt8)(W:FX)(h1:Bs≠C07)(h2:Bs≠Bv)(hlen:s.length<=1000000)
  (b1:Boxed W C07 9 (.string ⟨#[47]⟩)) (b2:Boxed W Bs 9 (.string ⟨s.toArray⟩)) (b3:Boxed W Bv 3 (.int .i64 0)):
  CR6 Fence.wide n prog 255 #[.pointer (G8 ⟨C07,0,G6⟩),.pointer (G8 ⟨Bs,0,G6⟩),.pointer (G8 ⟨Bv,0,G6⟩)] (fun x:List UInt8=>#[.string ⟨x.toArray⟩])
   (fun A B=>∃v,B=A.setCell ⟨Bs,0,G6⟩ v) (fun A B=>∀k,k=C07\/k=Bs\/k=Bv->B.heap[k]?=A.heap[k]?) (NI s) W:=by
 intro l J Jx hJ hJx hY h0;refine callsIn_of_wp func255 rfl trivial ?_ rfl;simp only[ntmps255,List.size_toArray,BH,EZ,Nat.reduceAdd,Nat.reduceSub,Array.replicate_succ,Array.replicate_zero,List.push_toArray,List.append_toArray,List.nil_append,List.cons_append];have c1:=b1.cell;have HY:=GH hY;have HJ:=GH hJ;have HJx:=GH hJx;clear hY hJ hJx
 gi_wp2
 clear c1
 gi_loopw [7] (fun _ wr=>∃ (pre:List (List UInt8)) (r:List UInt8),NI s=pre++NI r/\r.length<=1000000/\Boxed wr C07 9 (.string ⟨#[47]⟩)/\Boxed wr Bs 9 (.string ⟨r.toArray⟩)/\Boxed wr Bv 3 (.int .i64 0)/\J pre wr)
  (fun _ wr=>C06 wr Bs)
 case atStart=>exact⟨[],s,rfl,hlen,b1,b2,b3,h0⟩
 case round=>
  clear b1 b2 b3 h0 hlen;obtain⟨pre,r,hpre,hlen,b1,b2,b3,hJs⟩:=hrel;have CF2:=GH hpre;clear hpre;have c1:=b1.cell;have c2:=b2.cell;have c3:=b3.cell;have f2:=b2.frozen;have hz:(AU r.toArray).size=r.length:=DU ⟨r.toArray⟩;rcases jA r with hi|⟨i,hi⟩
  .have Hs:=GH (iY r hi);have Hi:=GH hi;clear hi;obtain⟨fn,tmps,assign,body,hy,hR⟩:=G9 HY pre r wr hJs (by rw[G9 CF2,G9 Hs];exact List.prefix_refl _)
   gi_wp2_with fail
   refine⟨trivial,UH _,(callsIn_wide.2 (strings_Index_one _ _ _)).mono ?_⟩;rintro e w' ⟨rfl,rfl⟩;rw[show (AU r.toArray).data.toList=r from rfl,G9 Hi]
   gi_wp2
   refine⟨UH _,hR.mono ?_⟩;rintro e W3 (⟨rfl,hJ3,_⟩|⟨rfl,hJx3,_⟩)
   .gi_wp2
    go_end0
    exact⟨⟨_,rfl⟩,.inl (by rw[G9 CF2,G9 Hs];exact hJ3)⟩
   .gi_wp2
    go_end0
    exact⟨⟨_,rfl⟩,.inr ⟨_,by rw[G9 CF2,G9 Hs];exact List.prefix_refl _,hJx3⟩⟩
  .obtain⟨hil,hsp⟩:=iZ r i hi;have Hs:=GH hsp;have Hi:=GH hi;clear hi hsp;obtain⟨fn,tmps,assign,body,hy,hR⟩:=G9 HY pre (r.take i) wr hJs (by rw[G9 CF2,G9 Hs];simp)
   gi_wp2_with fail
   refine⟨trivial,UH _,(callsIn_wide.2 (strings_Index_one _ _ _)).mono ?_⟩;rintro e w' ⟨rfl,rfl⟩;rw[show (AU r.toArray).data.toList=r from rfl,G9 Hi];rw[<-uQ r i]at hy
   gi_wp2
   refine⟨UH _,hR.mono ?_⟩;rintro e W3 (⟨rfl,hJ3,hk3⟩|⟨rfl,hJx3,hk3⟩)
   .have d1:=Boxed.of_heap b1 (hk3 C07 (.inl rfl));have d2:=Boxed.of_heap b2 (hk3 Bs (.inr (.inl rfl)));have d3:=Boxed.of_heap b3 (hk3 Bv (.inr (.inr rfl)));have Hl:=GH (A78 b2);clear c1 c2 c3 f2 b1 b2 b3 hk3 hy hR;have c1:=d1.cell;have c2:=d2.cell;have f2:=d2.frozen
    gi_wp2
    rw[A79];refine⟨⟨pre++[r.take i],r.drop (i+1),by rw[G9 CF2,G9 Hs];simp,by simp;omega,Boxed.of_heap d1 (BG W3 _ _ C07 (Ne.symm h1)),d2.set _,
     Boxed.of_heap d3 (BG W3 _ _ Bv (Ne.symm h2)),G9 HJ _ _ _ hJ3 ⟨_,rfl⟩⟩,?_⟩
    rw[A78 (d2.set _),G9 Hl];show (r.drop (i+1)).toArray.size<r.toArray.size;simp;omega
   .gi_wp2
    refine bodyPost_ret (results_none rfl _ _ _) rfl ?_;exact⟨⟨_,rfl⟩,.inr ⟨pre++[r.take i],by rw[G9 CF2,G9 Hs];simp,hJx3⟩⟩
attribute [local go_sem] Oper.semAt_some
theorem MS{l:Nat}(W:FX)(o:Obj)(h:n1<=l):Below n1 W (W.putObj l o):=
 ⟨rfl,rfl,rfl,by simp,fun k hk=>World.putObj_heap_other (by omega)⟩
theorem QV{W:FX}{B l:Nat}{v:FZ}(o:Obj)(h:Boxed W B t v)(hne:B≠l):Boxed (W.putObj l o) B t v:=(World.putObj_heap_other hne).trans h
theorem mF(s sep:ByteArray)(w:FX):
  G5 prog 208 #[.string s,.string sep] w fun e w'=>
   e=.returned (.func (.func 255) #[] #[.pointer (G8 ⟨w.heap.size+1,0,G6⟩),.pointer (G8 ⟨w.heap.size,0,G6⟩),.pointer (G8 ⟨w.heap.size+1+1,0,G6⟩)])/\
   w'=((w.alloc (FW #[.string s] 9)).alloc (FW #[.string sep] 9)).alloc (FW #[I0 0] 3):=by
 go_enter func208,ntmps208
 go_wp2
 go_ret;exact⟨rfl,rfl⟩
theorem AG6{n m l0:Nat}{P:Program}{l:Nat}{f:FuncId}{tmps:Array FZ}{assign body:Code}{R:Ending->FX->Prop}(h:RoundIn Fence.wide n P l f tmps assign body w R):RoundIn (Fence.wide.inRound l0) m P l f tmps assign body w R:=
 ⟨h.1,fun c cs _=>h.2 c cs (room_wide _)⟩
theorem AG7(W:FX)(v0 v1 v2 v3:FZ)(t0 t1 t2 t3:TypeId)(W0:FX)(h:(((W.alloc (FW #[v0] t0)).alloc (FW #[v1] t1)).alloc (FW #[v2] t2)).alloc (FW #[v3] t3)=W0):
  W0.heap.size=W.heap.size+4/\Boxed W0 W.heap.size t0 v0/\Boxed W0 (W.heap.size+1) t1 v1/\Boxed W0 (W.heap.size+2) t2 v2/\Boxed W0 (W.heap.size+3) t3 v3/\B0 W W0:=by
 subst h;refine⟨by simp,(((Boxed.new W t0 v0).alloc _).alloc _).alloc _,?_,?_,?_,?_⟩
 .have:=Boxed.new (W.alloc (FW #[v0] t0)) t1 v1;rw[FU]at this;exact(this.alloc _).alloc _
 .have:=Boxed.new ((W.alloc (FW #[v0] t0)).alloc (FW #[v1] t1)) t2 v2;rw[FU,FU]at this;exact this.alloc _
 .have:=Boxed.new (((W.alloc (FW #[v0] t0)).alloc (FW #[v1] t1)).alloc (FW #[v2] t2)) t3 v3;rw[FU,FU,FU]at this;exact this
 .exact((((AB _ W).alloc (AA _) _).alloc (by simp) _).alloc (by simp;omega) _).alloc (by simp;omega) _
theorem zK(n Bp:Nat)(s:List UInt8)(W:FX)(hn:1<=n)(hlen:s.length<=1000000)(bp:Boxed W Bp 9 (S0 s)):
  CR6 Fence.wide n prog 207 #[P0 Bp] (fun x:List UInt8=>#[S0 x])
   (Below W.heap.size) (ZG W.heap.size) (YT s) W:=by
 intro l J Jx hJ hJx hY h0;refine callsIn_of_wp_marks func207 rfl trivial ?_ rfl;simp only[ntmps207,List.size_toArray,BH,EZ,Nat.reduceAdd,Nat.reduceSub,Array.replicate_succ,Array.replicate_zero,List.push_toArray,List.append_toArray,List.nil_append,List.cons_append];have cp:=bp.cell;have cp':=(bp.alloc (FW #[.func (.yield l) #[] #[]] 144)).cell;have HY:=GH hY;have HJ:=GH hJ;have HJx:=GH hJx;clear hY hJ hJx;by_cases hroot:s=[47]
 .subst hroot
  gi_wp2
  refine⟨_,results_none rfl _ _ _,⟨_,rfl⟩,.inl ?_⟩;exact G9 HJ _ _ _ h0 ((AB _ W).alloc (AA _) _)
 .have hr1:(s==[47])=false:=by simpa using hroot
  have Hst:Hid (YT s=NI (Lib.trimPrefix s [47])):=by rw[YT,if_neg hroot];exact rfl
  clear hroot
  gi_wp2_with fail
  refine⟨trivial,(callsIn_wide.2 (strings_TrimPrefix _ _ _)).mono ?_⟩;rintro e w' ⟨rfl,rfl⟩;rw[show (AU s.toArray).data.toList=s from rfl,show (AU #[47]).data.toList=[47]from rfl];generalize hR:Lib.trimPrefix s [47]=R;have hRl:R.length<=1000000:=by
   have:=Lib.trimPrefix_le s [47];rw[<-hR];omega
  have CT8:Hid (YT s=NI R):=by rw[<-hR];exact Hst
  clear hR Hst hr1 cp cp'
  gi_wp2_with fail
  refine⟨trivial,(callsIn_wide.2 (mF _ _ _)).mono ?_⟩;rintro e w' ⟨rfl,rfl⟩
  gi_wp2_with fail
  generalize hW0:(((W.alloc (FW #[.func (.yield l) #[] #[]] 144)).alloc (FW #[S0 R] 9)).alloc (FW #[.string ⟨#[47]⟩] 9)).alloc (FW #[I0 0] 3)=W0;obtain⟨hsz,k0,k1,k2,k3,kb⟩:=AG7 _ _ _ _ _ _ _ _ _ W0 hW0;clear hW0;refine VY (α:=List UInt8) rfl hn (gf:=255) (lb:=#[.pointer (G8 ⟨W.heap.size+2,0,G6⟩),.pointer (G8 ⟨W.heap.size+1,0,G6⟩),.pointer (G8 ⟨W.heap.size+3,0,G6⟩)]) rfl trivial (enters_of func255 (by kernel_rfl) rfl)
   (fun o1 o2=>mD (n-1) (W.heap.size+2) (W.heap.size+1) (W.heap.size+3) R _ (by omega) (by omega) hRl ((k2.alloc o1).alloc o2) ((k1.alloc o1).alloc o2) ((k3.alloc o1).alloc o2))
   (fun A B k hs hk hl=>by obtain⟨v,rfl⟩:=hs;exact BG A _ _ k (by show k≠W.heap.size+1;omega))
   (fun A B C h k i hi=>(k i hi).trans (h i hi)) (fun A o k hk=>World.putObj_heap_other (by omega)) (fun _=>rfl)
   (fun pre A=>J pre A/\Boxed A W.heap.size 144 (.func (.yield l) #[] #[]))
   (fun c pre A=>c=.ret/\Jx pre A)
   (fun pre A B hs hg=>by
    obtain⟨v,rfl⟩:=hg;exact⟨G9 HJ _ _ _ hs.1 ((AB _ A).setCell (p:=⟨W.heap.size+1,0,G6⟩) (by simp) v),Boxed.of_heap hs.2 (BG A _ _ _ (by show W.heap.size≠W.heap.size+1;omega))⟩)
   (fun c pre A B hs hg=>by
    obtain⟨v,rfl⟩:=hg;exact⟨hs.1,G9 HJx _ _ _ hs.2 ((AB _ A).setCell (p:=⟨W.heap.size+1,0,G6⟩) (by simp) v)⟩)
   (fun pre A o hs=>⟨G9 HJ _ _ _ hs.1 (MS A o (by omega)),QV o hs.2 (by omega)⟩)
   (fun c pre A o hs=>⟨hs.1,G9 HJx _ _ _ hs.2 (MS A o (by omega))⟩)
   (fun o1 o2=>⟨G9 HJ _ _ _ h0 ((kb.alloc (by omega) o1).alloc (by simp;omega) o2),(k0.alloc o1).alloc o2⟩)
   (fun x=>{tmps:=#[.func (.yield l) #[] #[],P0 Bp,.pointer (G8 ⟨W.heap.size,0,G6⟩),S0 x,S0 s,.bool false,S0 s,S0 R,
    .func (.func 255) #[] #[.pointer (G8 ⟨W.heap.size+2,0,G6⟩),.pointer (G8 ⟨W.heap.size+1,0,G6⟩),.pointer (G8 ⟨W.heap.size+3,0,G6⟩)],S0 x,undef,undef,undef,undef],defers:=[]})
   ?assign ?body ?done ?stop
  case assign=>
   intro x A K hK
   gi_wp2
   exact hK
  case body=>
   rintro pre x A ⟨hJA,hbx⟩ hpre hlt;have cx:=hbx.cell;obtain⟨fn,tmps,assign,body,hy,hR⟩:=G9 HY pre x A hJA (by rw[G9 CT8];exact hpre)
   gi_wp2
   refine⟨UH _,(AG6 hR).mono ?_⟩;rintro e W3 (⟨rfl,hJ3,hk3⟩|⟨rfl,hJx3,hk3⟩)
   .gi_wp2
    exact⟨hk3.block _ (by omega) (by omega),hk3.block _ (by omega) (by omega),fun k hk=>hk3.block k (by omega) (by omega),hJ3,Boxed.of_heap hbx (hk3.block _ (AA _) (by omega))⟩
   .gi_wp2
    exact⟨hk3.block _ (by omega) (by omega),hk3.block _ (by omega) (by omega),fun k hk=>hk3.block k (by omega) (by omega),rfl,hJx3⟩
  case done=>
   rintro A ⟨hJA,hbx⟩ hK
   gi_wp2
   refine⟨by simp,.inl ⟨_,_,rfl,run_takeDeferred hK,?_⟩⟩;refine⟨_,results_none rfl _ _ _,⟨_,rfl⟩,.inl ?_⟩;rw[G9 CT8];exact G9 HJ _ _ _ hJA (MS A _ (by omega))
  case stop=>
   rintro c pre A hpre ⟨rfl,hJA⟩ hK
   gi_wp2
   refine⟨by simp,.inl ⟨_,_,rfl,run_takeDeferred hK,?_⟩⟩;refine⟨_,results_none rfl _ _ _,⟨_,rfl⟩,.inr ⟨pre,by rw[G9 CT8];exact hpre,?_⟩⟩;exact G9 HJx _ _ _ hJA (MS A _ (by omega))
attribute [local go_sem] Oper.semAt_some
theorem zL(s:ByteArray)(w:FX):
  G5 prog 178 #[.string s] w fun e w'=>
   e=.returned (.func (.func 207) #[] #[.pointer (G8 ⟨w.heap.size,0,G6⟩)])/\w'=w.alloc (FW #[.string s] 9):=by
 go_enter func178,ntmps178
 go_wp2
 go_ret;exact⟨rfl,rfl⟩
theorem AU4(W:FX)(v0 v1:FZ)(t0 t1:TypeId)(W0:FX)(h:(W.alloc (FW #[v0] t0)).alloc (FW #[v1] t1)=W0):
  W0.heap.size=W.heap.size+2/\Boxed W0 W.heap.size t0 v0/\Boxed W0 (W.heap.size+1) t1 v1/\B0 W W0:=by
 subst h;refine⟨by simp,(Boxed.new W t0 v0).alloc _,?_,?_⟩
 .have:=Boxed.new (W.alloc (FW #[v0] t0)) t1 v1;rw[FU]at this;exact this
 .exact((AB _ W).alloc (AA _) _).alloc (by simp) _
theorem AG8(h:200<l.length):J8 l=false:=by
 simp only[J8,show ¬l.length<=200 from by omega,decide_false,Bool.false_and]
theorem zM(h:Lib.hasPrefix l [47]=false):J8 l=false:=by
 simp only[J8,h,Bool.and_false,Bool.false_and]
theorem AU5(h0:l.length<=200)(h:Lib.hasPrefix l [47]=true):J8 l=(YT l).all JF:=by
 simp only[J8,h0,h,decide_true,Bool.true_and]
theorem qG(l:List UInt8):∀p∈YT l,p.length<=l.length:=by
 intro p hp;unfold YT at hp
 split at hp
 .simp at hp
 .have h1:=qC _ p hp;have h2:=Lib.trimPrefix_le l [47];omega
theorem ZH{pre xs:List (List UInt8)}(h:pre<+:xs)(h1:pre.all JF=false):xs.all JF=false:=by
 obtain⟨t,rfl⟩:=h;rw[List.all_append,h1,Bool.false_and]
theorem C08(s:ByteArray):∃l:List UInt8,s=⟨l.toArray⟩:=⟨s.data.toList,rfl⟩
theorem AU6(l:List UInt8)(w:FX)(h0:l.length<=200)(hp:Lib.hasPrefix l [47]=true):
  G5 prog 131 #[S0 l] w (R0 w (.bool ((YT l).all JF))):=by
 refine(callsIn_wide (n:=6)).1 ?_;refine callsIn_of_wp_marks func131 rfl trivial ?_ rfl;simp only[ntmps131,List.size_toArray,BH,EZ,Nat.reduceAdd,Nat.reduceSub,Array.replicate_succ,Array.replicate_zero,List.push_toArray,List.append_toArray,List.nil_append,List.cons_append];have hz:(AU l.toArray).size=l.length:=DU ⟨l.toArray⟩;have Hp:=GH hp;clear hp
 gi_wp2_with fail
 refine⟨trivial,(callsIn_wide.2 (strings_HasPrefix _ _ _)).mono ?_⟩;rintro e w' ⟨rfl,rfl⟩;rw[show (AU l.toArray).data.toList=l from rfl,show (AU #[47]).data.toList=[47]from rfl,G9 Hp]
 gi_wp2_with fail
 refine⟨trivial,(callsIn_wide.2 (zL _ _)).mono ?_⟩;rintro e w' ⟨rfl,rfl⟩
 gi_wp2_with fail
 generalize hW0:(w.alloc (FW #[.bool false] 4)).alloc (FW #[S0 l] 9)=W0;obtain⟨hsz,k0,k1,kb⟩:=AU4 _ _ _ _ _ W0 hW0;clear hW0;refine VY (α:=List UInt8) (encs:=fun x=>#[S0 x]) rfl (by omega) (gf:=207) (lb:=#[.pointer (G8 ⟨w.heap.size+1,0,G6⟩)]) rfl trivial (enters_of func207 (by kernel_rfl) rfl)
  (St:=Below (W0.heap.size+1+1)) (Kp:=ZG (W0.heap.size+1+1)) (xs:=YT l)
  (fun o1 o2=>by
   have h:=zK 5 (w.heap.size+1) l ((W0.alloc o1).alloc o2) (by omega) (by omega) ((k1.alloc o1).alloc o2);rw[FU,FU]at h;exact h)
  (fun A B k hs hk _=>hs.block k (by omega))
  (fun A B C h k=>h.trans k) (fun A o=>ZG.putObj A o (by omega)) (fun _=>rfl)
  (fun pre A=>B0 w A/\Boxed A w.heap.size 4 (.bool false)/\pre.all JF=true)
  (fun c pre A=>c=.ret/\B0 w A/\Boxed A w.heap.size 4 (.bool false)/\pre.all JF=false)
  (fun pre A B hs hg=>⟨hs.1.trans (hg.mono (by omega)),Boxed.of_heap hs.2.1 (hg.block _ (by omega)),hs.2.2⟩)
  (fun c pre A B hs hg=>⟨hs.1,hs.2.1.trans (hg.mono (by omega)),Boxed.of_heap hs.2.2.1 (hg.block _ (by omega)),hs.2.2.2⟩)
  (fun pre A o hs=>⟨hs.1.trans (MS A o (by omega)),QV o hs.2.1 (by omega),hs.2.2⟩)
  (fun c pre A o hs=>⟨hs.1,hs.2.1.trans (MS A o (by omega)),QV o hs.2.2.1 (by omega),hs.2.2.2⟩)
  (fun o1 o2=>⟨(kb.alloc (by omega) o1).alloc (by simp;omega) o2,(k0.alloc o1).alloc o2,rfl⟩)
  (fun x=>{tmps:=#[S0 l,undef,.pointer (G8 ⟨w.heap.size,0,G6⟩),S0 x,S0 l,I0 l.length,.bool (decide (200<(l.length:Int))),.bool (decide (200<(l.length:Int))),S0 l,.bool true,.bool false,
   .bool (decide (200<(l.length:Int))),S0 l,.func (.func 207) #[] #[.pointer (G8 ⟨w.heap.size+1,0,G6⟩)],S0 x,undef,undef,undef],defers:=[]})
  ?assign ?body ?done ?stop
 case assign=>
  intro x A K hK
  gi_wp2
  exact hK
 case body=>
  rintro pre x A ⟨hB,hbx,hall⟩ hpre hlt;have cx:=hbx.cell;have fx:=hbx.frozen;have hxl:x.length<=200:=by
   have:=qG l x (hpre.subset (by simp));omega
  have hxs:(AU x.toArray).size<=maxLen:=by
   unfold maxLen;rw[DU];show x.length<=_;omega
  have zJ:=GH hall;clear hall
  gi_wp2_with fail
  refine⟨trivial,(CallsIn.inRound _ (callsIn_wide.2 (UG _ _ hxs))).mono ?_⟩;rintro e w' ⟨rfl,rfl⟩;rw[show (AU x.toArray).data.toList=x from rfl]
  cases hx:JF x
  .gi_wp2
   refine⟨BG _ _ _ _ (by show W0.heap.size≠w.heap.size;omega),BG _ _ _ _ (by show W0.heap.size+1≠w.heap.size;omega),ZG.setCell _ _ (by show w.heap.size<_;omega),rfl,hB.setCell (p:=⟨w.heap.size,0,G6⟩) (AA _) _,hbx.set _,?_⟩;rw[List.all_append,G9 zJ];simp[hx]
  .gi_wp2
   refine⟨rfl,rfl,ZG.refl _ _,hB,hbx,?_⟩;rw[List.all_append,G9 zJ];simp[hx]
 case done=>
  rintro A ⟨hB,hbx,hall⟩ hK;have cx:=hbx.cell;have fx:=hbx.frozen;have zJ:=GH hall;clear hall
  gi_wp2
  have hK':(A.setCell ⟨w.heap.size,0,G6⟩ (.bool true)).heap[W0.heap.size]?=G8 (.deferred (G8 [])):=(BG _ _ _ _ (by show W0.heap.size≠w.heap.size;omega)).trans hK;have hc:=(QV (l:=W0.heap.size) (.deferred G6) (hbx.set (.bool true)) (by omega)).cell;refine⟨by simp,.inl ⟨_,_,rfl,run_takeDeferred hK',?_⟩⟩;refine⟨.bool true,?_,by rw[G9 zJ],(hB.setCell (p:=⟨w.heap.size,0,G6⟩) (AA _) _).trans (MS _ _ (by omega))⟩;simp[results,f131,go_sem,hc]
 case stop=>
  rintro c pre A hpre ⟨rfl,hB,hbx,hall⟩ hK;have zJ:=GH (ZH hpre hall);clear hall
  gi_wp2
  have hc:=(QV (l:=W0.heap.size) (.deferred G6) hbx (by omega)).cell;refine⟨by simp,.inl ⟨_,_,rfl,run_takeDeferred hK,?_⟩⟩;refine⟨.bool false,?_,by rw[G9 zJ],hB.trans (MS _ _ (by omega))⟩;simp[results,f131,go_sem,hc]
theorem AU7(l:List UInt8)(w:FX)(h0:200<l.length):
  G5 prog 131 #[S0 l] w (R0 w (.bool false)):=by
 have hz:(AU l.toArray).size=l.length:=DU ⟨l.toArray⟩;go_enter func131,ntmps131;go_wp2_with fail;exact bodyPost_ret (v:=.bool false) (by simp[results,f131,go_sem]) rfl ⟨rfl,(AB _ _).alloc (AA _) _⟩
theorem AG9(l:List UInt8)(w:FX)(h0:l.length<=200)(hp:Lib.hasPrefix l [47]=false):
  G5 prog 131 #[S0 l] w (R0 w (.bool false)):=by
 have hz:(AU l.toArray).size=l.length:=DU ⟨l.toArray⟩;have Hp:=GH hp;clear hp;go_enter func131,ntmps131;go_wp2_with fail;refine(strings_HasPrefix _ _ _).mono ?_;rintro e w' ⟨rfl,rfl⟩;rw[show (AU l.toArray).data.toList=l from rfl,show (AU #[47]).data.toList=[47]from rfl,G9 Hp];go_wp2_with fail;exact bodyPost_ret (v:=.bool false) (by simp[results,f131,go_sem]) rfl ⟨rfl,(AB _ _).alloc (AA _) _⟩
theorem MB(s:ByteArray)(w:FX):G5 prog 131 #[.string s] w (R0 w (.bool (J8 s.data.toList))):=by
 obtain⟨l,rfl⟩:=C08 s;show G5 _ _ _ _ fun e w'=>e=.returned (.bool (J8 l))/\_;by_cases h0:200<l.length
 .rw[AG8 h0];exact AU7 l w h0
 .cases hp:Lib.hasPrefix l [47]
  .rw[zM hp];exact AG9 l w (by omega) hp
  .rw[AU5 (by omega) hp];exact AU6 l w (by omega) hp
theorem AU8(h:a=b):DY (.string a)=.returned (.string b):=by rw[h]
theorem PU(l m:List UInt8):(AU l.toArray)++(AU m.toArray)=⟨(l++m).toArray⟩:=by
 have h:((AU l.toArray)++(AU m.toArray)).data.toList=l++m:=by simp[ByteArray.data_append]
 exact congrArg (fun l:List UInt8=>AU l.toArray) h
theorem MV(h:J8 l=true):l.length<=200:=by
 simp only[J8,Bool.and_eq_true,decide_eq_true_eq]at h;exact h.1.1
theorem AU9(h:JF l=true):1<=l.length/\l.length<=40:=by
 simp only[JF,Bool.and_eq_true,decide_eq_true_eq]at h;exact⟨h.1.1,h.1.2⟩
theorem iC(h:a=b)(h':i=j):DY (.tuple #[.string a,I0 i])=.returned (.tuple #[.string b,I0 j]):=by rw[h,h']
theorem U6(h:m.length<=140737488355328):(AU m.toArray).size<=maxLen:=by
 unfold maxLen;rw[DU];show m.length<=_;omega
theorem SQ{a b c:FX}(h:B0 a b)(k:B0 b c):B0 a c:=h.trans (k.mono h.size)
theorem nI:∀l:List UInt8,47∈l->∃a b,l=a++47::b/\47∉b
 |[],h=>by simp at h
 |c::l,h=>by
  by_cases hl:47∈l
  .obtain⟨a,b,e,hb⟩:=nI l hl;exact⟨c::a,b,by rw[e];rfl,hb⟩
  .have hc:c=47:=by
    rcases List.mem_cons.1 h with e|e
    .exact e.symm
    .exact absurd e hl
   exact⟨[],l,by rw[hc];rfl,hl⟩
theorem dR:J8 [47]=true:=by decide+kernel
theorem WV(s:ByteArray)(w:FX)(hs:s.size<=281474976710656):
  G5 prog 63 #[.string s] w (R0 w (.string s)):=by
 go_enter func63,ntmps63;go_wp2_with fail;refine(stringslite_Clone s _ hs).mono ?_;rintro e w1 ⟨rfl,hb1⟩;go_wp2_with fail;go_ret;exact⟨rfl,hb1⟩
def ten(n:Nat):List UInt8:=(List.range 10).map fun t=>Lib.dg n (9-t)
theorem YX(n:Nat)(h:n<=2147483647):Lib.nDigits n<=10:=by
 have aux:∀k u,u<10^(k+1)->Lib.nDigits u<=k+1:=by
  intro k
  induction k with
  |zero=>intro u hu;rw[Lib.nDigits_small (by simpa using hu)];omega
  |succ k ih=>
   intro u hu;by_cases h:u<10
   .rw[Lib.nDigits_small h];omega
   .rw[Lib.nDigits_big h];have:=ih (u/10) (by rw[Nat.pow_succ]at hu;omega);omega
 exact aux 9 n (by omega)
theorem C14(u p:Nat)(h:u<10^p):Lib.dg u p=48:=by
 unfold Lib.dg;rw[Nat.div_eq_of_lt h];rfl
theorem CH2(n:Nat)(h:n<=2147483647):Lib.repeatL [48] (10-(EN n).length)++EN n=ten n:=by
 have hd:=YX n h;have hp:=Lib.nDigits_pos n;have hr:∀c,Lib.repeatL [48] c=List.replicate c 48:=fun c=>by
  have:=Lib.repeatL_replicate 48 1 c;simpa using this
 rw[Lib.decDigits_length,hr,Lib.decDigits_eq]
 apply List.ext_getElem
 .simp[ten];omega
 .intro i h1 h2;have hi:i<10:=by simpa [ten]using h2
  by_cases hc:i<10-Lib.nDigits n
  .rw[List.getElem_append_left (by simpa using hc)];simp only[List.getElem_replicate,ten,List.getElem_map,List.getElem_range];exact(C14 n (9-i) (AY (Lib.lt_pow_nDigits n) (Nat.pow_le_pow_right (by decide) (by omega)))).symm
  .rw[List.getElem_append_right (by simp;omega)];simp only[List.length_replicate,ten,List.getElem_map,List.getElem_range]
   congr 1
   omega
theorem AH6(w:FX)(k:Nat)(os:Array Obj):B0 w (Sort.grow (w.drewN k) os):=
 ⟨rfl,rfl,rfl,by simp[Sort.grow,World.drewN],fun i hi=>by simp[Sort.grow,World.drewN,Array.getElem?_append_left hi]⟩
theorem iD(h:a=b)(h':i=j):DY (.tuple #[.string a,I0 i])=.returned (.tuple #[.string b,I0 j]):=by rw[h,h']
theorem CU0(h:a.data.toList=l):a=⟨l.toArray⟩:=by
 rw[<-h]
def AH7(l:List UInt8):ByteArray:=if JF l then⟨l.toArray⟩else⟨#[]⟩
def uZ(l:List UInt8):Int:=if JF l then 0 else 2
theorem vC(h:JF l=true):AH7 l=⟨l.toArray⟩:=by rw[AH7,if_pos h]
theorem vF(h:JF l=true):uZ l=0:=by rw[uZ,if_pos h]
theorem A86(h:JF l=false):AH7 l=⟨#[]⟩:=by rw[AH7,if_neg (by simp[h])]
theorem A87(h:JF l=false):uZ l=2:=by rw[uZ,if_neg (by simp[h])]
theorem BG4(name:ByteArray)(R D:List UInt8):(name++⟨R.toArray⟩++⟨D.toArray⟩:ByteArray).data.toList=name.data.toList++(R++D):=by
 simp[ByteArray.data_append]
theorem BG5(name:ByteArray)(R D:List UInt8):(name++⟨R.toArray⟩++⟨D.toArray⟩:ByteArray).size=name.size+R.length+D.length:=by
 rw[ByteArray.size_append,ByteArray.size_append];rfl
theorem AH8(name:ByteArray)(n:Int)(w:FX)(hn:n<0\/2147483647<n):
  G5 prog 219 #[.string name,I0 n] w fun e w'=>e=.returned (.tuple #[.string ⟨#[]⟩,I0 3])/\w'=w:=by
 rcases hn with h|h
 .go_enter func219,ntmps219;go_wp2_with fail
  go_ret2
  exact⟨rfl,rfl⟩
 .have h':¬n<0:=by omega
  go_enter func219,ntmps219;go_wp2_with fail
  go_ret2
  exact⟨rfl,rfl⟩
theorem AW5(name:ByteArray)(n:Nat)(w:FX)(hn:n<=2147483647)(hs:name.size<=140737488355328)
  (htab:Lib.TabIs prog w "internal/strconv.uint64pow10" .u64 Lib.pow10Tab):
  G5 prog 219 #[.string name,I0 n] w fun e w'=>
   e=.returned (.tuple #[.string (AH7 (name.data.toList++ten n)),I0 (uZ (name.data.toList++ten n))])/\B0 w w':=by
 have hd:=YX n hn;have hp:=Lib.nDigits_pos n;have Hten:=GH (CH2 n hn);have Hit:=GH (Lib.itoa_nonneg n);have Hlen:=GH (Lib.decDigits_length n);go_enter func219,ntmps219;go_wp2_with fail;refine(strconv_Itoa _ (by omega) (by omega) _ htab).mono ?_;rintro e w1 ⟨rfl,k,os,hw1⟩;have hb1:B0 w w1:=by rw[hw1];exact AH6 w k os
 clear hw1;rw[G9 Hit];generalize hD:EN n=D;have hDl:D.length=Lib.nDigits n:=by rw[<-hD];exact G9 Hlen
 have HD:=GH hD;clear hD;have hD1:1<=D.length:=by omega
 have hD10:D.length<=10:=by omega
 clear hDl hd hp;go_wp2_with fail;rw[show (10-(D.length:Int))=((10-D.length:Nat):Int)from by omega];refine(strings_Repeat _ _ _ (by omega) (by show 1*_<=_;omega)).mono ?_;rintro e w2 ⟨rfl,hb2⟩;generalize hR:Lib.repeatL (AU #[48]).data.toList (10-D.length)=R;have hR':Lib.repeatL [48] (10-D.length)=R:=hR;have hRl:R.length<=10:=by rw[<-hR',Lib.repeatL_length];simp
 have HR:Hid (R++D=ten n):=by
  have h1:=G9 Hten;have h2:=G9 HD;rw[h2,hR']at h1;exact h1
 clear hR hR' Hten HD Hit Hlen;go_wp2_with fail;generalize hX:(name++⟨R.toArray⟩++⟨D.toArray⟩:ByteArray)=X;have HX:Hid (X.data.toList=name.data.toList++ten n):=by
  rw[<-G9 HR,<-hX];exact BG4 name R D
 have hXs:X.size<=maxLen:=by
  unfold maxLen;rw[<-hX,BG5];omega
 clear hX HR;refine(UG X _ hXs).mono ?_;rintro e w3 ⟨rfl,rfl⟩
 cases hnm:JF X.data.toList
 .go_wp2_with fail
  go_ret2
  rw[G9 HX]at hnm;exact⟨iD (A86 hnm).symm (A87 hnm).symm,hb1.trans (hb2.mono hb1.size)⟩
 .go_wp2_with fail
  go_ret2
  rw[G9 HX]at hnm;exact⟨iD ((CU0 (G9 HX)).trans (vC hnm).symm) (vF hnm).symm,hb1.trans (hb2.mono hb1.size)⟩
def BW9(l:List UInt8)(n:Int):ByteArray:=if 0<=n/\n<=2147483647 then AH7 (l++ten n.toNat)else⟨#[]⟩
def nS(l:List UInt8)(n:Int):Int:=if 0<=n/\n<=2147483647 then uZ (l++ten n.toNat)else 3
theorem AH9(name:ByteArray)(n:Int)(w:FX)(hs:name.size<=140737488355328)(htab:Lib.TabIs prog w "internal/strconv.uint64pow10" .u64 Lib.pow10Tab):
  G5 prog 219 #[.string name,I0 n] w fun e w'=>
   e=.returned (.tuple #[.string (BW9 name.data.toList n),I0 (nS name.data.toList n)])/\B0 w w':=by
 by_cases h:0<=n/\n<=2147483647
 .obtain⟨k,rfl⟩:=Int.eq_ofNat_of_zero_le h.1;refine(AW5 name k w (by omega) hs htab).mono ?_;rintro e w' ⟨rfl,hb⟩;exact⟨iD (by rw[BW9,if_pos h,Int.toNat_natCast]) (by rw[nS,if_pos h,Int.toNat_natCast]),hb⟩
 .refine(AH8 name n w (by omega)).mono ?_;rintro e w' ⟨rfl,rfl⟩;exact⟨iD (by rw[BW9,if_neg h]) (by rw[nS,if_neg h]),AB _ _⟩
theorem C15{n:Int}(h:nS l n≠0):BW9 l n=⟨#[]⟩:=by
 unfold nS at h;unfold BW9;by_cases h1:0<=n/\n<=2147483647
 .rw[if_pos h1]at h⊢
  cases h2:JF (l++ten n.toNat)
  .exact A86 h2
  .exact absurd (vF h2) h
 .rw[if_neg h1]
theorem AW6{n:Int}(h:nS l n=0):0<=n/\n<=2147483647/\JF (l++ten n.toNat)=true/\BW9 l n=⟨(l++ten n.toNat).toArray⟩:=by
 unfold nS at h;unfold BW9;by_cases h1:0<=n/\n<=2147483647
 .rw[if_pos h1]at h⊢
  cases h2:JF (l++ten n.toNat)
  .rw[A87 h2]at h;exact absurd h (by decide)
  .exact⟨h1.1,h1.2,rfl,vC h2⟩
 .rw[if_neg h1]at h;exact absurd h (by decide)
theorem gPow:prog.globalNamed "internal/strconv.uint64pow10" =G8 1:=by kernel_rfl
theorem CH3(htab:Lib.TabIs prog w "internal/strconv.uint64pow10" .u64 Lib.pow10Tab):1<w.heap.size:=by
 have hc:=htab.cell gPow 0 (by decide);unfold World.cell? at hc
 cases ho:w.heap[1]? with
 |none=>simp[ho]at hc
 |some o=>exact(AL.1 ho).1
theorem A88{w':FX}(htab:Lib.TabIs prog w "internal/strconv.uint64pow10" .u64 Lib.pow10Tab)(hb:B0 w w'):Lib.TabIs prog w' "internal/strconv.uint64pow10" .u64 Lib.pow10Tab:=
 var?_below hb gPow (CH3 htab) htab
def aU(l:List UInt8):List UInt8:=if l=[47]then [47]else l++[47]
theorem AI0:aU [47]=[47]:=by rw[aU,if_pos rfl]
theorem zU(h:l≠[47]):aU l=l++[47]:=by rw[aU,if_neg h]
theorem vG(l:List UInt8):(aU l).length<=l.length+1:=by
 unfold aU
 split
 .simp
 .simp
theorem jJ(l:List UInt8)(w:FX)(hl:l.length<=140737488355328):
  G5 prog 245 #[S0 l] w fun e w'=>e=.returned (S0 (aU l))/\w'=w:=by
 have hz:(AU l.toArray).size=l.length:=DU ⟨l.toArray⟩;by_cases h:l=[47]
 .subst h;go_enter func245,ntmps245
  go_wp2
  go_ret;exact⟨AU8 (by rw[AI0]),rfl⟩
 .have h1:(l==[47])=false:=by simpa using h
  have Ho:=GH (zU h);clear h;go_enter func245,ntmps245
  go_wp2
  go_ret;exact⟨AU8 (by rw[G9 Ho];exact PU l [47]),rfl⟩
def mG(d m:List UInt8):List UInt8:=if J8 d&&JF m then(if(aU d++m).length<=200 then aU d++m else [])else []
def dS(d m:List UInt8):Int:=if J8 d&&JF m then(if(aU d++m).length<=200 then 0 else 1)else 2
theorem A89(h:(J8 d&&JF m)=false):mG d m=[]/\dS d m=2:=by
 unfold mG dS;rw[h];exact⟨rfl,rfl⟩
theorem AW7(h:(J8 d&&JF m)=true)(h1:200<(aU d++m).length):mG d m=[]/\dS d m=1:=by
 unfold mG dS;rw[if_pos h,if_pos h,if_neg (by omega),if_neg (by omega)];exact⟨rfl,rfl⟩
theorem AW8(h:(J8 d&&JF m)=true)(h1:(aU d++m).length<=200):mG d m=aU d++m/\dS d m=0:=by
 unfold mG dS;rw[if_pos h,if_pos h,if_pos h1,if_pos h1];exact⟨rfl,rfl⟩
theorem BG6(d m:List UInt8)(w:FX)(hm:m.length<=140737488355328):
  G5 prog 220 #[S0 d,S0 m] w (R0 w (.tuple #[S0 (mG d m),I0 (dS d m)])):=by
 cases hd:J8 d
 .obtain⟨h1,h2⟩:=A89 (d:=d) (m:=m) (by rw[hd];rfl);have H1:=GH h1;have H2:=GH h2;have Hd:=GH hd;clear h1 h2 hd;go_enter func220,ntmps220;go_wp2_with fail;refine(MB _ _).mono ?_;rintro e w1 ⟨rfl,hb1⟩;rw[show (AU d.toArray).data.toList=d from rfl,G9 Hd];go_wp2_with fail
  go_ret2
  exact⟨iC (by rw[G9 H1]) (G9 H2).symm,hb1⟩
 cases hn:JF m
 .obtain⟨h1,h2⟩:=A89 (d:=d) (m:=m) (by rw[hn,Bool.and_false]);have H1:=GH h1;have H2:=GH h2;have Hd:=GH hd;have Hn:=GH hn;clear h1 h2 hd hn;go_enter func220,ntmps220;go_wp2_with fail;refine(MB _ _).mono ?_;rintro e w1 ⟨rfl,hb1⟩;rw[show (AU d.toArray).data.toList=d from rfl,G9 Hd];go_wp2_with fail;refine(UG _ _ (U6 hm)).mono ?_;rintro e w2 ⟨rfl,rfl⟩;rw[show (AU m.toArray).data.toList=m from rfl,G9 Hn];go_wp2_with fail
  go_ret2
  exact⟨iC (by rw[G9 H1]) (G9 H2).symm,hb1⟩
 have hdl:=MV hd;have hml:=AU9 hn;have hol:=vG d;have hdn:(J8 d&&JF m)=true:=by rw[hd,hn];rfl
 have Hd:=GH hd;have Hn:=GH hn;clear hd hn;generalize hO:aU d=O at hol;have HO:=GH hO;clear hO;have hz:((AU O.toArray)++(AU m.toArray)).size=O.length+m.length:=by rw[PU,DU];show (O++m).length=_;simp
 by_cases hf:O.length+m.length<=200
 .obtain⟨h1,h2⟩:=AW8 hdn (by rw[G9 HO];simpa using hf);have H1:=GH h1;have H2:=GH h2;clear h1 h2 hdn;go_enter func220,ntmps220;go_wp2_with fail;refine(MB _ _).mono ?_;rintro e w1 ⟨rfl,hb1⟩;rw[show (AU d.toArray).data.toList=d from rfl,G9 Hd];go_wp2_with fail;refine(UG _ _ (U6 hm)).mono ?_;rintro e w2 ⟨rfl,rfl⟩;rw[show (AU m.toArray).data.toList=m from rfl,G9 Hn];go_wp2_with fail;refine(jJ _ _ (by omega)).mono ?_;rintro e w3 ⟨rfl,rfl⟩;rw[G9 HO];go_wp2_with fail
  go_ret2
  exact⟨iC (by rw[G9 H1,G9 HO];exact PU O m) (G9 H2).symm,hb1⟩
 .obtain⟨h1,h2⟩:=AW7 hdn (by rw[G9 HO];simp;omega);have H1:=GH h1;have H2:=GH h2;clear h1 h2 hdn;go_enter func220,ntmps220;go_wp2_with fail;refine(MB _ _).mono ?_;rintro e w1 ⟨rfl,hb1⟩;rw[show (AU d.toArray).data.toList=d from rfl,G9 Hd];go_wp2_with fail;refine(UG _ _ (U6 hm)).mono ?_;rintro e w2 ⟨rfl,rfl⟩;rw[show (AU m.toArray).data.toList=m from rfl,G9 Hn];go_wp2_with fail;refine(jJ _ _ (by omega)).mono ?_;rintro e w3 ⟨rfl,rfl⟩;rw[G9 HO];go_wp2_with fail
  go_ret2
  exact⟨iC (by rw[G9 H1]) (G9 H2).symm,hb1⟩
theorem vH(a b:List UInt8)(hb:47∉b):Lib.lastIndexByte ⟨(a++47::b).toArray⟩ 47=a.length:=by
 have hat:∀j,j<(a++47::b).length->((AU (a++47::b).toArray).data[j]!)=(a++47::b)[j]! :=fun j hj=>by simp
 rcases Lib.lastIndexByte_spec ⟨(a++47::b).toArray⟩ 47 with⟨_,h⟩|⟨i,hi,e,hc,hn⟩
 .exact absurd (by simp) (h a.length (by show a.length<(a++47::b).toArray.size;simp))
 .rw[e];have hi':i<(a++47::b).length:=by
   have:i<(a++47::b).toArray.size:=hi;simpa using this
  have h1:a.length<=i:=by
   apply Nat.le_of_not_lt
   intro hlt;exact hn a.length hlt (by show a.length<(a++47::b).toArray.size;simp) (by simp)
  by_cases h2:i=a.length
  .rw[h2]
  .exfalso
   apply hb
   have hlt:i-a.length-1<b.length:=by simp at hi';omega
   have hb':(a++47::b)[i]! =b[i-a.length-1]! :=by
    rw[List.getElem!_eq_getElem?_getD,List.getElem!_eq_getElem?_getD,List.getElem?_append_right h1];obtain⟨k,hk⟩:∃k,i-a.length=k+1:=⟨i-a.length-1,by omega⟩;rw[hk];simp
   rw[hat i hi',hb']at hc;have hm:b[i-a.length-1]! ∈b:=by
    rw[List.getElem!_eq_getElem?_getD,List.getElem?_eq_getElem hlt];simp
   have:b[i-a.length-1]! =47:=by
    apply UInt8.toNat_inj.1
    show _=47;omega
   rwa[this]at hm
theorem AW9(a b:List UInt8):(AU (a++47::b).toArray).extract 0 a.length=⟨a.toArray⟩:=by
 rw[uQ];simp
theorem BG7(a b:List UInt8):(AU (a++47::b).toArray).extract (a.length+1) (a.length+b.length+1)=⟨b.toArray⟩:=by
 have:=A79 (a++47::b) (a.length+1);rw[show (a++47::b).length=a.length+b.length+1 from by simp;omega]at this;rw[this];have e:(a++47::b).drop (a.length+1)=b:=by rw[<-List.drop_drop];simp
 rw[e]
def CH4(a:List UInt8):List UInt8:=if a=[]then [47]else a
theorem BG8:CH4 []=[47]:=by rw[CH4,if_pos rfl]
theorem AI1{a:List UInt8}(h:a≠[]):CH4 a=a:=by rw[CH4,if_neg h]
theorem vI{c d:ByteArray}(h:a=b)(h1:c=d)(h':i=j):DY (.tuple #[.string a,.string c,I0 i])=.returned (.tuple #[.string b,.string d,I0 j]):=by rw[h,h1,h']
theorem AI2(a b:List UInt8)(w:FX)(hb:47∉b)(hg:J8 (a++47::b)=true)(hne:a++47::b≠[47]):
  G5 prog 194 #[S0 (a++47::b)] w fun e w'=>
   e=.returned (.tuple #[S0 (CH4 a),S0 b,I0 0])/\B0 w w':=by
 have hl:a.length+b.length+1<=200:=by have:=MV hg;simp at this;omega
 have hne1:(a++47::b==[47])=false:=by simpa using hne
 have Hg:=GH hg;have Hi:=GH (vH a b hb);clear hg hne hb;have hz:(AU (a++47::b).toArray).size=a.length+b.length+1:=by rw[DU];show (a++47::b).length=_;simp;omega
 have Hc1:=GH (AW9 a b);have Hc2:=GH (BG7 a b);generalize a++47::b=l at*;go_enter func194,ntmps194;go_wp2_with fail;refine(MB _ _).mono ?_;rintro e w1 ⟨rfl,hb1⟩;rw[show (AU l.toArray).data.toList=l from rfl,G9 Hg];go_wp2_with fail;refine(strings_LastIndexByte _ _ (by omega) _).mono ?_;rintro e w2 ⟨rfl,rfl⟩;rw[G9 Hi];go_wp2_with fail;have cA:∀d os,G5 prog 63 #[.string ((AU l.toArray).extract 0 a.length)] (Sort.grow (redrawn w2 d) os) fun e w''=>e=.returned (S0 a)/\∃p:Regrown,w''=Sort.grow (redrawn w2 p.d) p.os:=
  fun d os=>Calls.regrown_of (by rw[G9 Hc1];exact WV _ _ (by rw[DU];show a.length<=_;omega))
 have cB:∀d os,G5 prog 63 #[.string ((AU l.toArray).extract (a.length+1) (a.length+b.length+1))] (Sort.grow (redrawn w2 d) os) fun e w''=>e=.returned (S0 b)/\∃p:Regrown,w''=Sort.grow (redrawn w2 p.d) p.os:=
  fun d os=>Calls.regrown_of (by rw[G9 Hc2];exact WV _ _ (by rw[DU];show b.length<=_;omega))
 have n1:(a.length:Int)<=a.length+b.length+1:=by omega
 have n2:(a.length:Int)<=a.length+b.length:=by omega
 have n3:IntKind.i64.wrap ((a.length:Int)+1)=(a.length:Int)+1:=by rw[IntKind.wrap_i64];omega
 have n4:(0:Int)<=(a.length:Int)+1:=by omega
 refine wp_region_quiet_below (by kernel_rfl) (by kernel_rfl) ?_
 repeat (quiet_step (first|exact cA _ _|exact cB _ _))
 refine wpQuiet_nil ?_;intro _ hw';obtain⟨⟨dq,osq⟩,hw''⟩:=hw';subst hw'';clear cA cB;have hb2:B0 w (Sort.grow (redrawn w2 dq) osq):=SQ hb1 (below_regrown w2 dq osq)
 cases he:a.isEmpty
 .go_wp2
  go_ret3
  exact⟨vI (by rw[AI1 (by rintro rfl;simp at he)]) rfl rfl,hb2⟩
 .obtain rfl:a=[]:=by simpa using he
  go_wp2
  go_ret3
  exact⟨vI (by rw[BG8]) rfl rfl,hb2⟩
theorem AX0(l:List UInt8)(w:FX)(hg:J8 l=false):
  G5 prog 194 #[S0 l] w (R0 w (.tuple #[.string ⟨#[]⟩,.string ⟨#[]⟩,I0 2])):=by
 have Hg:=GH hg;clear hg;go_enter func194,ntmps194;go_wp2_with fail;refine(MB _ _).mono ?_;rintro e w1 ⟨rfl,hb1⟩;rw[show (AU l.toArray).data.toList=l from rfl,G9 Hg];go_wp2_with fail
 go_ret3
 exact⟨rfl,hb1⟩
theorem AI3(w:FX):
  G5 prog 194 #[.string ⟨#[47]⟩] w (R0 w (.tuple #[.string ⟨#[]⟩,.string ⟨#[]⟩,I0 7])):=by
 go_enter func194,ntmps194;go_wp2_with fail;refine(MB _ _).mono ?_;rintro e w1 ⟨rfl,hb1⟩;rw[show (AU #[47]).data.toList=[47]from rfl,dR];go_wp2_with fail
 go_ret3
 exact⟨rfl,hb1⟩
