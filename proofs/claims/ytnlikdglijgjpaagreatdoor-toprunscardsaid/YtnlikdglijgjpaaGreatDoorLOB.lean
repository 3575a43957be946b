/-
  Part.
-/
import Derived.RangeFuncNested
import Derived.RangeFuncBound
import Derived.Test.YtnlikdglijgjpaaGreatDoorRows
import Derived.Test.YtnlikdglijgjpaaGreatDoorLOA
import Derived.WalkSpells
import Derived.WalkLawsBesides
import Derived.Test.YtnlikdglijgjpaaGreatDoorShelf
set_option maxRecDepth 20000
set_option maxHeartbeats 8000000
namespace Go.Proofs.YtnlikdglijgjpaaGreatDoor
open Go.RowKit Go.Proofs.Tryz
open _root_.Nat renaming le_refl->A8,lt_of_lt_of_le->AX
open Go.RowKit.Below renaming refl->AA,heap_setCell->BF
open _root_.Array renaming getElem?_eq_some_iff->AB
open _root_.ByteArray renaming mk->AQ
open _root_.List renaming length_cons->BG,length_nil->EU
open Go.Lib renaming size_eq->DL,decDigits->EK
open Go.Ending renaming returned->DW
open Go.World renaming size_alloc->FQ
open Go.Obj renaming cells->FU
open Go renaming World->FV,Value->FW,Calls->FX
open _root_.Option renaming none->FZ,some->G5
variable{n1:Nat}{l m d:List UInt8}{a b:ByteArray}{w:FV}{t:TypeId}{i j:Int}
structure YO(n1:Nat)(W W':FV):Prop where
 size:W.heap.size<=W'.heap.size
 block:∀k,n1<=k->k<W.heap.size->W'.heap[k]?=W.heap[k]?
theorem YO.refl(n1:Nat)(W:FV):YO n1 W W:=⟨A8 _,fun _ _ _=>rfl⟩
theorem YO.trans{A B C:FV}(h:YO n1 A B)(k:YO n1 B C):YO n1 A C:=
 ⟨Nat.le_trans h.size k.size,fun i hi hl=>(k.block i hi (AX hl h.size)).trans (h.block i hi hl)⟩
theorem YO.putObj{l:Nat}(W:FV)(o:Obj)(h:l<n1):YO n1 W (W.putObj l o):=
 ⟨by simp,fun k hk _=>World.putObj_heap_other (by omega)⟩
theorem YO.setCell(W:FV){p:Addr}(v:FW)(h:p.block<n1):YO n1 W (W.setCell p v):=
 ⟨(KeepsWalks.setCell W p v).size,fun k hk _=>BF W p v k (by omega)⟩
def CQ5{α:Type}(F:Fence)(n:Nat)(P:Program)(g:Nat)(lb:Array FW)(encs:α->Array FW)(St Kp:FV->FV->Prop)(xs:List α)(W:FV):Prop:=
 ∀ (l:Nat) (J Jx:List α->FV->Prop),(∀s A B,J s A->St A B->J s B)->(∀s A B,Jx s A->St A B->Jx s B)->
  (∀pre x W1,J pre W1->pre++[x]<+:xs->YieldAt F (n-1) P l (encs x) W1 fun e W'=>
   (e=.returned (.bool true)/\J (pre++[x]) W'/\Kp W1 W')\/(e=.returned (.bool false)/\Jx (pre++[x]) W'/\Kp W1 W'))->
  J [] W->
  CallsIn F n P g (#[.func (.yield l) #[] #[]]++lb) W fun e W'=>(∃v,e=.returned v)/\(J xs W'\/∃pre,pre<+:xs/\Jx pre W')
def CS3{α:Type}(D l:Nat)(Kp:FV->FV->Prop)(I:List α->FV->Prop)(Ix:Code->List α->FV->Prop)(xs:List α)(W:FV):Exit->Act->FV->Prop
 | .normal,_,W'=>W'.heap[D]?=W.heap[D]? /\W'.heap[l]?=W.heap[l]? /\Kp W W'/\I xs W'
 | .ret,_,W'=>W'.heap[D]?=W.heap[D]? /\W'.heap[l]?=W.heap[l]? /\Kp W W'/\Ix .ret xs W'
 | .exit id,_,W'=>W'.heap[D]?=W.heap[D]? /\W'.heap[l]?=W.heap[l]? /\Kp W W'/\Ix (.exit id) xs W'
 | .goto t,_,W'=>W'.heap[D]?=W.heap[D]? /\W'.heap[l]?=W.heap[l]? /\Kp W W'/\Ix (.goto t) xs W'
 | .panic _,_,_=>False
 | .outgrown,_,_=>False
variable {F:Fence} {n:Nat} {P:Program}
theorem VD{α:Type}{g:Operand}{ps:Array Tmp}{assign body:Code}{Q:Exit->Act->FV->Prop}{a:Act}{w:FV}
  (hro:F.round=FZ) (h1:1<=n) {gf:Nat} {lb:Array FW} (hg:a.eval g=.func (.func gf) #[] lb) (hFg:F.fn gf) (eg:∀args w,(callFunc gf args).run P w=.ok (.enter gf args) w)
  {encs:α->Array FW} {St Kp:FV->FV->Prop} {xs:List α}
  (hseq:∀o1 o2,CQ5 F (n-1) P gf lb encs St Kp xs ((w.alloc o1).alloc o2))
  (hSt:∀A B k,St A B->k=w.heap.size\/k=w.heap.size+1->k<A.heap.size->B.heap[k]?=A.heap[k]?)
  (hKt:∀A B C,Kp A B->Kp B C->Kp A C) (hKb:∀W o,Kp W (W.putObj (w.heap.size+1) o)) (hps:∀x,(encs x).size=ps.size)
  (I:List α->FV->Prop) (Ix:Code->List α->FV->Prop) (hI:∀s A B,I s A->St A B->I s B) (hIx:∀c s A B,Ix c s A->St A B->Ix c s B)
  (hIp:∀s A o,I s A->I s (A.putObj (w.heap.size+1) o)) (CQ6:∀c s A o,Ix c s A->Ix c s (A.putObj (w.heap.size+1) o))
  (h0:∀o1 o2,I [] ((w.alloc o1).alloc o2)) (a₁:α->Act)
  (hassign:∀ (x:α) (W:FV) (K:Act->FV->Prop),K (a₁ x) W->
   assign.wpIn (F.inRound (w.heap.size+1)) (n-1-1) P (Exit.then K (fun _ _ _=>False)) {tmps:=(ps.zip (encs x)).foldl (fun t (p,v)=>t.setIfInBounds p v) a.tmps,defers:=[]} W)
  (hbody:∀ (pre:List α) (x:α) (W:FV),I pre W->pre++[x]<+:xs->w.heap.size+1<W.heap.size->
   body.wpIn (F.inRound (w.heap.size+1)) (n-1-1) P (CS3 w.heap.size (w.heap.size+1) Kp I Ix (pre++[x]) W) (a₁ x) W)
  (hdone:∀ (W:FV),I xs W->W.heap[w.heap.size]?=G5 (.deferred (G5 []))->Q .normal {a with defers:={target:=.collected w.heap.size,args:=#[]}::a.defers} W)
  (hstop:∀ (c:Code) (pre:List α) (W:FV),pre<+:xs->Ix c pre W->W.heap[w.heap.size]?=G5 (.deferred (G5 []))->c.wpIn F n P Q {a with defers:={target:=.collected w.heap.size,args:=#[]}::a.defers} W):
  (Code.rangeFunc g ps assign body).wpIn F n P Q a w:=by
 refine wpIn_rangeFunc ?_;intro fn hfn;rw[hro];obtain⟨rec,hrec⟩:∃rec:LoopState->Option Code->Loop,rec=fun st pe=>{state:=st,pending:=pe,fn,tmps:=a.tmps,params:=ps,assign,body,defers:=w.heap.size}:=⟨_,rfl⟩;obtain⟨W1,hW1⟩:∃W1,(w.alloc (.deferred (G5 []))).alloc (.loop (rec .ready FZ))=W1:=⟨_,rfl⟩;have hL1:W1.heap[w.heap.size+1]?=G5 (.loop (rec .ready FZ)):=by
  rw[<-hW1];have:=World.alloc_heap_new (w.alloc (.deferred (G5 []))) (.loop (rec .ready FZ));rwa[FQ]at this
 have hK1:W1.heap[w.heap.size]?=G5 (.deferred (G5 [])):=by
  rw[<-hW1];exact(Below.heap_alloc _ _ _ (by simp)).trans (World.alloc_heap_new w _)
 have hI1:I [] W1:=by rw[<-hW1];exact h0 _ _
 have hS1:CQ5 F (n-1) P gf lb encs St Kp xs W1:=by rw[<-hW1];exact hseq _ _
 refine⟨w.heap.size+1,[{target:=.collected w.heap.size,args:=#[]}],W1,{target:=.fn (.func gf) lb,args:=#[.func (.yield (w.heap.size+1)) #[] #[]]},W1,gf,
  #[.func (.yield (w.heap.size+1)) #[] #[]]++lb,W1,?_,?_,?_,?_,fun _=>h1,?_⟩
 .rw[<-hW1,hrec];exact run_enterLoop_outer _ _ _ _ _
 .simp only[resolve,hg];simp[go_sem]
 .intro f' hf';simp[Target.leads]at hf';subst hf';exact hFg
 .simp[invoke,go_sem,eg]
 .refine(hS1 (w.heap.size+1)
   (fun pre W=>I pre W/\W.heap[w.heap.size+1]?=G5 (.loop (rec .ready FZ))/\W.heap[w.heap.size]?=G5 (.deferred (G5 [])))
   (fun pre W=>∃c,Ix c pre W/\W.heap[w.heap.size+1]?=G5 (.loop (rec .done (G5 c)))/\W.heap[w.heap.size]?=G5 (.deferred (G5 [])))
   (fun s A B hs hg'=>⟨hI s A B hs.1 hg',(hSt A B _ hg' (.inr rfl) (AB.1 hs.2.1).1).trans hs.2.1,(hSt A B _ hg' (.inl rfl) (AB.1 hs.2.2).1).trans hs.2.2⟩)
   (fun s A B hs hg'=>by
    obtain⟨c,hc,hl,hk⟩:=hs;exact⟨c,hIx c s A B hc hg',(hSt A B _ hg' (.inr rfl) (AB.1 hl).1).trans hl,(hSt A B _ hg' (.inl rfl) (AB.1 hk).1).trans hk⟩)
   ?_ ⟨hI1,hL1,hK1⟩).mono ?_
  .rintro pre x W ⟨hi,hl,hk⟩ hlen;have hlt:w.heap.size+1<W.heap.size:=(AB.1 hl).1;have hy:=run_yield (P:=P) (args:=encs x) hl (by rw[hrec];exact hps x);rw[hrec]at hy;refine⟨fn,_,assign,body,hy,roundIn_of_wpIn hfn (hassign x W _ ⟨_,run_beginRound hl (by rw[hrec]),?_⟩)⟩;have hl2:(W.putObj (w.heap.size+1) (.loop {rec .ready FZ with state:=.busy})).heap[w.heap.size+1]?=G5 (.loop {rec .ready FZ with state:=.busy}):=World.putObj_heap_same hlt;have hk2:(W.putObj (w.heap.size+1) (.loop {rec .ready FZ with state:=.busy})).heap[w.heap.size]?=G5 (.deferred (G5 [])):=(World.putObj_heap_other (by omega)).trans hk;have hw2:Kp W (W.putObj (w.heap.size+1) (.loop {rec .ready FZ with state:=.busy})):=hKb _ _;refine wpIn_mono (hbody pre x _ (hIp _ _ _ hi) hlen (by simpa using hlt)) ?_;have fin:∀ (jump:Option Code) (W3:FV),W3.heap[w.heap.size]?=G5 (.deferred (G5 []))->W3.heap[w.heap.size+1]?=G5 (.loop {rec .ready FZ with state:=.busy})->
     (Instr.endRound (w.heap.size+1) jump).run P W3=.ok (.bool jump.isNone) (W3.putObj (w.heap.size+1) (.loop (rec (if jump.isNone then .ready else .done) jump)))/\
     (W3.putObj (w.heap.size+1) (.loop (rec (if jump.isNone then .ready else .done) jump))).heap[w.heap.size+1]?=G5 (.loop (rec (if jump.isNone then .ready else .done) jump))/\
     (W3.putObj (w.heap.size+1) (.loop (rec (if jump.isNone then .ready else .done) jump))).heap[w.heap.size]?=G5 (.deferred (G5 [])):=fun jump W3 hk3 hl3=>by
    have:=run_endRound (P:=P) jump hl3;rw[hrec]at this⊢;exact⟨this,World.putObj_heap_same (AB.1 hl3).1,(World.putObj_heap_other (by omega)).trans hk3⟩
   rintro e a3 W3 hp
   cases e with
   |normal=>
    obtain⟨hD3,hl3,hkp3,hi3⟩:=hp;obtain⟨hr,hl4,hk4⟩:=fin FZ W3 (hD3.trans hk2) (hl3.trans hl2);exact⟨_,_,hr,.inl ⟨rfl,⟨hIp _ _ _ hi3,hl4,hk4⟩,hKt _ _ _ (hKt _ _ _ hw2 hkp3) (hKb _ _)⟩⟩
   |ret=>
    obtain⟨hD3,hl3,hkp3,hi3⟩:=hp;obtain⟨hr,hl4,hk4⟩:=fin (G5 .ret) W3 (hD3.trans hk2) (hl3.trans hl2);exact⟨_,_,hr,.inr ⟨rfl,⟨.ret,CQ6 _ _ _ _ hi3,hl4,hk4⟩,hKt _ _ _ (hKt _ _ _ hw2 hkp3) (hKb _ _)⟩⟩
   |exit id=>
    obtain⟨hD3,hl3,hkp3,hi3⟩:=hp;obtain⟨hr,hl4,hk4⟩:=fin (G5 (.exit id)) W3 (hD3.trans hk2) (hl3.trans hl2);exact⟨_,_,hr,.inr ⟨rfl,⟨.exit id,CQ6 _ _ _ _ hi3,hl4,hk4⟩,hKt _ _ _ (hKt _ _ _ hw2 hkp3) (hKb _ _)⟩⟩
   |goto t=>
    obtain⟨hD3,hl3,hkp3,hi3⟩:=hp;obtain⟨hr,hl4,hk4⟩:=fin (G5 (.goto t)) W3 (hD3.trans hk2) (hl3.trans hl2);exact⟨_,_,hr,.inr ⟨rfl,⟨.goto t,CQ6 _ _ _ _ hi3,hl4,hk4⟩,hKt _ _ _ (hKt _ _ _ hw2 hkp3) (hKb _ _)⟩⟩
   |panic ch=>exact hp.elim
   |outgrown=>exact hp.elim
  .rintro e W2 ⟨⟨v,rfl⟩,(⟨hi,hl,hk⟩|⟨pre,hSp,c,hi,hl,hk⟩)⟩
   .exact⟨FZ,_,by have:=run_endLoop (P:=P) hl (by rw[hrec];simp);rw[hrec]at this;exact this,hdone _ (hIp _ _ _ hi) ((World.putObj_heap_other (by omega)).trans hk)⟩
   .exact⟨G5 c,_,by have:=run_endLoop (P:=P) hl (by rw[hrec];simp);rw[hrec]at this;exact this,hstop c pre _ hSp (CQ6 _ _ _ _ hi) ((World.putObj_heap_other (by omega)).trans hk)⟩
theorem QY{a b:Bool}(h:a=b):DW (.bool a)=.returned (.bool b):=by rw[h]
theorem lZ(c:UInt8)(w:FV):
  FX prog 106 #[.int .u8 c.toNat] w fun e w'=>e=.returned (.bool (TJ c))/\w'=w:=by
 have hc:=c.toNat_lt;go_enter func106,ntmps106
 go_wp2
 all_goals go_ret
 all_goals exact⟨QY (by rw[Bool.eq_iff_iff];simp[TJ];try omega),rfl⟩
theorem TT(s:ByteArray)(w:FV)(hs:s.size<=maxLen):
  FX prog 67 #[.string s] w fun e w'=>e=.returned (.bool (JA s.data.toList))/\w'=w:=by
 unfold maxLen at hs;by_cases h1:s.size<1
 .go_enter func67,ntmps67
  go_wp2
  go_ret;exact⟨QY (sJ s h1).symm,rfl⟩
 by_cases h2:40<s.size
 .go_enter func67,ntmps67
  go_wp2
  go_ret;exact⟨QY (yJ s h2).symm,rfl⟩
 go_enter func67,ntmps67
 go_wp2
 go_loop [14] (fun i=>∃k:Nat,k<=s.size/\i=I0 k/\(s.data.toList.take k).all TJ=true) (fun i=>s.size-(intOf i).toNat)
 case atStart=>exact⟨0,Nat.zero_le _,rfl,by simp⟩
 case round=>
  obtain⟨k,hk,rfl,hall⟩:=hrel;have yQ:=G7 hall;clear hall;by_cases hlt:k<s.size
  .by_cases hl:TJ s[k]=true
   .go_wp2_with (go_at_call 106;refine(lZ _ _).mono ?_;rintro e w' ⟨rfl,rfl⟩)
    go_round
    case rel=>exact⟨k+1,by omega,by go_num,UG s k hlt TJ (G6 yQ) hl⟩
    case measure=>simp[intOf];omega
   .have hl':TJ s[k]=false:=by simpa using hl
    clear hl;go_wp2_with (go_at_call 106;refine(lZ _ _).mono ?_;rintro e w' ⟨rfl,rfl⟩);go_ret;exact⟨QY ((lV s (by omega) (by omega)).trans (bP s k hlt TJ hl')).symm,rfl⟩
  .go_wp2
   go_ret;exact⟨QY ((lV s (by omega) (by omega)).trans (YM s k (by omega) TJ (G6 yQ))).symm,rfl⟩
open Go.Shelf
attribute [local go_sem] Oper.semAt_some
def BZ4(w:FV)(b:Nat):Nat:=match w.cell? ⟨b,0,FZ⟩with
 |some (.string s)=>s.size
 |_=>0
theorem A67{b:Nat}{s:ByteArray}(h:Boxed w b t (.string s)):BZ4 w b=s.size:=by
 simp[BZ4,h.cell]
theorem Boxed.of_heap{W W':FV}{B:Nat}{v:FW}(h:Boxed W B t v)(e:W'.heap[B]?=W.heap[B]?):Boxed W' B t v:=e.trans h
theorem sW(r:List UInt8)(i:Nat):(AQ r.toArray).extract 0 i=⟨(r.take i).toArray⟩:=by
 have:=Lib.extract_data ⟨r.toArray⟩ 0 i;rw[List.drop_zero,Nat.sub_zero]at this;exact congrArg (fun l:List UInt8=>AQ l.toArray) this
theorem A68(r:List UInt8)(i:Nat):(AQ r.toArray).extract i r.length=⟨(r.drop i).toArray⟩:=by
 have:=Lib.extract_data ⟨r.toArray⟩ i r.length;rw[List.take_of_length_le (by simp)]at this;exact congrArg (fun l:List UInt8=>AQ l.toArray) this
theorem TU(n:Nat):Fence.wide.depth.isSome=true->1<=n:=fun h=>by cases h
theorem lG(n BZ5 Bs Bv:Nat)(s:List UInt8)(W:FV)(h1:Bs≠BZ5)(h2:Bs≠Bv)(hlen:s.length<=1000000)
  (b1:Boxed W BZ5 9 (.string ⟨#[47]⟩)) (b2:Boxed W Bs 9 (.string ⟨s.toArray⟩)) (b3:Boxed W Bv 3 (.int .i64 0)):
  CQ5 Fence.wide n prog 257 #[.pointer (G5 ⟨BZ5,0,FZ⟩),.pointer (G5 ⟨Bs,0,FZ⟩),.pointer (G5 ⟨Bv,0,FZ⟩)] (fun x:List UInt8=>#[.string ⟨x.toArray⟩])
   (fun A B=>∃v,B=A.setCell ⟨Bs,0,FZ⟩ v) (fun A B=>∀k,k=BZ5\/k=Bs\/k=Bv->B.heap[k]?=A.heap[k]?) (MZ s) W:=by
 intro l J Jx hJ hJx hY h0;refine callsIn_of_wp func257 rfl trivial ?_ rfl;simp only[ntmps257,List.size_toArray,BG,EU,Nat.reduceAdd,Nat.reduceSub,Array.replicate_succ,Array.replicate_zero,List.push_toArray,List.append_toArray,List.nil_append,List.cons_append];have c1:=b1.cell;have HY:=G7 hY;have HJ:=G7 hJ;have HJx:=G7 hJx;clear hY hJ hJx
 gi_wp2
 clear c1
 gi_loopw [7] (fun _ wr=>∃ (pre:List (List UInt8)) (r:List UInt8),MZ s=pre++MZ r/\r.length<=1000000/\Boxed wr BZ5 9 (.string ⟨#[47]⟩)/\Boxed wr Bs 9 (.string ⟨r.toArray⟩)/\Boxed wr Bv 3 (.int .i64 0)/\J pre wr)
  (fun _ wr=>BZ4 wr Bs)
 case atStart=>exact⟨[],s,rfl,hlen,b1,b2,b3,h0⟩
 case round=>
  clear b1 b2 b3 h0 hlen;obtain⟨pre,r,hpre,hlen,b1,b2,b3,hJs⟩:=hrel;have CE0:=G7 hpre;clear hpre;have c1:=b1.cell;have c2:=b2.cell;have c3:=b3.cell;have f2:=b2.frozen;have hz:(AQ r.toArray).size=r.length:=DL ⟨r.toArray⟩;rcases iJ r with hi|⟨i,hi⟩
  .have Hs:=G7 (iH r hi);have Hi:=G7 hi;clear hi;obtain⟨fn,tmps,assign,body,hy,hR⟩:=G6 HY pre r wr hJs (by rw[G6 CE0,G6 Hs];exact List.prefix_refl _)
   gi_wp2_with fail
   refine⟨trivial,TU _,(callsIn_wide.2 (strings_Index_one _ _ _)).mono ?_⟩;rintro e w' ⟨rfl,rfl⟩;rw[show (AQ r.toArray).data.toList=r from rfl,G6 Hi]
   gi_wp2
   refine⟨TU _,hR.mono ?_⟩;rintro e W3 (⟨rfl,hJ3,_⟩|⟨rfl,hJx3,_⟩)
   .gi_wp2
    go_end0
    exact⟨⟨_,rfl⟩,.inl (by rw[G6 CE0,G6 Hs];exact hJ3)⟩
   .gi_wp2
    go_end0
    exact⟨⟨_,rfl⟩,.inr ⟨_,by rw[G6 CE0,G6 Hs];exact List.prefix_refl _,hJx3⟩⟩
  .obtain⟨hil,hsp⟩:=iI r i hi;have Hs:=G7 hsp;have Hi:=G7 hi;clear hi hsp;obtain⟨fn,tmps,assign,body,hy,hR⟩:=G6 HY pre (r.take i) wr hJs (by rw[G6 CE0,G6 Hs];simp)
   gi_wp2_with fail
   refine⟨trivial,TU _,(callsIn_wide.2 (strings_Index_one _ _ _)).mono ?_⟩;rintro e w' ⟨rfl,rfl⟩;rw[show (AQ r.toArray).data.toList=r from rfl,G6 Hi];rw[<-sW r i]at hy
   gi_wp2
   refine⟨TU _,hR.mono ?_⟩;rintro e W3 (⟨rfl,hJ3,hk3⟩|⟨rfl,hJx3,hk3⟩)
   .have d1:=Boxed.of_heap b1 (hk3 BZ5 (.inl rfl));have d2:=Boxed.of_heap b2 (hk3 Bs (.inr (.inl rfl)));have d3:=Boxed.of_heap b3 (hk3 Bv (.inr (.inr rfl)));have Hl:=G7 (A67 b2);clear c1 c2 c3 f2 b1 b2 b3 hk3 hy hR;have c1:=d1.cell;have c2:=d2.cell;have f2:=d2.frozen
    gi_wp2
    rw[A68];refine⟨⟨pre++[r.take i],r.drop (i+1),by rw[G6 CE0,G6 Hs];simp,by simp;omega,Boxed.of_heap d1 (BF W3 _ _ BZ5 (Ne.symm h1)),d2.set _,
     Boxed.of_heap d3 (BF W3 _ _ Bv (Ne.symm h2)),G6 HJ _ _ _ hJ3 ⟨_,rfl⟩⟩,?_⟩
    rw[A67 (d2.set _),G6 Hl];show (r.drop (i+1)).toArray.size<r.toArray.size;simp;omega
   .gi_wp2
    refine bodyPost_ret (results_none rfl _ _ _) rfl ?_;exact⟨⟨_,rfl⟩,.inr ⟨pre++[r.take i],by rw[G6 CE0,G6 Hs];simp,hJx3⟩⟩
attribute [local go_sem] Oper.semAt_some
theorem MO{l:Nat}(W:FV)(o:Obj)(h:n1<=l):Below n1 W (W.putObj l o):=
 ⟨rfl,rfl,rfl,by simp,fun k hk=>World.putObj_heap_other (by omega)⟩
theorem QH{W:FV}{B l:Nat}{v:FW}(o:Obj)(h:Boxed W B t v)(hne:B≠l):Boxed (W.putObj l o) B t v:=(World.putObj_heap_other hne).trans h
theorem lH(s sep:ByteArray)(w:FV):
  FX prog 210 #[.string s,.string sep] w fun e w'=>
   e=.returned (.func (.func 257) #[] #[.pointer (G5 ⟨w.heap.size+1,0,FZ⟩),.pointer (G5 ⟨w.heap.size,0,FZ⟩),.pointer (G5 ⟨w.heap.size+1+1,0,FZ⟩)])/\
   w'=((w.alloc (FU #[.string s] 9)).alloc (FU #[.string sep] 9)).alloc (FU #[I0 0] 3):=by
 go_enter func210,ntmps210
 go_wp2
 go_ret;exact⟨rfl,rfl⟩
theorem AF8{n m l0:Nat}{P:Program}{l:Nat}{f:FuncId}{tmps:Array FW}{assign body:Code}{R:Ending->FV->Prop}(h:RoundIn Fence.wide n P l f tmps assign body w R):RoundIn (Fence.wide.inRound l0) m P l f tmps assign body w R:=
 ⟨h.1,fun c cs _=>h.2 c cs (room_wide _)⟩
theorem AF9(W:FV)(v0 v1 v2 v3:FW)(t0 t1 t2 t3:TypeId)(W0:FV)(h:(((W.alloc (FU #[v0] t0)).alloc (FU #[v1] t1)).alloc (FU #[v2] t2)).alloc (FU #[v3] t3)=W0):
  W0.heap.size=W.heap.size+4/\Boxed W0 W.heap.size t0 v0/\Boxed W0 (W.heap.size+1) t1 v1/\Boxed W0 (W.heap.size+2) t2 v2/\Boxed W0 (W.heap.size+3) t3 v3/\B0 W W0:=by
 subst h;refine⟨by simp,(((Boxed.new W t0 v0).alloc _).alloc _).alloc _,?_,?_,?_,?_⟩
 .have:=Boxed.new (W.alloc (FU #[v0] t0)) t1 v1;rw[FQ]at this;exact(this.alloc _).alloc _
 .have:=Boxed.new ((W.alloc (FU #[v0] t0)).alloc (FU #[v1] t1)) t2 v2;rw[FQ,FQ]at this;exact this.alloc _
 .have:=Boxed.new (((W.alloc (FU #[v0] t0)).alloc (FU #[v1] t1)).alloc (FU #[v2] t2)) t3 v3;rw[FQ,FQ,FQ]at this;exact this
 .exact((((AA _ W).alloc (A8 _) _).alloc (by simp) _).alloc (by simp;omega) _).alloc (by simp;omega) _
theorem yR(n Bp:Nat)(s:List UInt8)(W:FV)(hn:1<=n)(hlen:s.length<=1000000)(bp:Boxed W Bp 9 (S0 s)):
  CQ5 Fence.wide n prog 209 #[P0 Bp] (fun x:List UInt8=>#[S0 x])
   (Below W.heap.size) (YO W.heap.size) (YA s) W:=by
 intro l J Jx hJ hJx hY h0;refine callsIn_of_wp_marks func209 rfl trivial ?_ rfl;simp only[ntmps209,List.size_toArray,BG,EU,Nat.reduceAdd,Nat.reduceSub,Array.replicate_succ,Array.replicate_zero,List.push_toArray,List.append_toArray,List.nil_append,List.cons_append];have cp:=bp.cell;have cp':=(bp.alloc (FU #[.func (.yield l) #[] #[]] 148)).cell;have HY:=G7 hY;have HJ:=G7 hJ;have HJx:=G7 hJx;clear hY hJ hJx;by_cases hroot:s=[47]
 .subst hroot
  gi_wp2
  refine⟨_,results_none rfl _ _ _,⟨_,rfl⟩,.inl ?_⟩;exact G6 HJ _ _ _ h0 ((AA _ W).alloc (A8 _) _)
 .have hr1:(s==[47])=false:=by simpa using hroot
  have Hst:Hid (YA s=MZ (Lib.trimPrefix s [47])):=by rw[YA,if_neg hroot];exact rfl
  clear hroot
  gi_wp2_with fail
  refine⟨trivial,(callsIn_wide.2 (strings_TrimPrefix _ _ _)).mono ?_⟩;rintro e w' ⟨rfl,rfl⟩;rw[show (AQ s.toArray).data.toList=s from rfl,show (AQ #[47]).data.toList=[47]from rfl];generalize hR:Lib.trimPrefix s [47]=R;have hRl:R.length<=1000000:=by
   have:=Lib.trimPrefix_le s [47];rw[<-hR];omega
  have CS4:Hid (YA s=MZ R):=by rw[<-hR];exact Hst
  clear hR Hst hr1 cp cp'
  gi_wp2_with fail
  refine⟨trivial,(callsIn_wide.2 (lH _ _ _)).mono ?_⟩;rintro e w' ⟨rfl,rfl⟩
  gi_wp2_with fail
  generalize hW0:(((W.alloc (FU #[.func (.yield l) #[] #[]] 148)).alloc (FU #[S0 R] 9)).alloc (FU #[.string ⟨#[47]⟩] 9)).alloc (FU #[I0 0] 3)=W0;obtain⟨hsz,k0,k1,k2,k3,kb⟩:=AF9 _ _ _ _ _ _ _ _ _ W0 hW0;clear hW0;refine VD (α:=List UInt8) rfl hn (gf:=257) (lb:=#[.pointer (G5 ⟨W.heap.size+2,0,FZ⟩),.pointer (G5 ⟨W.heap.size+1,0,FZ⟩),.pointer (G5 ⟨W.heap.size+3,0,FZ⟩)]) rfl trivial (enters_of func257 (by kernel_rfl) rfl)
   (fun o1 o2=>lG (n-1) (W.heap.size+2) (W.heap.size+1) (W.heap.size+3) R _ (by omega) (by omega) hRl ((k2.alloc o1).alloc o2) ((k1.alloc o1).alloc o2) ((k3.alloc o1).alloc o2))
   (fun A B k hs hk hl=>by obtain⟨v,rfl⟩:=hs;exact BF A _ _ k (by show k≠W.heap.size+1;omega))
   (fun A B C h k i hi=>(k i hi).trans (h i hi)) (fun A o k hk=>World.putObj_heap_other (by omega)) (fun _=>rfl)
   (fun pre A=>J pre A/\Boxed A W.heap.size 148 (.func (.yield l) #[] #[]))
   (fun c pre A=>c=.ret/\Jx pre A)
   (fun pre A B hs hg=>by
    obtain⟨v,rfl⟩:=hg;exact⟨G6 HJ _ _ _ hs.1 ((AA _ A).setCell (p:=⟨W.heap.size+1,0,FZ⟩) (by simp) v),Boxed.of_heap hs.2 (BF A _ _ _ (by show W.heap.size≠W.heap.size+1;omega))⟩)
   (fun c pre A B hs hg=>by
    obtain⟨v,rfl⟩:=hg;exact⟨hs.1,G6 HJx _ _ _ hs.2 ((AA _ A).setCell (p:=⟨W.heap.size+1,0,FZ⟩) (by simp) v)⟩)
   (fun pre A o hs=>⟨G6 HJ _ _ _ hs.1 (MO A o (by omega)),QH o hs.2 (by omega)⟩)
   (fun c pre A o hs=>⟨hs.1,G6 HJx _ _ _ hs.2 (MO A o (by omega))⟩)
   (fun o1 o2=>⟨G6 HJ _ _ _ h0 ((kb.alloc (by omega) o1).alloc (by simp;omega) o2),(k0.alloc o1).alloc o2⟩)
   (fun x=>{tmps:=#[.func (.yield l) #[] #[],P0 Bp,.pointer (G5 ⟨W.heap.size,0,FZ⟩),S0 x,S0 s,.bool false,S0 s,S0 R,
    .func (.func 257) #[] #[.pointer (G5 ⟨W.heap.size+2,0,FZ⟩),.pointer (G5 ⟨W.heap.size+1,0,FZ⟩),.pointer (G5 ⟨W.heap.size+3,0,FZ⟩)],S0 x,undef,undef,undef,undef],defers:=[]})
   ?assign ?body ?done ?stop
  case assign=>
   intro x A K hK
   gi_wp2
   exact hK
  case body=>
   rintro pre x A ⟨hJA,hbx⟩ hpre hlt;have cx:=hbx.cell;obtain⟨fn,tmps,assign,body,hy,hR⟩:=G6 HY pre x A hJA (by rw[G6 CS4];exact hpre)
   gi_wp2
   refine⟨TU _,(AF8 hR).mono ?_⟩;rintro e W3 (⟨rfl,hJ3,hk3⟩|⟨rfl,hJx3,hk3⟩)
   .gi_wp2
    exact⟨hk3.block _ (by omega) (by omega),hk3.block _ (by omega) (by omega),fun k hk=>hk3.block k (by omega) (by omega),hJ3,Boxed.of_heap hbx (hk3.block _ (A8 _) (by omega))⟩
   .gi_wp2
    exact⟨hk3.block _ (by omega) (by omega),hk3.block _ (by omega) (by omega),fun k hk=>hk3.block k (by omega) (by omega),rfl,hJx3⟩
  case done=>
   rintro A ⟨hJA,hbx⟩ hK
   gi_wp2
   refine⟨by simp,.inl ⟨_,_,rfl,run_takeDeferred hK,?_⟩⟩;refine⟨_,results_none rfl _ _ _,⟨_,rfl⟩,.inl ?_⟩;rw[G6 CS4];exact G6 HJ _ _ _ hJA (MO A _ (by omega))
  case stop=>
   rintro c pre A hpre ⟨rfl,hJA⟩ hK
   gi_wp2
   refine⟨by simp,.inl ⟨_,_,rfl,run_takeDeferred hK,?_⟩⟩;refine⟨_,results_none rfl _ _ _,⟨_,rfl⟩,.inr ⟨pre,by rw[G6 CS4];exact hpre,?_⟩⟩;exact G6 HJx _ _ _ hJA (MO A _ (by omega))
attribute [local go_sem] Oper.semAt_some
theorem yS(s:ByteArray)(w:FV):
  FX prog 180 #[.string s] w fun e w'=>
   e=.returned (.func (.func 209) #[] #[.pointer (G5 ⟨w.heap.size,0,FZ⟩)])/\w'=w.alloc (FU #[.string s] 9):=by
 go_enter func180,ntmps180
 go_wp2
 go_ret;exact⟨rfl,rfl⟩
theorem AT5(W:FV)(v0 v1:FW)(t0 t1:TypeId)(W0:FV)(h:(W.alloc (FU #[v0] t0)).alloc (FU #[v1] t1)=W0):
  W0.heap.size=W.heap.size+2/\Boxed W0 W.heap.size t0 v0/\Boxed W0 (W.heap.size+1) t1 v1/\B0 W W0:=by
 subst h;refine⟨by simp,(Boxed.new W t0 v0).alloc _,?_,?_⟩
 .have:=Boxed.new (W.alloc (FU #[v0] t0)) t1 v1;rw[FQ]at this;exact this
 .exact((AA _ W).alloc (A8 _) _).alloc (by simp) _
theorem AG0(h:200<l.length):J4 l=false:=by
 simp only[J4,show ¬l.length<=200 from by omega,decide_false,Bool.false_and]
theorem yT(h:Lib.hasPrefix l [47]=false):J4 l=false:=by
 simp only[J4,h,Bool.and_false,Bool.false_and]
theorem AT6(h0:l.length<=200)(h:Lib.hasPrefix l [47]=true):J4 l=(YA l).all JA:=by
 simp only[J4,h0,h,decide_true,Bool.true_and]
theorem oW(l:List UInt8):∀p∈YA l,p.length<=l.length:=by
 intro p hp;unfold YA at hp
 split at hp
 .simp at hp
 .have h1:=oQ _ p hp;have h2:=Lib.trimPrefix_le l [47];omega
theorem YP{pre xs:List (List UInt8)}(h:pre<+:xs)(h1:pre.all JA=false):xs.all JA=false:=by
 obtain⟨t,rfl⟩:=h;rw[List.all_append,h1,Bool.false_and]
theorem BZ6(s:ByteArray):∃l:List UInt8,s=⟨l.toArray⟩:=⟨s.data.toList,rfl⟩
theorem AT7(l:List UInt8)(w:FV)(h0:l.length<=200)(hp:Lib.hasPrefix l [47]=true):
  FX prog 133 #[S0 l] w (R0 w (.bool ((YA l).all JA))):=by
 refine(callsIn_wide (n:=6)).1 ?_;refine callsIn_of_wp_marks func133 rfl trivial ?_ rfl;simp only[ntmps133,List.size_toArray,BG,EU,Nat.reduceAdd,Nat.reduceSub,Array.replicate_succ,Array.replicate_zero,List.push_toArray,List.append_toArray,List.nil_append,List.cons_append];have hz:(AQ l.toArray).size=l.length:=DL ⟨l.toArray⟩;have Hp:=G7 hp;clear hp
 gi_wp2_with fail
 refine⟨trivial,(callsIn_wide.2 (strings_HasPrefix _ _ _)).mono ?_⟩;rintro e w' ⟨rfl,rfl⟩;rw[show (AQ l.toArray).data.toList=l from rfl,show (AQ #[47]).data.toList=[47]from rfl,G6 Hp]
 gi_wp2_with fail
 refine⟨trivial,(callsIn_wide.2 (yS _ _)).mono ?_⟩;rintro e w' ⟨rfl,rfl⟩
 gi_wp2_with fail
 generalize hW0:(w.alloc (FU #[.bool false] 4)).alloc (FU #[S0 l] 9)=W0;obtain⟨hsz,k0,k1,kb⟩:=AT5 _ _ _ _ _ W0 hW0;clear hW0;refine VD (α:=List UInt8) (encs:=fun x=>#[S0 x]) rfl (by omega) (gf:=209) (lb:=#[.pointer (G5 ⟨w.heap.size+1,0,FZ⟩)]) rfl trivial (enters_of func209 (by kernel_rfl) rfl)
  (St:=Below (W0.heap.size+1+1)) (Kp:=YO (W0.heap.size+1+1)) (xs:=YA l)
  (fun o1 o2=>by
   have h:=yR 5 (w.heap.size+1) l ((W0.alloc o1).alloc o2) (by omega) (by omega) ((k1.alloc o1).alloc o2);rw[FQ,FQ]at h;exact h)
  (fun A B k hs hk _=>hs.block k (by omega))
  (fun A B C h k=>h.trans k) (fun A o=>YO.putObj A o (by omega)) (fun _=>rfl)
  (fun pre A=>B0 w A/\Boxed A w.heap.size 4 (.bool false)/\pre.all JA=true)
  (fun c pre A=>c=.ret/\B0 w A/\Boxed A w.heap.size 4 (.bool false)/\pre.all JA=false)
  (fun pre A B hs hg=>⟨hs.1.trans (hg.mono (by omega)),Boxed.of_heap hs.2.1 (hg.block _ (by omega)),hs.2.2⟩)
  (fun c pre A B hs hg=>⟨hs.1,hs.2.1.trans (hg.mono (by omega)),Boxed.of_heap hs.2.2.1 (hg.block _ (by omega)),hs.2.2.2⟩)
  (fun pre A o hs=>⟨hs.1.trans (MO A o (by omega)),QH o hs.2.1 (by omega),hs.2.2⟩)
  (fun c pre A o hs=>⟨hs.1,hs.2.1.trans (MO A o (by omega)),QH o hs.2.2.1 (by omega),hs.2.2.2⟩)
  (fun o1 o2=>⟨(kb.alloc (by omega) o1).alloc (by simp;omega) o2,(k0.alloc o1).alloc o2,rfl⟩)
  (fun x=>{tmps:=#[S0 l,undef,.pointer (G5 ⟨w.heap.size,0,FZ⟩),S0 x,S0 l,I0 l.length,.bool (decide (200<(l.length:Int))),.bool (decide (200<(l.length:Int))),S0 l,.bool true,.bool false,
   .bool (decide (200<(l.length:Int))),S0 l,.func (.func 209) #[] #[.pointer (G5 ⟨w.heap.size+1,0,FZ⟩)],S0 x,undef,undef,undef],defers:=[]})
  ?assign ?body ?done ?stop
 case assign=>
  intro x A K hK
  gi_wp2
  exact hK
 case body=>
  rintro pre x A ⟨hB,hbx,hall⟩ hpre hlt;have cx:=hbx.cell;have fx:=hbx.frozen;have hxl:x.length<=200:=by
   have:=oW l x (hpre.subset (by simp));omega
  have hxs:(AQ x.toArray).size<=maxLen:=by
   unfold maxLen;rw[DL];show x.length<=_;omega
  have yQ:=G7 hall;clear hall
  gi_wp2_with fail
  refine⟨trivial,(CallsIn.inRound _ (callsIn_wide.2 (TT _ _ hxs))).mono ?_⟩;rintro e w' ⟨rfl,rfl⟩;rw[show (AQ x.toArray).data.toList=x from rfl]
  cases hx:JA x
  .gi_wp2
   refine⟨BF _ _ _ _ (by show W0.heap.size≠w.heap.size;omega),BF _ _ _ _ (by show W0.heap.size+1≠w.heap.size;omega),YO.setCell _ _ (by show w.heap.size<_;omega),rfl,hB.setCell (p:=⟨w.heap.size,0,FZ⟩) (A8 _) _,hbx.set _,?_⟩;rw[List.all_append,G6 yQ];simp[hx]
  .gi_wp2
   refine⟨rfl,rfl,YO.refl _ _,hB,hbx,?_⟩;rw[List.all_append,G6 yQ];simp[hx]
 case done=>
  rintro A ⟨hB,hbx,hall⟩ hK;have cx:=hbx.cell;have fx:=hbx.frozen;have yQ:=G7 hall;clear hall
  gi_wp2
  have hK':(A.setCell ⟨w.heap.size,0,FZ⟩ (.bool true)).heap[W0.heap.size]?=G5 (.deferred (G5 [])):=(BF _ _ _ _ (by show W0.heap.size≠w.heap.size;omega)).trans hK;have hc:=(QH (l:=W0.heap.size) (.deferred FZ) (hbx.set (.bool true)) (by omega)).cell;refine⟨by simp,.inl ⟨_,_,rfl,run_takeDeferred hK',?_⟩⟩;refine⟨.bool true,?_,by rw[G6 yQ],(hB.setCell (p:=⟨w.heap.size,0,FZ⟩) (A8 _) _).trans (MO _ _ (by omega))⟩;simp[results,f133,go_sem,hc]
 case stop=>
  rintro c pre A hpre ⟨rfl,hB,hbx,hall⟩ hK;have yQ:=G7 (YP hpre hall);clear hall
  gi_wp2
  have hc:=(QH (l:=W0.heap.size) (.deferred FZ) hbx (by omega)).cell;refine⟨by simp,.inl ⟨_,_,rfl,run_takeDeferred hK,?_⟩⟩;refine⟨.bool false,?_,by rw[G6 yQ],hB.trans (MO _ _ (by omega))⟩;simp[results,f133,go_sem,hc]
theorem AT8(l:List UInt8)(w:FV)(h0:200<l.length):
  FX prog 133 #[S0 l] w (R0 w (.bool false)):=by
 have hz:(AQ l.toArray).size=l.length:=DL ⟨l.toArray⟩;go_enter func133,ntmps133;go_wp2_with fail;exact bodyPost_ret (v:=.bool false) (by simp[results,f133,go_sem]) rfl ⟨rfl,(AA _ _).alloc (A8 _) _⟩
theorem AG1(l:List UInt8)(w:FV)(h0:l.length<=200)(hp:Lib.hasPrefix l [47]=false):
  FX prog 133 #[S0 l] w (R0 w (.bool false)):=by
 have hz:(AQ l.toArray).size=l.length:=DL ⟨l.toArray⟩;have Hp:=G7 hp;clear hp;go_enter func133,ntmps133;go_wp2_with fail;refine(strings_HasPrefix _ _ _).mono ?_;rintro e w' ⟨rfl,rfl⟩;rw[show (AQ l.toArray).data.toList=l from rfl,show (AQ #[47]).data.toList=[47]from rfl,G6 Hp];go_wp2_with fail;exact bodyPost_ret (v:=.bool false) (by simp[results,f133,go_sem]) rfl ⟨rfl,(AA _ _).alloc (A8 _) _⟩
theorem LX(s:ByteArray)(w:FV):FX prog 133 #[.string s] w (R0 w (.bool (J4 s.data.toList))):=by
 obtain⟨l,rfl⟩:=BZ6 s;show FX _ _ _ _ fun e w'=>e=.returned (.bool (J4 l))/\_;by_cases h0:200<l.length
 .rw[AG0 h0];exact AT8 l w h0
 .cases hp:Lib.hasPrefix l [47]
  .rw[yT hp];exact AG1 l w (by omega) hp
  .rw[AT6 (by omega) hp];exact AT7 l w (by omega) hp
theorem AT9(h:a=b):DW (.string a)=.returned (.string b):=by rw[h]
theorem OX(l m:List UInt8):(AQ l.toArray)++(AQ m.toArray)=⟨(l++m).toArray⟩:=by
 have h:((AQ l.toArray)++(AQ m.toArray)).data.toList=l++m:=by simp[ByteArray.data_append]
 exact congrArg (fun l:List UInt8=>AQ l.toArray) h
theorem MP(h:J4 l=true):l.length<=200:=by
 simp only[J4,Bool.and_eq_true,decide_eq_true_eq]at h;exact h.1.1
theorem AU0(h:JA l=true):1<=l.length/\l.length<=40:=by
 simp only[JA,Bool.and_eq_true,decide_eq_true_eq]at h;exact⟨h.1.1,h.1.2⟩
theorem fQ(h:a=b)(h':i=j):DW (.tuple #[.string a,I0 i])=.returned (.tuple #[.string b,I0 j]):=by rw[h,h']
theorem TK(h:m.length<=140737488355328):(AQ m.toArray).size<=maxLen:=by
 unfold maxLen;rw[DL];show m.length<=_;omega
theorem RU{a b c:FV}(h:B0 a b)(k:B0 b c):B0 a c:=h.trans (k.mono h.size)
theorem mD:∀l:List UInt8,47∈l->∃a b,l=a++47::b/\47∉b
 |[],h=>by simp at h
 |c::l,h=>by
  by_cases hl:47∈l
  .obtain⟨a,b,e,hb⟩:=mD l hl;exact⟨c::a,b,by rw[e];rfl,hb⟩
  .have hc:c=47:=by
    rcases List.mem_cons.1 h with e|e
    .exact e.symm
    .exact absurd e hl
   exact⟨[],l,by rw[hc];rfl,hl⟩
theorem bY:J4 [47]=true:=by decide+kernel
theorem VY(s:ByteArray)(w:FV)(hs:s.size<=281474976710656):
  FX prog 65 #[.string s] w (R0 w (.string s)):=by
 go_enter func65,ntmps65;go_wp2_with fail;refine(stringslite_Clone s _ hs).mono ?_;rintro e w1 ⟨rfl,hb1⟩;go_wp2_with fail;go_ret;exact⟨rfl,hb1⟩
def ten(n:Nat):List UInt8:=(List.range 10).map fun t=>Lib.dg n (9-t)
theorem YE(n:Nat)(h:n<=2147483647):Lib.nDigits n<=10:=by
 have aux:∀k u,u<10^(k+1)->Lib.nDigits u<=k+1:=by
  intro k
  induction k with
  |zero=>intro u hu;rw[Lib.nDigits_small (by simpa using hu)];omega
  |succ k ih=>
   intro u hu;by_cases h:u<10
   .rw[Lib.nDigits_small h];omega
   .rw[Lib.nDigits_big h];have:=ih (u/10) (by rw[Nat.pow_succ]at hu;omega);omega
 exact aux 9 n (by omega)
theorem BZ9(u p:Nat)(h:u<10^p):Lib.dg u p=48:=by
 unfold Lib.dg;rw[Nat.div_eq_of_lt h];rfl
theorem CG2(n:Nat)(h:n<=2147483647):Lib.repeatL [48] (10-(EK n).length)++EK n=ten n:=by
 have hd:=YE n h;have hp:=Lib.nDigits_pos n;have hr:∀c,Lib.repeatL [48] c=List.replicate c 48:=fun c=>by
  have:=Lib.repeatL_replicate 48 1 c;simpa using this
 rw[Lib.decDigits_length,hr,Lib.decDigits_eq]
 apply List.ext_getElem
 .simp[ten];omega
 .intro i h1 h2;have hi:i<10:=by simpa [ten]using h2
  by_cases hc:i<10-Lib.nDigits n
  .rw[List.getElem_append_left (by simpa using hc)];simp only[List.getElem_replicate,ten,List.getElem_map,List.getElem_range];exact(BZ9 n (9-i) (AX (Lib.lt_pow_nDigits n) (Nat.pow_le_pow_right (by decide) (by omega)))).symm
  .rw[List.getElem_append_right (by simp;omega)];simp only[List.length_replicate,ten,List.getElem_map,List.getElem_range]
   congr 1
   omega
theorem AG8(w:FV)(k:Nat)(os:Array Obj):B0 w (Sort.grow (w.drewN k) os):=
 ⟨rfl,rfl,rfl,by simp[Sort.grow,World.drewN],fun i hi=>by simp[Sort.grow,World.drewN,Array.getElem?_append_left hi]⟩
theorem fU(h:a=b)(h':i=j):DW (.tuple #[.string a,I0 i])=.returned (.tuple #[.string b,I0 j]):=by rw[h,h']
theorem CS6(h:a.data.toList=l):a=⟨l.toArray⟩:=by
 rw[<-h]
def AG9(l:List UInt8):ByteArray:=if JA l then⟨l.toArray⟩else⟨#[]⟩
def tX(l:List UInt8):Int:=if JA l then 0 else 2
theorem tY(h:JA l=true):AG9 l=⟨l.toArray⟩:=by rw[AG9,if_pos h]
theorem tZ(h:JA l=true):tX l=0:=by rw[tX,if_pos h]
theorem A75(h:JA l=false):AG9 l=⟨#[]⟩:=by rw[AG9,if_neg (by simp[h])]
theorem A76(h:JA l=false):tX l=2:=by rw[tX,if_neg (by simp[h])]
theorem BF5(name:ByteArray)(R D:List UInt8):(name++⟨R.toArray⟩++⟨D.toArray⟩:ByteArray).data.toList=name.data.toList++(R++D):=by
 simp[ByteArray.data_append]
theorem BF6(name:ByteArray)(R D:List UInt8):(name++⟨R.toArray⟩++⟨D.toArray⟩:ByteArray).size=name.size+R.length+D.length:=by
 rw[ByteArray.size_append,ByteArray.size_append];rfl
theorem AH0(name:ByteArray)(n:Int)(w:FV)(hn:n<0\/2147483647<n):
  FX prog 221 #[.string name,I0 n] w fun e w'=>e=.returned (.tuple #[.string ⟨#[]⟩,I0 3])/\w'=w:=by
 rcases hn with h|h
 .go_enter func221,ntmps221;go_wp2_with fail
  go_ret2
  exact⟨rfl,rfl⟩
 .have h':¬n<0:=by omega
  go_enter func221,ntmps221;go_wp2_with fail
  go_ret2
  exact⟨rfl,rfl⟩
theorem AV2(name:ByteArray)(n:Nat)(w:FV)(hn:n<=2147483647)(hs:name.size<=140737488355328)
  (htab:Lib.TabIs prog w "internal/strconv.uint64pow10" .u64 Lib.pow10Tab):
  FX prog 221 #[.string name,I0 n] w fun e w'=>
   e=.returned (.tuple #[.string (AG9 (name.data.toList++ten n)),I0 (tX (name.data.toList++ten n))])/\B0 w w':=by
 have hd:=YE n hn;have hp:=Lib.nDigits_pos n;have Hten:=G7 (CG2 n hn);have Hit:=G7 (Lib.itoa_nonneg n);have Hlen:=G7 (Lib.decDigits_length n);go_enter func221,ntmps221;go_wp2_with fail;refine(strconv_Itoa _ (by omega) (by omega) _ htab).mono ?_;rintro e w1 ⟨rfl,k,os,hw1⟩;have hb1:B0 w w1:=by rw[hw1];exact AG8 w k os
 clear hw1;rw[G6 Hit];generalize hD:EK n=D;have hDl:D.length=Lib.nDigits n:=by rw[<-hD];exact G6 Hlen
 have HD:=G7 hD;clear hD;have hD1:1<=D.length:=by omega
 have hD10:D.length<=10:=by omega
 clear hDl hd hp;go_wp2_with fail;rw[show (10-(D.length:Int))=((10-D.length:Nat):Int)from by omega];refine(strings_Repeat _ _ _ (by omega) (by show 1*_<=_;omega)).mono ?_;rintro e w2 ⟨rfl,hb2⟩;generalize hR:Lib.repeatL (AQ #[48]).data.toList (10-D.length)=R;have hR':Lib.repeatL [48] (10-D.length)=R:=hR;have hRl:R.length<=10:=by rw[<-hR',Lib.repeatL_length];simp
 have HR:Hid (R++D=ten n):=by
  have h1:=G6 Hten;have h2:=G6 HD;rw[h2,hR']at h1;exact h1
 clear hR hR' Hten HD Hit Hlen;go_wp2_with fail;generalize hX:(name++⟨R.toArray⟩++⟨D.toArray⟩:ByteArray)=X;have HX:Hid (X.data.toList=name.data.toList++ten n):=by
  rw[<-G6 HR,<-hX];exact BF5 name R D
 have hXs:X.size<=maxLen:=by
  unfold maxLen;rw[<-hX,BF6];omega
 clear hX HR;refine(TT X _ hXs).mono ?_;rintro e w3 ⟨rfl,rfl⟩
 cases hnm:JA X.data.toList
 .go_wp2_with fail
  go_ret2
  rw[G6 HX]at hnm;exact⟨fU (A75 hnm).symm (A76 hnm).symm,hb1.trans (hb2.mono hb1.size)⟩
 .go_wp2_with fail
  go_ret2
  rw[G6 HX]at hnm;exact⟨fU ((CS6 (G6 HX)).trans (tY hnm).symm) (tZ hnm).symm,hb1.trans (hb2.mono hb1.size)⟩
def BV6(l:List UInt8)(n:Int):ByteArray:=if 0<=n/\n<=2147483647 then AG9 (l++ten n.toNat)else⟨#[]⟩
def mQ(l:List UInt8)(n:Int):Int:=if 0<=n/\n<=2147483647 then tX (l++ten n.toNat)else 3
theorem AH1(name:ByteArray)(n:Int)(w:FV)(hs:name.size<=140737488355328)(htab:Lib.TabIs prog w "internal/strconv.uint64pow10" .u64 Lib.pow10Tab):
  FX prog 221 #[.string name,I0 n] w fun e w'=>
   e=.returned (.tuple #[.string (BV6 name.data.toList n),I0 (mQ name.data.toList n)])/\B0 w w':=by
 by_cases h:0<=n/\n<=2147483647
 .obtain⟨k,rfl⟩:=Int.eq_ofNat_of_zero_le h.1;refine(AV2 name k w (by omega) hs htab).mono ?_;rintro e w' ⟨rfl,hb⟩;exact⟨fU (by rw[BV6,if_pos h,Int.toNat_natCast]) (by rw[mQ,if_pos h,Int.toNat_natCast]),hb⟩
 .refine(AH0 name n w (by omega)).mono ?_;rintro e w' ⟨rfl,rfl⟩;exact⟨fU (by rw[BV6,if_neg h]) (by rw[mQ,if_neg h]),AA _ _⟩
theorem C01{n:Int}(h:mQ l n≠0):BV6 l n=⟨#[]⟩:=by
 unfold mQ at h;unfold BV6;by_cases h1:0<=n/\n<=2147483647
 .rw[if_pos h1]at h⊢
  cases h2:JA (l++ten n.toNat)
  .exact A75 h2
  .exact absurd (tZ h2) h
 .rw[if_neg h1]
theorem AV3{n:Int}(h:mQ l n=0):0<=n/\n<=2147483647/\JA (l++ten n.toNat)=true/\BV6 l n=⟨(l++ten n.toNat).toArray⟩:=by
 unfold mQ at h;unfold BV6;by_cases h1:0<=n/\n<=2147483647
 .rw[if_pos h1]at h⊢
  cases h2:JA (l++ten n.toNat)
  .rw[A76 h2]at h;exact absurd h (by decide)
  .exact⟨h1.1,h1.2,rfl,tY h2⟩
 .rw[if_neg h1]at h;exact absurd h (by decide)
theorem gPow:prog.globalNamed "internal/strconv.uint64pow10" =G5 1:=by kernel_rfl
theorem CG3(htab:Lib.TabIs prog w "internal/strconv.uint64pow10" .u64 Lib.pow10Tab):1<w.heap.size:=by
 have hc:=htab.cell gPow 0 (by decide);unfold World.cell? at hc
 cases ho:w.heap[1]? with
 |none=>simp[ho]at hc
 |some o=>exact(AB.1 ho).1
theorem A77{w':FV}(htab:Lib.TabIs prog w "internal/strconv.uint64pow10" .u64 Lib.pow10Tab)(hb:B0 w w'):Lib.TabIs prog w' "internal/strconv.uint64pow10" .u64 Lib.pow10Tab:=
 var?_below hb gPow (CG3 htab) htab
def ZU(l:List UInt8):List UInt8:=if l=[47]then [47]else l++[47]
theorem AH2:ZU [47]=[47]:=by rw[ZU,if_pos rfl]
theorem yZ(h:l≠[47]):ZU l=l++[47]:=by rw[ZU,if_neg h]
theorem uD(l:List UInt8):(ZU l).length<=l.length+1:=by
 unfold ZU
 split
 .simp
 .simp
theorem iT(l:List UInt8)(w:FV)(hl:l.length<=140737488355328):
  FX prog 247 #[S0 l] w fun e w'=>e=.returned (S0 (ZU l))/\w'=w:=by
 have hz:(AQ l.toArray).size=l.length:=DL ⟨l.toArray⟩;by_cases h:l=[47]
 .subst h;go_enter func247,ntmps247
  go_wp2
  go_ret;exact⟨AT9 (by rw[AH2]),rfl⟩
 .have h1:(l==[47])=false:=by simpa using h
  have Ho:=G7 (yZ h);clear h;go_enter func247,ntmps247
  go_wp2
  go_ret;exact⟨AT9 (by rw[G6 Ho];exact OX l [47]),rfl⟩
def lI(d m:List UInt8):List UInt8:=if J4 d&&JA m then(if(ZU d++m).length<=200 then ZU d++m else [])else []
def bZ(d m:List UInt8):Int:=if J4 d&&JA m then(if(ZU d++m).length<=200 then 0 else 1)else 2
theorem A78(h:(J4 d&&JA m)=false):lI d m=[]/\bZ d m=2:=by
 unfold lI bZ;rw[h];exact⟨rfl,rfl⟩
theorem AV4(h:(J4 d&&JA m)=true)(h1:200<(ZU d++m).length):lI d m=[]/\bZ d m=1:=by
 unfold lI bZ;rw[if_pos h,if_pos h,if_neg (by omega),if_neg (by omega)];exact⟨rfl,rfl⟩
theorem AV5(h:(J4 d&&JA m)=true)(h1:(ZU d++m).length<=200):lI d m=ZU d++m/\bZ d m=0:=by
 unfold lI bZ;rw[if_pos h,if_pos h,if_pos h1,if_pos h1];exact⟨rfl,rfl⟩
theorem BF7(d m:List UInt8)(w:FV)(hm:m.length<=140737488355328):
  FX prog 222 #[S0 d,S0 m] w (R0 w (.tuple #[S0 (lI d m),I0 (bZ d m)])):=by
 cases hd:J4 d
 .obtain⟨h1,h2⟩:=A78 (d:=d) (m:=m) (by rw[hd];rfl);have H1:=G7 h1;have H2:=G7 h2;have Hd:=G7 hd;clear h1 h2 hd;go_enter func222,ntmps222;go_wp2_with fail;refine(LX _ _).mono ?_;rintro e w1 ⟨rfl,hb1⟩;rw[show (AQ d.toArray).data.toList=d from rfl,G6 Hd];go_wp2_with fail
  go_ret2
  exact⟨fQ (by rw[G6 H1]) (G6 H2).symm,hb1⟩
 cases hn:JA m
 .obtain⟨h1,h2⟩:=A78 (d:=d) (m:=m) (by rw[hn,Bool.and_false]);have H1:=G7 h1;have H2:=G7 h2;have Hd:=G7 hd;have Hn:=G7 hn;clear h1 h2 hd hn;go_enter func222,ntmps222;go_wp2_with fail;refine(LX _ _).mono ?_;rintro e w1 ⟨rfl,hb1⟩;rw[show (AQ d.toArray).data.toList=d from rfl,G6 Hd];go_wp2_with fail;refine(TT _ _ (TK hm)).mono ?_;rintro e w2 ⟨rfl,rfl⟩;rw[show (AQ m.toArray).data.toList=m from rfl,G6 Hn];go_wp2_with fail
  go_ret2
  exact⟨fQ (by rw[G6 H1]) (G6 H2).symm,hb1⟩
 have hdl:=MP hd;have hml:=AU0 hn;have hol:=uD d;have hdn:(J4 d&&JA m)=true:=by rw[hd,hn];rfl
 have Hd:=G7 hd;have Hn:=G7 hn;clear hd hn;generalize hO:ZU d=O at hol;have HO:=G7 hO;clear hO;have hz:((AQ O.toArray)++(AQ m.toArray)).size=O.length+m.length:=by rw[OX,DL];show (O++m).length=_;simp
 by_cases hf:O.length+m.length<=200
 .obtain⟨h1,h2⟩:=AV5 hdn (by rw[G6 HO];simpa using hf);have H1:=G7 h1;have H2:=G7 h2;clear h1 h2 hdn;go_enter func222,ntmps222;go_wp2_with fail;refine(LX _ _).mono ?_;rintro e w1 ⟨rfl,hb1⟩;rw[show (AQ d.toArray).data.toList=d from rfl,G6 Hd];go_wp2_with fail;refine(TT _ _ (TK hm)).mono ?_;rintro e w2 ⟨rfl,rfl⟩;rw[show (AQ m.toArray).data.toList=m from rfl,G6 Hn];go_wp2_with fail;refine(iT _ _ (by omega)).mono ?_;rintro e w3 ⟨rfl,rfl⟩;rw[G6 HO];go_wp2_with fail
  go_ret2
  exact⟨fQ (by rw[G6 H1,G6 HO];exact OX O m) (G6 H2).symm,hb1⟩
 .obtain⟨h1,h2⟩:=AV4 hdn (by rw[G6 HO];simp;omega);have H1:=G7 h1;have H2:=G7 h2;clear h1 h2 hdn;go_enter func222,ntmps222;go_wp2_with fail;refine(LX _ _).mono ?_;rintro e w1 ⟨rfl,hb1⟩;rw[show (AQ d.toArray).data.toList=d from rfl,G6 Hd];go_wp2_with fail;refine(TT _ _ (TK hm)).mono ?_;rintro e w2 ⟨rfl,rfl⟩;rw[show (AQ m.toArray).data.toList=m from rfl,G6 Hn];go_wp2_with fail;refine(iT _ _ (by omega)).mono ?_;rintro e w3 ⟨rfl,rfl⟩;rw[G6 HO];go_wp2_with fail
  go_ret2
  exact⟨fQ (by rw[G6 H1]) (G6 H2).symm,hb1⟩
theorem uF(a b:List UInt8)(hb:47∉b):Lib.lastIndexByte ⟨(a++47::b).toArray⟩ 47=a.length:=by
 have hat:∀j,j<(a++47::b).length->((AQ (a++47::b).toArray).data[j]!)=(a++47::b)[j]! :=fun j hj=>by simp
 rcases Lib.lastIndexByte_spec ⟨(a++47::b).toArray⟩ 47 with⟨_,h⟩|⟨i,hi,e,hc,hn⟩
 .exact absurd (by simp) (h a.length (by show a.length<(a++47::b).toArray.size;simp))
 .rw[e];have hi':i<(a++47::b).length:=by
   have:i<(a++47::b).toArray.size:=hi;simpa using this
  have h1:a.length<=i:=by
   apply Nat.le_of_not_lt
   intro hlt;exact hn a.length hlt (by show a.length<(a++47::b).toArray.size;simp) (by simp)
  by_cases h2:i=a.length
  .rw[h2]
  .exfalso
   apply hb
   have hlt:i-a.length-1<b.length:=by simp at hi';omega
   have hb':(a++47::b)[i]! =b[i-a.length-1]! :=by
    rw[List.getElem!_eq_getElem?_getD,List.getElem!_eq_getElem?_getD,List.getElem?_append_right h1];obtain⟨k,hk⟩:∃k,i-a.length=k+1:=⟨i-a.length-1,by omega⟩;rw[hk];simp
   rw[hat i hi',hb']at hc;have hm:b[i-a.length-1]! ∈b:=by
    rw[List.getElem!_eq_getElem?_getD,List.getElem?_eq_getElem hlt];simp
   have:b[i-a.length-1]! =47:=by
    apply UInt8.toNat_inj.1
    show _=47;omega
   rwa[this]at hm
theorem AV6(a b:List UInt8):(AQ (a++47::b).toArray).extract 0 a.length=⟨a.toArray⟩:=by
 rw[sW];simp
theorem BF8(a b:List UInt8):(AQ (a++47::b).toArray).extract (a.length+1) (a.length+b.length+1)=⟨b.toArray⟩:=by
 have:=A68 (a++47::b) (a.length+1);rw[show (a++47::b).length=a.length+b.length+1 from by simp;omega]at this;rw[this];have e:(a++47::b).drop (a.length+1)=b:=by rw[<-List.drop_drop];simp
 rw[e]
def CG4(a:List UInt8):List UInt8:=if a=[]then [47]else a
theorem BF9:CG4 []=[47]:=by rw[CG4,if_pos rfl]
theorem AH3{a:List UInt8}(h:a≠[]):CG4 a=a:=by rw[CG4,if_neg h]
theorem uG{c d:ByteArray}(h:a=b)(h1:c=d)(h':i=j):DW (.tuple #[.string a,.string c,I0 i])=.returned (.tuple #[.string b,.string d,I0 j]):=by rw[h,h1,h']
theorem AH4(a b:List UInt8)(w:FV)(hb:47∉b)(hg:J4 (a++47::b)=true)(hne:a++47::b≠[47]):
  FX prog 196 #[S0 (a++47::b)] w fun e w'=>
   e=.returned (.tuple #[S0 (CG4 a),S0 b,I0 0])/\B0 w w':=by
 have hl:a.length+b.length+1<=200:=by have:=MP hg;simp at this;omega
 have hne1:(a++47::b==[47])=false:=by simpa using hne
 have Hg:=G7 hg;have Hi:=G7 (uF a b hb);clear hg hne hb;have hz:(AQ (a++47::b).toArray).size=a.length+b.length+1:=by rw[DL];show (a++47::b).length=_;simp;omega
 have Hc1:=G7 (AV6 a b);have Hc2:=G7 (BF8 a b);generalize a++47::b=l at*;go_enter func196,ntmps196;go_wp2_with fail;refine(LX _ _).mono ?_;rintro e w1 ⟨rfl,hb1⟩;rw[show (AQ l.toArray).data.toList=l from rfl,G6 Hg];go_wp2_with fail;refine(strings_LastIndexByte _ _ (by omega) _).mono ?_;rintro e w2 ⟨rfl,rfl⟩;rw[G6 Hi];go_wp2_with fail;have cA:∀d os,FX prog 65 #[.string ((AQ l.toArray).extract 0 a.length)] (Sort.grow (redrawn w2 d) os) fun e w''=>e=.returned (S0 a)/\∃p:Regrown,w''=Sort.grow (redrawn w2 p.d) p.os:=
  fun d os=>Calls.regrown_of (by rw[G6 Hc1];exact VY _ _ (by rw[DL];show a.length<=_;omega))
 have cB:∀d os,FX prog 65 #[.string ((AQ l.toArray).extract (a.length+1) (a.length+b.length+1))] (Sort.grow (redrawn w2 d) os) fun e w''=>e=.returned (S0 b)/\∃p:Regrown,w''=Sort.grow (redrawn w2 p.d) p.os:=
  fun d os=>Calls.regrown_of (by rw[G6 Hc2];exact VY _ _ (by rw[DL];show b.length<=_;omega))
 have n1:(a.length:Int)<=a.length+b.length+1:=by omega
 have n2:(a.length:Int)<=a.length+b.length:=by omega
 have n3:IntKind.i64.wrap ((a.length:Int)+1)=(a.length:Int)+1:=by rw[IntKind.wrap_i64];omega
 have n4:(0:Int)<=(a.length:Int)+1:=by omega
 refine wp_region_quiet_below (by kernel_rfl) (by kernel_rfl) ?_
 repeat (quiet_step (first|exact cA _ _|exact cB _ _))
 refine wpQuiet_nil ?_;intro _ hw';obtain⟨⟨dq,osq⟩,hw''⟩:=hw';subst hw'';clear cA cB;have hb2:B0 w (Sort.grow (redrawn w2 dq) osq):=RU hb1 (below_regrown w2 dq osq)
 cases he:a.isEmpty
 .go_wp2
  go_ret3
  exact⟨uG (by rw[AH3 (by rintro rfl;simp at he)]) rfl rfl,hb2⟩
 .obtain rfl:a=[]:=by simpa using he
  go_wp2
  go_ret3
  exact⟨uG (by rw[BF9]) rfl rfl,hb2⟩
theorem AV7(l:List UInt8)(w:FV)(hg:J4 l=false):
  FX prog 196 #[S0 l] w (R0 w (.tuple #[.string ⟨#[]⟩,.string ⟨#[]⟩,I0 2])):=by
 have Hg:=G7 hg;clear hg;go_enter func196,ntmps196;go_wp2_with fail;refine(LX _ _).mono ?_;rintro e w1 ⟨rfl,hb1⟩;rw[show (AQ l.toArray).data.toList=l from rfl,G6 Hg];go_wp2_with fail
 go_ret3
 exact⟨rfl,hb1⟩
theorem AH5(w:FV):
  FX prog 196 #[.string ⟨#[47]⟩] w (R0 w (.tuple #[.string ⟨#[]⟩,.string ⟨#[]⟩,I0 7])):=by
 go_enter func196,ntmps196;go_wp2_with fail;refine(LX _ _).mono ?_;rintro e w1 ⟨rfl,hb1⟩;rw[show (AQ #[47]).data.toList=[47]from rfl,bY];go_wp2_with fail
 go_ret3
 exact⟨rfl,hb1⟩
