/-
  Proved: for every input the law TopMemory returns true and leaves its arguments as they were (the card: what the listed tables hold is tied to the program's text).
-/
import Derived.Test.YtefephchbjfdfaaGreatDoorCards
import Derived.Test.YtefephchbjfdfaaGreatDoorTie
import Derived.Test.YtefephchbjfdfaaGreatDoorLMAJ
import Derived.Deep.DeepHandedRow
import Derived.Test.YtefephchbjfdfaaGreatDoorLMAK
set_option maxRecDepth 20000
set_option maxHeartbeats 8000000
namespace Go.Proofs.YtefephchbjfdfaaGreatDoor
open Go.RowKit
open Go.ChangeShapes Go.WideShapes Go.ChangeAt Go.ChangeMaps
namespace YB
theorem own:ownKnob Tryz.prog.godebug=none:=by kernel_rfl
theorem list_of(s:ByteArray):∃l:List UInt8,s=⟨l.toArray⟩:=⟨s.data.toList,rfl⟩
theorem gTabType:(Tryz.prog.globals[1]?).map (·.type)=some 333:=by kernel_rfl
theorem cellsTab:Tryz.prog.cellsOf 333=20:=by kernel_rfl
theorem cellsU64:Tryz.prog.cellsOf 298=1:=by kernel_rfl
theorem tail{P:Program}{x:String×DataW Unit}{r:List (String×DataW Unit)}{w:World}(h:laidMet P (x::r) w):laidMet P r w:=by
 obtain⟨ps,⟨g,t,cs,fuel,p,q,hg,ht,hvar,hd,hrest,rfl⟩,hnd,hok⟩:=h;exact⟨q,hrest,(List.nodup_append.1 hnd).2.1,fun b off hm=>hok b off (List.mem_append.2 (.inr hm))⟩
theorem table{W:World}(h:laidMetH Tryz.prog Rows.topMemoryRow.laid W):Lib.TabIs Tryz.prog W "internal/strconv.uint64pow10" .u64 Lib.pow10Tab:=
 Lib.tabIs_of_head AO1 gTabType Tryz.underlying333 Tryz.underlying298 cellsU64 cellsTab (tail (tail h))
theorem contract(H:Type)(enc:TypeId×Value->H)(W:World)(base:Nat)(args:Array Value)(ds gs:List (DataW H))(before:List MemPlace)
  (hval:∀ (j:Nat) t v,Tryz.f3.params[j]?=some t->args[j]?=some v->Value.okWide Tryz.prog W .any base t v)
  (hW:DataW.Whole enc Tryz.prog Tryz.f3.params.toList Rows.topMemorySpec.vars false W args.toList ds gs before)
  (hsz:(DataW.weightsEach Tryz.prog (Tryz.f3.params.toList++Rows.topMemorySpec.plain.varTypes Tryz.prog) (ds++gs)).all (· <=reachBytes)=true)
  (hL:laidMetH Tryz.prog Rows.topMemoryRow.laid W) (_hsh:W.ShapedOpen Tryz.prog):
  Calls Tryz.prog 3 args W fun e W'=>∃v,e=.returned v/\Rows.topMemorySpec.post enc Tryz.prog Tryz.f3 false true false false W args v W':=by
 have hW':=hW;obtain⟨p,q,hA0,hV,rfl,hfz,hnd⟩:=hW;have hA:DataW.TrodAll enc Tryz.prog W 0 (fun _=>true) true Tryz.f3.params.toList args.toList ds p:=hA0;rw[Tryz.params3]at hA hval hsz;obtain⟨v0,vs0,d0,ds0,p0,q0,hargs,rfl,rfl,g0,r0⟩:=trodAll_cons hA;obtain⟨rfl,rfl,rfl⟩:=trodAll_nil r0;obtain rfl:args=#[v0]:=by cases args;simp_all
 obtain⟨rfl,rfl⟩:=trodVars_none hV;have gk0:=g0;obtain⟨ds_0,hv0,hi0,hM0⟩:=AS0 (hval 0 22 v0 rfl rfl) g0;clear hA0;simp only[List.append_nil]at hW';have hm0:=hM0 140737488351232 (CR4 hsz (j:=0) rfl rfl);have hlt0:∀y∈p0,y.block<W.heap.size:=fun y hy=>by simpa using hW'.lt y (by simp[hy])
 refine(mY ds_0 _ W hv0 (fun d hd=>⟨Nat.le_trans (hm0.2 d hd).1 (by decide),Nat.le_trans (hm0.2 d hd).2 (by decide)⟩) (fun d hd=>bounds_i64 (hi0 d hd).c) (table hL)).mono fun e W' ⟨he,hb⟩=>?_;subst he;exact⟨_,rfl,_,_,_,[],_,[],hW',trodAll_cons_mk (shut_bool Tryz.underlying4 _) trodAll_mk0,
  trodAll_cons_mk (Below.trod BV4 (by kernel_rfl) (of_decide_eq_true (by kernel_rfl)) gk0 hb hlt0) trodAll_mk0,rfl,hb.frame _,fun h=>by cases h⟩
def layCells(vs:Array Value):Obj->Obj
 | .cells _ t frozen=>.cells vs t frozen
 |o=>o
def cellsA:DataW Unit->List Value
 | .lit (.int k z)=>[.int k z]
 |_=>[]
def cellsB:DataW Unit->List Value
 | .agg ps=>ps.flatMap cellsA
 |d=>cellsA d
def cellsD:DataW Unit->List Value
 | .agg ps=>ps.flatMap cellsB
 |d=>cellsA d
noncomputable def laidWorld(os:Os):World:=
 {World.holding Tryz.prog os ⟨#[],#[],[]⟩with heap:=((((((World.holding Tryz.prog os ⟨#[],#[],[]⟩).heap.modify 4 (layCells (cellsD Rows.laid_math_bits_deBruijn32tab).toArray)).modify 5 (layCells (cellsD Rows.laid_math_bits_deBruijn64tab).toArray)).modify 1 (layCells (cellsD Rows.laid_internal_strconv_uint64pow10).toArray)).modify 3 (layCells (cellsD Rows.laid_unicode_utf8_acceptRanges).toArray)).modify 2 (layCells (cellsD Rows.laid_unicode_utf8_first).toArray))}
theorem laid_met(os:Os):laidMet Tryz.prog Rows.topMemoryRow.laid ((laidWorld os).forCall (fun _ _=>0) ⟨#[],#[.slice none 0 0],[]⟩).memory:=
 laidMet_of_run' 8 (by kernel_rfl) (by kernel_rfl)
theorem reads(os:Os){H:Type}(enc:TypeId×Value->H):∃places,DataW.whole enc Tryz.prog ((laidWorld os).forCall (fun _ _=>0) ⟨#[],#[.slice none 0 0],[]⟩).memory Tryz.f3.params.toList Rows.topMemorySpec.vars false #[Value.slice none 0 0].toList 8=some ([.nil],[],places):=
 ⟨[],by kernel_rfl⟩
theorem lifted(os:Os)(started:os.Started)(H:Type)(enc:TypeId×Value->H)(F:Stop.Interp):
  ReturnsInHanded {} Tryz.checked os 3 .any ((OpenSpec.ofChange Rows.topMemorySpec).preRow enc Tryz.prog Tryz.f3 Rows.topMemoryRow.domain false Rows.topMemoryRow.laid) (((OpenSpec.ofChange Rows.topMemorySpec).at F).post enc Tryz.prog Tryz.f3 false true false false):=by
 obtain⟨places,hx⟩:=reads os enc;refine returnsInHanded_of_row (C:=Tryz.checked) (s:=OpenSpec.ofChange Rows.topMemorySpec) own started (by kernel_rfl) Tryz.func3
  (witness_row_at (enc:=enc) (C:=Tryz.checked) false (laidWorld os) #[.slice none 0 0] rfl (by kernel_rfl) (by kernel_rfl) (by kernel_rfl)
   (OpenSpec.preRow_of_cond 8 hx (by kernel_rfl) (fun k hk=>by cases hk) (by kernel_rfl) (laid_met os))) ?_
 intro W base args ds gs before hval hW _ hcond hsz hL hsh _;exact contract H enc W base args ds gs before hval hW hsz hL hsh
theorem said:Rows.TopMemorySaid:=
 OpenClaim.holds_of_cond 3 Tryz.f3 rfl rfl rfl rfl rfl rfl rfl ⟨rfl,rfl,rfl,rfl,rfl⟩ rfl rfl rfl rfl rfl (by kernel_rfl) Tryz.func3 (by kernel_rfl)
  (of_decide_eq_true (by kernel_rfl)) (by unfold Func.isWrapper;first|(rw[if_pos (by decide+kernel)];kernel_rfl)|(rw[if_neg (by decide+kernel)];exact⟨rfl,rfl⟩))
  (fun os started H enc _ F=>by rw[OpenClaim.pre_eq_preRow];exact lifted os started H enc F)
theorem plain(f:FuncId)(fn:Func)(hf:Tryz.pinned.checked.prog.funcNamed "aviary/aviarytop.TopMemory" =some f)(hfn:Tryz.pinned.checked.prog.funcs[f]?=some fn):
  false=Tryz.pinned.checked.prog.looks []/\∀ (j:Nat) t,fn.params[j]?=some t->Tryz.pinned.checked.prog.wantsStandIn t=false:=by
 obtain rfl:f=3:=Option.some.inj ((show Tryz.prog.funcNamed "aviary/aviarytop.TopMemory" =some 3 by kernel_rfl).symm.trans hf)|>.symm;obtain rfl:fn=Tryz.f3:=(Option.some.inj (Tryz.func3.symm.trans hfn)).symm;refine⟨by kernel_rfl,fun j t ht=>?_⟩;rw[Tryz.params3]at ht;obtain rfl:t=22:=by simpa using Array.mem_of_getElem? ht
 exact(show Tryz.prog.wantsStandIn 22=false by kernel_rfl)
end YB
theorem topMemory_card:Rows.TopMemoryCardSaid:=
 Claim7.holds_tied_plain_at .later [] _ _ _ _ YB.said (fun _ h=>by cases h) (by kernel_rfl) (fun _ h=>by cases h) topMemory_row_tie rfl ⟨rfl,rfl⟩ (by kernel_rfl) rfl YB.plain (by kernel_rfl)
