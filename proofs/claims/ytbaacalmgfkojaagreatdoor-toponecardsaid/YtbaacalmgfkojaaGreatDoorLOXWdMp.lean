/-
  Part.
-/
import Derived.Test.YtbaacalmgfkojaaGreatDoorLOA
import Derived.Maps.Own
set_option maxRecDepth 20000
set_option maxHeartbeats 8000000
namespace Go.Proofs.YtbaacalmgfkojaaGreatDoor
open Go.RowKit
open Go renaming Value->FV
variable{W:World}{b:Nat}{Q:FV->FV->Prop}
open Go.WideMaps Go.ChangeMaps Go.MapKept Go.Maps
def CR9(W:World)(b:Nat)(Q:FV->FV->Prop):Prop:=∃es clock,W.heap[b]?=some (.map es clock)/\∀x∈es.toList,Q x.key x.val
theorem CR9.lt(h:CR9 W b Q):b<W.heap.size:=by
 obtain⟨es,clock,h,_⟩:=h;exact(Array.getElem?_eq_some_iff.1 h).1
theorem CR9.next{V:World}(h:CR9 W b Q)(hb:B0 W V):CR9 V b Q:=by
 obtain⟨es,clock,h,h2⟩:=h;exact⟨es,clock,(hb.block b (Array.getElem?_eq_some_iff.1 h).1).trans h,h2⟩
theorem CR9.more{R:FV->FV->Prop}(h:CR9 W b Q)(hq:∀k v,Q k v->R k v):CR9 W b R:=by
 obtain⟨es,clock,h,h2⟩:=h;exact⟨es,clock,h,fun x hx=>hq _ _ (h2 x hx)⟩
theorem CR9.new(w:World)(Q:FV->FV->Prop):CR9 (w.alloc (.map #[] 0)) w.heap.size Q:=⟨#[],0,heap_alloc_new w _,fun x hx=>by simp at hx⟩
section
variable {P:Program} {T K E:TypeId} {W:World} {b:Nat} {Q:FV->FV->Prop}
theorem CR9.look(h:CR9 W b Q)(law:Go.Maps.Keyed P K)(ht:P.underlying T=some (.map K E)){z:FV}(hz:(zeroValue E).run P W=.ok z W)(hq:∀k v,Q k v->∃l,keyOf P K k=some l){key:FV}{l:Lit}(hk:keyOf P K key=some l):
  (Instr.lookup T (.map (some b)) key true).run P W=.ok (.tuple #[z,.bool false]) W\/∃v,Q key v/\(Instr.lookup T (.map (some b)) key true).run P W=.ok (.tuple #[v,.bool true]) W:=by
 obtain⟨es,clock,h,h2⟩:=h;rcases law.find W hk es.toList (fun x hx=>hq _ _ (h2 x hx))with⟨h1,_⟩|⟨j,e0,h1,h3,h4⟩
 .exact .inl (by simp[Instr.lookup,run_underlying ht,MapKept.run_getObj_map h,law.check W _ hk,h1,hz,Result.andThen])
 .exact .inr ⟨e0.val,by rw[<-h4];exact h2 e0 (List.mem_of_getElem? h3),by simp[Instr.lookup,run_underlying ht,MapKept.run_getObj_map h,law.check W _ hk,h1,Result.andThen]⟩
theorem CR9.put(h:CR9 W b Q)(law:Go.Maps.Keyed P K)(ht:P.underlying T=some (.map K E))(hq:∀k v,Q k v->∃l,keyOf P K k=some l){key vx:FV}{l:Lit}(hk:keyOf P K key=some l)(hv:Q key vx):
  ∃es clock,(Instr.mapUpdate T (.map (some b)) key vx).run P W=.ok () (setBlock W b (.map es clock))/\CR9 (setBlock W b (.map es clock)) b Q:=by
 obtain⟨es,clock,h,h2⟩:=h;rcases law.find W hk es.toList (fun x hx=>hq _ _ (h2 x hx))with⟨h1,_⟩|⟨j,e0,h1,h3,h4⟩
 .refine⟨es.push ⟨key,vx,clock⟩,clock+1,?_,es.push ⟨key,vx,clock⟩,clock+1,heap_setBlock_same h _,fun x hx=>?_⟩
  .simp[Instr.mapUpdate,run_underlying ht,MapKept.run_getObj_map h,law.check W false hk,h1,MapKept.run_setObj_map _ h,Result.andThen,setBlock]
  .simp only[Array.toList_push,List.mem_append,List.mem_singleton]at hx;rcases hx with hx|rfl
   .exact h2 x hx
   .exact hv
 .have hj:es[j]?=some e0:=by simpa using h3
  refine⟨es.modify j (fun e'=>⟨key,vx,e'.born⟩),clock,?_,es.modify j (fun e'=>⟨key,vx,e'.born⟩),clock,heap_setBlock_same h _,fun x hx=>?_⟩
  .simp[Instr.mapUpdate,run_underlying ht,MapKept.run_getObj_map h,law.check W false hk,h1,hj,h4,law.stays W hk,MapKept.run_setObj_map _ h,Result.andThen,setBlock]
  .rw[Array.toList_modify]at hx;obtain⟨i,hi,ex⟩:=List.getElem_of_mem hx;rw[List.getElem_modify]at ex
   split at ex
   .rw[<-ex];exact hv
   .rw[<-ex];exact h2 _ (List.getElem_mem _)
end
