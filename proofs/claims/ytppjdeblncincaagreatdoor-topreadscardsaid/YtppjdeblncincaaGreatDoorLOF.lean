/-
  Part.
-/
import Derived.Test.YtppjdeblncincaaGreatDoorLOA
set_option maxRecDepth 20000
set_option maxHeartbeats 8000000
namespace Go.Proofs.YtppjdeblncincaaGreatDoor
open Go.RowKit Go.Proofs.Tryz
open _root_.Array renaming getElem?_eq_some_iff->AL
open _root_.List renaming length_append->AP,getElem?_eq_some_iff->AV
open Go.World renaming cell?->AX
open _root_.Nat renaming lt_of_lt_of_le->AY,add_assoc->EK
open Go renaming World->FW,Value->FX
open _root_.Option renaming none->G5,some->G6
variable{b off i B g:Nat}{ts:List GN}{t:GN}{W:FW}
def MW(t:GN):List FX:=[I0 t.z,I0 t.o,I0 t.s,S0 t.p,S0 t.d,I0 t.v,I0 t.w]
def JZ:List GN->List FX
 |[]=>[]
 |t::r=>MW t++JZ r
theorem aX:∀ts:List GN,(JZ ts).length=ts.length*7
 |[]=>rfl
 |t::r=>by rw[JZ,AP,aX r];simp[MW];omega
theorem RS:∀a b:List GN,JZ (a++b)=JZ a++JZ b
 |[],_=>rfl
 |t::r,b=>by rw[List.cons_append,JZ,JZ,RS r b,List.append_assoc]
theorem zX(a:List GN)(t:GN):JZ (a++[t])=JZ a++MW t:=by rw[RS,JZ,JZ,List.append_nil]
theorem OO:∀ (ts:List GN) (i:Nat) (t:GN),ts[i]?=G6 t->∀c,c<7->(JZ ts)[i*7+c]?=(MW t)[c]?
 |[],i,t,h,_,_=>by simp at h
 |x::r,0,t,h,c,hc=>by
  simp at h;subst h;rw[JZ,List.getElem?_append_left (by simp[MW];omega)];simp
 |x::r,i+1,t,h,c,hc=>by
  rw[JZ,List.getElem?_append_right (by simp[MW];omega),<-OO r i t (by simpa using h) c hc]
  congr 1
  simp[MW];omega
theorem nZ(t:GN):∀u∈MW t,u.oneCell'=true:=by
 intro u hu;simp[MW]at hu;rcases hu with rfl|rfl|rfl|rfl|rfl|rfl|rfl<;>rfl
theorem IC.z{w:FW}(h:IC w b off (JZ ts))(hi:ts[i]?=G6 t):w.cell? ⟨b,off+i*7,G5⟩=G6 (I0 t.z):=
 h (i*7) _ (by have:=OO ts i t hi 0 (by omega);simpa [MW]using this)
theorem IC.o{w:FW}(h:IC w b off (JZ ts))(hi:ts[i]?=G6 t):w.cell? ⟨b,off+i*7+1,G5⟩=G6 (I0 t.o):=by
 rw[EK];exact h (i*7+1) _ (by have:=OO ts i t hi 1 (by omega);simpa [MW]using this)
theorem IC.s{w:FW}(h:IC w b off (JZ ts))(hi:ts[i]?=G6 t):w.cell? ⟨b,off+i*7+2,G5⟩=G6 (I0 t.s):=by
 rw[EK];exact h (i*7+2) _ (by have:=OO ts i t hi 2 (by omega);simpa [MW]using this)
theorem IC.p{w:FW}(h:IC w b off (JZ ts))(hi:ts[i]?=G6 t):w.cell? ⟨b,off+i*7+3,G5⟩=G6 (S0 t.p):=by
 rw[EK];exact h (i*7+3) _ (by have:=OO ts i t hi 3 (by omega);simpa [MW]using this)
theorem IC.d{w:FW}(h:IC w b off (JZ ts))(hi:ts[i]?=G6 t):w.cell? ⟨b,off+i*7+4,G5⟩=G6 (S0 t.d):=by
 rw[EK];exact h (i*7+4) _ (by have:=OO ts i t hi 4 (by omega);simpa [MW]using this)
theorem IC.v{w:FW}(h:IC w b off (JZ ts))(hi:ts[i]?=G6 t):w.cell? ⟨b,off+i*7+5,G5⟩=G6 (I0 t.v):=by
 rw[EK];exact h (i*7+5) _ (by have:=OO ts i t hi 5 (by omega);simpa [MW]using this)
theorem IC.w{w:FW}(h:IC w b off (JZ ts))(hi:ts[i]?=G6 t):w.cell? ⟨b,off+i*7+6,G5⟩=G6 (I0 t.w):=by
 rw[EK];exact h (i*7+6) _ (by have:=OO ts i t hi 6 (by omega);simpa [MW]using this)
def NC(w:FW)(v:FX)(ts:List GN):Prop:=
 (∃a cap,v=.slice a 0 cap/\ts=[]/\cap<=maxLen)\/
 ∃b off cap,v=.slice (G6 ⟨b,off,G5⟩) ts.length cap/\ts.length<=cap/\cap<=maxLen/\b<w.heap.size/\ts≠[]/\IC w b off (JZ ts)
theorem NC.kept{w w':FW}{v:FX}(h:NC w v ts)(hb:Below B w w')(hB:w.heap.size<=B):NC w' v ts:=by
 rcases h with h|⟨b,off,cap,rfl,h1,h2,h3,h0,h4⟩
 .exact .inl h
 .exact .inr ⟨b,off,cap,rfl,h1,h2,AY h3 hb.size,h0,h4.kept hb (AY h3 hB)⟩
theorem NC.next{w w':FW}{v:FX}(h:NC w v ts)(hb:B0 w w'):NC w' v ts:=h.kept hb (Nat.le_refl _)
theorem NC.drew{w:FW}{v:FX}(h:NC w v ts):NC w.drew v ts:=h.next (Below.refl _ _).drew
theorem NC.nil(w:FW):NC w (N0) []:=.inl ⟨G5,0,rfl,rfl,by decide⟩
theorem MC{w:FW}{v:FX}(hv:NC w v ts):∃a c,v=.slice a ts.length c:=by
 rcases hv with⟨a,cap,rfl,rfl,_⟩|⟨b,off,cap,rfl,_⟩
 .exact⟨_,_,rfl⟩
 .exact⟨_,_,rfl⟩
theorem ZK{w:FW}{v:FX}(hv:NC w v ts)(hi:ts[i]?=G6 t):
  ∃b off cap,v=.slice (G6 ⟨b,off,G5⟩) ts.length cap/\b<w.heap.size/\IC w b off (JZ ts)/\i<ts.length/\ts.length<=cap/\cap<=maxLen:=by
 have hlt:=(AV.1 hi).1;rcases hv with⟨a,cap,rfl,rfl,_⟩|⟨b,off,cap,rfl,h1,h2,hb,_,hr⟩
 .simp at hi
 .exact⟨b,off,cap,rfl,hb,hr,hlt,h1,h2⟩
def mQ(W:FW)(B:Nat)(v:FX)(ts:List GN):Prop:=W.ownsRow B 79 7 v ts.length (JZ ts)
theorem mQ.nil(W:FW)(B:Nat):mQ W B (N0) []:=⟨rfl,.inl ⟨rfl,rfl⟩⟩
theorem mQ.log{v:FX}(h:mQ W B v ts):NC W v ts:=by
 obtain⟨hl,⟨rfl,h0⟩|⟨g,cap,cur,rfl,hB,hg,hn,hm,hs,ht⟩⟩:=h
 .rw[List.eq_nil_of_length_eq_zero h0];exact NC.nil W
 .by_cases h0:ts=[]
  .subst h0;exact .inl ⟨_,cap,rfl,rfl,hm⟩
  .refine .inr ⟨g,0,cap,rfl,hn,hm,(AL.1 hg).1,h0,fun j v hj=>?_⟩;have hlt:j<(JZ ts).length:=(AV.1 hj).1;have:cur[j]?=G6 v:=by
    rw[<-ht,List.getElem?_take_of_lt (by rw[hl]at hlt;exact hlt)]at hj;simpa using hj
   simp[AX,hg,this]
theorem mQ.next{V:FW}{v:FX}(h:mQ W B v ts)(hb:B0 W V):mQ V B v ts:=by
 obtain⟨hl,h|⟨g,cap,cur,e,hB,hg,hr⟩⟩:=h
 .exact⟨hl,.inl h⟩
 .exact⟨hl,.inr ⟨g,cap,cur,e,hB,(hb.block _ (AL.1 hg).1).trans hg,hr⟩⟩
theorem AI8{v:FX}(h:mQ W B v ts):∃a c,v=.slice a ts.length c:=MC h.log
theorem AI9{v:FX}(h:mQ W B v ts):∀k,v.ownBlock=G6 k->B<=k/\k<W.heap.size:=World.ownsRow.lt h
theorem mQ.more{v:FX}(h:W.ownsRow B 79 7 v (ts.length+1) (JZ ts++MW t)):mQ W B v (ts++[t]):=by
 unfold mQ;rw[zX,AP];exact h
def TAt(W:FW)(g:Nat)(t:GN):Prop:=W.heap[g]?=G6 (.cells #[I0 t.z,I0 t.o,I0 t.s,S0 t.p,S0 t.d,I0 t.v,I0 t.w] 79 (0,0))
theorem TAt.new(W:FW)(t:GN):TAt (W.alloc (.cells #[I0 t.z,I0 t.o,I0 t.s,S0 t.p,S0 t.d,I0 t.v,I0 t.w] 79)) W.heap.size t:=heap_alloc_new W _
theorem TAt.next{V:FW}(h:TAt W g t)(hb:B0 W V):TAt V g t:=(hb.block g (by unfold TAt at h;exact(AL.1 h).1)).trans h
theorem TAt.lt(h:TAt W g t):g<W.heap.size:=by unfold TAt at h;exact(AL.1 h).1
theorem TAt.c0(h:TAt W g t):W.cell? ⟨g,0,G5⟩=G6 (I0 t.z):=by unfold TAt at h;simp[AX,h]
theorem TAt.c1(h:TAt W g t):W.cell? ⟨g,1,G5⟩=G6 (I0 t.o):=by unfold TAt at h;simp[AX,h]
theorem TAt.c2(h:TAt W g t):W.cell? ⟨g,2,G5⟩=G6 (I0 t.s):=by unfold TAt at h;simp[AX,h]
theorem TAt.c3(h:TAt W g t):W.cell? ⟨g,3,G5⟩=G6 (S0 t.p):=by unfold TAt at h;simp[AX,h]
theorem TAt.c4(h:TAt W g t):W.cell? ⟨g,4,G5⟩=G6 (S0 t.d):=by unfold TAt at h;simp[AX,h]
theorem TAt.c5(h:TAt W g t):W.cell? ⟨g,5,G5⟩=G6 (I0 t.v):=by unfold TAt at h;simp[AX,h]
theorem TAt.c6(h:TAt W g t):W.cell? ⟨g,6,G5⟩=G6 (I0 t.w):=by unfold TAt at h;simp[AX,h]
theorem TAt.f(h:TAt W g t)(j:Nat):W.frozen? ⟨g,j,G5⟩=false:=by unfold TAt at h;simp[World.frozen?,h]
theorem AY1:(prog.info? 79).map (fun i=>(i.zero,i.size,i.bytes))=G6 (G6 (J9 t0),7,72):=by kernel_rfl
theorem qO:∃i0,prog.info? 79=G6 i0/\i0.zero=G6 (J9 t0)/\i0.size=7/\i0.bytes=72:=by
 obtain⟨i0,h,e⟩:=Option.map_eq_some_iff.1 AY1;simp only[Prod.mk.injEq]at e;exact⟨i0,h,e.1,e.2.1,e.2.2⟩
instance layX:Lay GN:=⟨7,MW,79,fun _=>rfl,fun x u hu=>nZ x u hu⟩
theorem BJ3(ts:List GN):GI ts=JZ ts:=by
 induction ts with
 |nil=>rfl
 |cons f r ih=>rw[JU,ih];rfl
theorem NY{w:FW}{v:FX}:IL w v ts↔NC w v ts:=by unfold IL NC;rw[BJ3]
