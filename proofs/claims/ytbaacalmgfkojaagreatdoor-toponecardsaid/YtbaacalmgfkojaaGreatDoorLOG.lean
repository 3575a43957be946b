/-
  Part.
-/
import Derived.Test.YtbaacalmgfkojaaGreatDoorLOA
set_option maxRecDepth 20000
set_option maxHeartbeats 8000000
namespace Go.Proofs.YtbaacalmgfkojaaGreatDoor
open Go.RowKit Go.Proofs.Tryz
open _root_.Array renaming getElem?_eq_some_iff->AB
open _root_.List renaming length_append->AO,getElem?_eq_some_iff->AU
open Go.World renaming cell?->AV
open _root_.Nat renaming lt_of_lt_of_le->AX,add_assoc->EI
open Go renaming World->FU,Value->FV
open _root_.Option renaming none->FX,some->FZ
variable{b off i B g:Nat}{ts:List GI}{t:GI}{W:FU}
def MR(t:GI):List FV:=[I0 t.z,I0 t.o,I0 t.s,S0 t.p,S0 t.d,I0 t.v,I0 t.w]
def KF:List GI->List FV
 |[]=>[]
 |t::r=>MR t++KF r
theorem ZP:∀ts:List GI,(KF ts).length=ts.length*7
 |[]=>rfl
 |t::r=>by rw[KF,AO,ZP r];simp[MR];omega
theorem QZ:∀a b:List GI,KF (a++b)=KF a++KF b
 |[],_=>rfl
 |t::r,b=>by rw[List.cons_append,KF,KF,QZ r b,List.append_assoc]
theorem yT(a:List GI)(t:GI):KF (a++[t])=KF a++MR t:=by rw[QZ,KF,KF,List.append_nil]
theorem OH:∀ (ts:List GI) (i:Nat) (t:GI),ts[i]?=FZ t->∀c,c<7->(KF ts)[i*7+c]?=(MR t)[c]?
 |[],i,t,h,_,_=>by simp at h
 |x::r,0,t,h,c,hc=>by
  simp at h;subst h;rw[KF,List.getElem?_append_left (by simp[MR];omega)];simp
 |x::r,i+1,t,h,c,hc=>by
  rw[KF,List.getElem?_append_right (by simp[MR];omega),<-OH r i t (by simpa using h) c hc]
  congr 1
  simp[MR];omega
theorem mJ(t:GI):∀u∈MR t,u.oneCell'=true:=by
 intro u hu;simp[MR]at hu;rcases hu with rfl|rfl|rfl|rfl|rfl|rfl|rfl<;>rfl
theorem IB.z{w:FU}(h:IB w b off (KF ts))(hi:ts[i]?=FZ t):w.cell? ⟨b,off+i*7,FX⟩=FZ (I0 t.z):=
 h (i*7) _ (by have:=OH ts i t hi 0 (by omega);simpa [MR]using this)
theorem IB.o{w:FU}(h:IB w b off (KF ts))(hi:ts[i]?=FZ t):w.cell? ⟨b,off+i*7+1,FX⟩=FZ (I0 t.o):=by
 rw[EI];exact h (i*7+1) _ (by have:=OH ts i t hi 1 (by omega);simpa [MR]using this)
theorem IB.s{w:FU}(h:IB w b off (KF ts))(hi:ts[i]?=FZ t):w.cell? ⟨b,off+i*7+2,FX⟩=FZ (I0 t.s):=by
 rw[EI];exact h (i*7+2) _ (by have:=OH ts i t hi 2 (by omega);simpa [MR]using this)
theorem IB.p{w:FU}(h:IB w b off (KF ts))(hi:ts[i]?=FZ t):w.cell? ⟨b,off+i*7+3,FX⟩=FZ (S0 t.p):=by
 rw[EI];exact h (i*7+3) _ (by have:=OH ts i t hi 3 (by omega);simpa [MR]using this)
theorem IB.d{w:FU}(h:IB w b off (KF ts))(hi:ts[i]?=FZ t):w.cell? ⟨b,off+i*7+4,FX⟩=FZ (S0 t.d):=by
 rw[EI];exact h (i*7+4) _ (by have:=OH ts i t hi 4 (by omega);simpa [MR]using this)
theorem IB.v{w:FU}(h:IB w b off (KF ts))(hi:ts[i]?=FZ t):w.cell? ⟨b,off+i*7+5,FX⟩=FZ (I0 t.v):=by
 rw[EI];exact h (i*7+5) _ (by have:=OH ts i t hi 5 (by omega);simpa [MR]using this)
theorem IB.w{w:FU}(h:IB w b off (KF ts))(hi:ts[i]?=FZ t):w.cell? ⟨b,off+i*7+6,FX⟩=FZ (I0 t.w):=by
 rw[EI];exact h (i*7+6) _ (by have:=OH ts i t hi 6 (by omega);simpa [MR]using this)
def NI(w:FU)(v:FV)(ts:List GI):Prop:=
 (∃a cap,v=.slice a 0 cap/\ts=[]/\cap<=maxLen)\/
 ∃b off cap,v=.slice (FZ ⟨b,off,FX⟩) ts.length cap/\ts.length<=cap/\cap<=maxLen/\b<w.heap.size/\ts≠[]/\IB w b off (KF ts)
theorem NI.kept{w w':FU}{v:FV}(h:NI w v ts)(hb:Below B w w')(hB:w.heap.size<=B):NI w' v ts:=by
 rcases h with h|⟨b,off,cap,rfl,h1,h2,h3,h0,h4⟩
 .exact .inl h
 .exact .inr ⟨b,off,cap,rfl,h1,h2,AX h3 hb.size,h0,h4.kept hb (AX h3 hB)⟩
theorem NI.next{w w':FU}{v:FV}(h:NI w v ts)(hb:B0 w w'):NI w' v ts:=h.kept hb (Nat.le_refl _)
theorem NI.drew{w:FU}{v:FV}(h:NI w v ts):NI w.drew v ts:=h.next (Below.refl _ _).drew
theorem NI.nil(w:FU):NI w (N0) []:=.inl ⟨FX,0,rfl,rfl,by decide⟩
theorem MB{w:FU}{v:FV}(hv:NI w v ts):∃a c,v=.slice a ts.length c:=by
 rcases hv with⟨a,cap,rfl,rfl,_⟩|⟨b,off,cap,rfl,_⟩
 .exact⟨_,_,rfl⟩
 .exact⟨_,_,rfl⟩
theorem YO{w:FU}{v:FV}(hv:NI w v ts)(hi:ts[i]?=FZ t):
  ∃b off cap,v=.slice (FZ ⟨b,off,FX⟩) ts.length cap/\b<w.heap.size/\IB w b off (KF ts)/\i<ts.length/\ts.length<=cap/\cap<=maxLen:=by
 have hlt:=(AU.1 hi).1;rcases hv with⟨a,cap,rfl,rfl,_⟩|⟨b,off,cap,rfl,h1,h2,hb,_,hr⟩
 .simp at hi
 .exact⟨b,off,cap,rfl,hb,hr,hlt,h1,h2⟩
def kY(W:FU)(B:Nat)(v:FV)(ts:List GI):Prop:=W.ownsRow B 52 7 v ts.length (KF ts)
theorem kY.nil(W:FU)(B:Nat):kY W B (N0) []:=⟨rfl,.inl ⟨rfl,rfl⟩⟩
theorem kY.log{v:FV}(h:kY W B v ts):NI W v ts:=by
 obtain⟨hl,⟨rfl,h0⟩|⟨g,cap,cur,rfl,hB,hg,hn,hm,hs,ht⟩⟩:=h
 .rw[List.eq_nil_of_length_eq_zero h0];exact NI.nil W
 .by_cases h0:ts=[]
  .subst h0;exact .inl ⟨_,cap,rfl,rfl,hm⟩
  .refine .inr ⟨g,0,cap,rfl,hn,hm,(AB.1 hg).1,h0,fun j v hj=>?_⟩;have hlt:j<(KF ts).length:=(AU.1 hj).1;have:cur[j]?=FZ v:=by
    rw[<-ht,List.getElem?_take_of_lt (by rw[hl]at hlt;exact hlt)]at hj;simpa using hj
   simp[AV,hg,this]
theorem kY.next{V:FU}{v:FV}(h:kY W B v ts)(hb:B0 W V):kY V B v ts:=by
 obtain⟨hl,h|⟨g,cap,cur,e,hB,hg,hr⟩⟩:=h
 .exact⟨hl,.inl h⟩
 .exact⟨hl,.inr ⟨g,cap,cur,e,hB,(hb.block _ (AB.1 hg).1).trans hg,hr⟩⟩
theorem AF6{v:FV}(h:kY W B v ts):∃a c,v=.slice a ts.length c:=MB h.log
theorem AF7{v:FV}(h:kY W B v ts):∀k,v.ownBlock=FZ k->B<=k/\k<W.heap.size:=World.ownsRow.lt h
theorem kY.more{v:FV}(h:W.ownsRow B 52 7 v (ts.length+1) (KF ts++MR t)):kY W B v (ts++[t]):=by
 unfold kY;rw[yT,AO];exact h
def TAt(W:FU)(g:Nat)(t:GI):Prop:=W.heap[g]?=FZ (.cells #[I0 t.z,I0 t.o,I0 t.s,S0 t.p,S0 t.d,I0 t.v,I0 t.w] 52 (0,0))
theorem TAt.new(W:FU)(t:GI):TAt (W.alloc (.cells #[I0 t.z,I0 t.o,I0 t.s,S0 t.p,S0 t.d,I0 t.v,I0 t.w] 52)) W.heap.size t:=heap_alloc_new W _
theorem TAt.next{V:FU}(h:TAt W g t)(hb:B0 W V):TAt V g t:=(hb.block g (by unfold TAt at h;exact(AB.1 h).1)).trans h
theorem TAt.lt(h:TAt W g t):g<W.heap.size:=by unfold TAt at h;exact(AB.1 h).1
theorem TAt.c0(h:TAt W g t):W.cell? ⟨g,0,FX⟩=FZ (I0 t.z):=by unfold TAt at h;simp[AV,h]
theorem TAt.c1(h:TAt W g t):W.cell? ⟨g,1,FX⟩=FZ (I0 t.o):=by unfold TAt at h;simp[AV,h]
theorem TAt.c2(h:TAt W g t):W.cell? ⟨g,2,FX⟩=FZ (I0 t.s):=by unfold TAt at h;simp[AV,h]
theorem TAt.c3(h:TAt W g t):W.cell? ⟨g,3,FX⟩=FZ (S0 t.p):=by unfold TAt at h;simp[AV,h]
theorem TAt.c4(h:TAt W g t):W.cell? ⟨g,4,FX⟩=FZ (S0 t.d):=by unfold TAt at h;simp[AV,h]
theorem TAt.c5(h:TAt W g t):W.cell? ⟨g,5,FX⟩=FZ (I0 t.v):=by unfold TAt at h;simp[AV,h]
theorem TAt.c6(h:TAt W g t):W.cell? ⟨g,6,FX⟩=FZ (I0 t.w):=by unfold TAt at h;simp[AV,h]
theorem TAt.f(h:TAt W g t)(j:Nat):W.frozen? ⟨g,j,FX⟩=false:=by unfold TAt at h;simp[World.frozen?,h]
theorem AU0:(prog.info? 52).map (fun i=>(i.zero,i.size,i.bytes))=FZ (FZ (J7 t0),7,72):=by kernel_rfl
theorem pI:∃i0,prog.info? 52=FZ i0/\i0.zero=FZ (J7 t0)/\i0.size=7/\i0.bytes=72:=by
 obtain⟨i0,h,e⟩:=Option.map_eq_some_iff.1 AU0;simp only[Prod.mk.injEq]at e;exact⟨i0,h,e.1,e.2.1,e.2.2⟩
instance layX:Lay GI:=⟨7,MR,52,fun _=>rfl,fun x u hu=>mJ x u hu⟩
theorem BD8(ts:List GI):G9 ts=KF ts:=by
 induction ts with
 |nil=>rfl
 |cons f r ih=>rw[JQ,ih];rfl
theorem OB{w:FU}{v:FV}:IL w v ts↔NI w v ts:=by unfold IL NI;rw[BD8]
