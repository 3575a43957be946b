/-
  Part.
-/
import Derived.Test.YtnjehbehmkfngaaGreatDoorLOA
set_option maxRecDepth 20000
set_option maxHeartbeats 8000000
namespace Go.Proofs.YtnjehbehmkfngaaGreatDoor
open Go.RowKit Go.Proofs.Tryz
variable{b off i B g:Nat}{ts:List AQ}{t:AQ}{W:World}
def IY(t:AQ):List Value:=[I0 t.z,I0 t.o,I0 t.s,S0 t.p,S0 t.d,I0 t.v,I0 t.w]
def FM:List AQ→List Value
 |[]=>[]
 |t::r=>IY t++FM r
theorem WU:∀ts:List AQ,(FM ts).length=ts.length*7
 |[]=>rfl
 |t::r=>by rw[FM,List.length_append,WU r];simp[IY];omega
theorem ND:∀a b:List AQ,FM (a++b)=FM a++FM b
 |[],_=>rfl
 |t::r,b=>by rw[List.cons_append,FM,FM,ND r b,List.append_assoc]
theorem uO(a:List AQ)(t:AQ):FM (a++[t])=FM a++IY t:=by rw[ND,FM,FM,List.append_nil]
theorem JY:∀ (ts:List AQ) (i:Nat) (t:AQ),ts[i]?=some t→∀c,c<7→(FM ts)[i*7+c]?=(IY t)[c]?
 |[],i,t,h,_,_=>by simp at h
 |x::r,0,t,h,c,hc=>by
  simp at h;subst h;rw[FM,List.getElem?_append_left (by simp[IY];omega)];simp
 |x::r,i+1,t,h,c,hc=>by
  rw[FM,List.getElem?_append_right (by simp[IY];omega),←JY r i t (by simpa using h) c hc]
  congr 1
  simp[IY];omega
theorem iQ(t:AQ):∀u∈IY t,u.oneCell'=true:=by
 intro u hu;simp[IY]at hu;rcases hu with rfl|rfl|rfl|rfl|rfl|rfl|rfl<;>rfl
theorem BM.z{w:World}(h:BM w b off (FM ts))(hi:ts[i]?=some t):w.cell? ⟨b,off+i*7,none⟩=some (I0 t.z):=
 h (i*7) _ (by have:=JY ts i t hi 0 (by omega);simpa [IY]using this)
theorem BM.o{w:World}(h:BM w b off (FM ts))(hi:ts[i]?=some t):w.cell? ⟨b,off+i*7+1,none⟩=some (I0 t.o):=by
 rw[Nat.add_assoc];exact h (i*7+1) _ (by have:=JY ts i t hi 1 (by omega);simpa [IY]using this)
theorem BM.s{w:World}(h:BM w b off (FM ts))(hi:ts[i]?=some t):w.cell? ⟨b,off+i*7+2,none⟩=some (I0 t.s):=by
 rw[Nat.add_assoc];exact h (i*7+2) _ (by have:=JY ts i t hi 2 (by omega);simpa [IY]using this)
theorem BM.p{w:World}(h:BM w b off (FM ts))(hi:ts[i]?=some t):w.cell? ⟨b,off+i*7+3,none⟩=some (S0 t.p):=by
 rw[Nat.add_assoc];exact h (i*7+3) _ (by have:=JY ts i t hi 3 (by omega);simpa [IY]using this)
theorem BM.d{w:World}(h:BM w b off (FM ts))(hi:ts[i]?=some t):w.cell? ⟨b,off+i*7+4,none⟩=some (S0 t.d):=by
 rw[Nat.add_assoc];exact h (i*7+4) _ (by have:=JY ts i t hi 4 (by omega);simpa [IY]using this)
theorem BM.v{w:World}(h:BM w b off (FM ts))(hi:ts[i]?=some t):w.cell? ⟨b,off+i*7+5,none⟩=some (I0 t.v):=by
 rw[Nat.add_assoc];exact h (i*7+5) _ (by have:=JY ts i t hi 5 (by omega);simpa [IY]using this)
theorem BM.w{w:World}(h:BM w b off (FM ts))(hi:ts[i]?=some t):w.cell? ⟨b,off+i*7+6,none⟩=some (I0 t.w):=by
 rw[Nat.add_assoc];exact h (i*7+6) _ (by have:=JY ts i t hi 6 (by omega);simpa [IY]using this)
def JD(w:World)(v:Value)(ts:List AQ):Prop:=
 (∃a cap,v=.slice a 0 cap∧ts=[]∧cap≤maxLen)∨
 ∃b off cap,v=.slice (some ⟨b,off,none⟩) ts.length cap∧ts.length≤cap∧cap≤maxLen∧b<w.heap.size∧ts≠[]∧BM w b off (FM ts)
theorem JD.kept{w w':World}{v:Value}(h:JD w v ts)(hb:Below B w w')(hB:w.heap.size≤B):JD w' v ts:=by
 rcases h with h|⟨b,off,cap,rfl,h1,h2,h3,h0,h4⟩
 ·exact .inl h
 ·exact .inr ⟨b,off,cap,rfl,h1,h2,Nat.lt_of_lt_of_le h3 hb.size,h0,h4.kept hb (Nat.lt_of_lt_of_le h3 hB)⟩
theorem JD.next{w w':World}{v:Value}(h:JD w v ts)(hb:B0 w w'):JD w' v ts:=h.kept hb (Nat.le_refl _)
theorem JD.drew{w:World}{v:Value}(h:JD w v ts):JD w.drew v ts:=h.next (Below.refl _ _).drew
theorem JD.nil(w:World):JD w (N0) []:=.inl ⟨none,0,rfl,rfl,by decide⟩
theorem I5{w:World}{v:Value}(hv:JD w v ts):∃a c,v=.slice a ts.length c:=by
 rcases hv with⟨a,cap,rfl,rfl,_⟩|⟨b,off,cap,rfl,_⟩
 ·exact⟨_,_,rfl⟩
 ·exact⟨_,_,rfl⟩
theorem VJ{w:World}{v:Value}(hv:JD w v ts)(hi:ts[i]?=some t):
  ∃b off cap,v=.slice (some ⟨b,off,none⟩) ts.length cap∧b<w.heap.size∧BM w b off (FM ts)∧i<ts.length∧ts.length≤cap∧cap≤maxLen:=by
 have hlt:=(List.getElem?_eq_some_iff.1 hi).1;rcases hv with⟨a,cap,rfl,rfl,_⟩|⟨b,off,cap,rfl,h1,h2,hb,_,hr⟩
 ·simp at hi
 ·exact⟨b,off,cap,rfl,hb,hr,hlt,h1,h2⟩
def gJ(W:World)(B:Nat)(v:Value)(ts:List AQ):Prop:=W.ownsRow B 39 7 v ts.length (FM ts)
theorem gJ.nil(W:World)(B:Nat):gJ W B (N0) []:=⟨rfl,.inl ⟨rfl,rfl⟩⟩
theorem gJ.log{v:Value}(h:gJ W B v ts):JD W v ts:=by
 obtain⟨hl,⟨rfl,h0⟩|⟨g,cap,cur,rfl,hB,hg,hn,hm,hs,ht⟩⟩:=h
 ·rw[List.eq_nil_of_length_eq_zero h0];exact JD.nil W
 ·by_cases h0:ts=[]
  ·subst h0;exact .inl ⟨_,cap,rfl,rfl,hm⟩
  ·refine .inr ⟨g,0,cap,rfl,hn,hm,(Array.getElem?_eq_some_iff.1 hg).1,h0,fun j v hj=>?_⟩;have hlt:j<(FM ts).length:=(List.getElem?_eq_some_iff.1 hj).1;have:cur[j]?=some v:=by
    rw[←ht,List.getElem?_take_of_lt (by rw[hl]at hlt;exact hlt)]at hj;simpa using hj
   simp[World.cell?,hg,this]
theorem gJ.next{V:World}{v:Value}(h:gJ W B v ts)(hb:B0 W V):gJ V B v ts:=by
 obtain⟨hl,h|⟨g,cap,cur,e,hB,hg,hr⟩⟩:=h
 ·exact⟨hl,.inl h⟩
 ·exact⟨hl,.inr ⟨g,cap,cur,e,hB,(hb.block _ (Array.getElem?_eq_some_iff.1 hg).1).trans hg,hr⟩⟩
theorem A81{v:Value}(h:gJ W B v ts):∃a c,v=.slice a ts.length c:=I5 h.log
theorem A82{v:Value}(h:gJ W B v ts):∀k,v.ownBlock=some k→B≤k∧k<W.heap.size:=World.ownsRow.lt h
theorem gJ.more{v:Value}(h:W.ownsRow B 39 7 v (ts.length+1) (FM ts++IY t)):gJ W B v (ts++[t]):=by
 unfold gJ;rw[uO,List.length_append];exact h
def TAt(W:World)(g:Nat)(t:AQ):Prop:=W.heap[g]?=some (.cells #[I0 t.z,I0 t.o,I0 t.s,S0 t.p,S0 t.d,I0 t.v,I0 t.w] 39 (0,0))
theorem TAt.new(W:World)(t:AQ):TAt (W.alloc (.cells #[I0 t.z,I0 t.o,I0 t.s,S0 t.p,S0 t.d,I0 t.v,I0 t.w] 39)) W.heap.size t:=heap_alloc_new W _
theorem TAt.next{V:World}(h:TAt W g t)(hb:B0 W V):TAt V g t:=(hb.block g (by unfold TAt at h;exact(Array.getElem?_eq_some_iff.1 h).1)).trans h
theorem TAt.lt(h:TAt W g t):g<W.heap.size:=by unfold TAt at h;exact(Array.getElem?_eq_some_iff.1 h).1
theorem TAt.c0(h:TAt W g t):W.cell? ⟨g,0,none⟩=some (I0 t.z):=by unfold TAt at h;simp[World.cell?,h]
theorem TAt.c1(h:TAt W g t):W.cell? ⟨g,1,none⟩=some (I0 t.o):=by unfold TAt at h;simp[World.cell?,h]
theorem TAt.c2(h:TAt W g t):W.cell? ⟨g,2,none⟩=some (I0 t.s):=by unfold TAt at h;simp[World.cell?,h]
theorem TAt.c3(h:TAt W g t):W.cell? ⟨g,3,none⟩=some (S0 t.p):=by unfold TAt at h;simp[World.cell?,h]
theorem TAt.c4(h:TAt W g t):W.cell? ⟨g,4,none⟩=some (S0 t.d):=by unfold TAt at h;simp[World.cell?,h]
theorem TAt.c5(h:TAt W g t):W.cell? ⟨g,5,none⟩=some (I0 t.v):=by unfold TAt at h;simp[World.cell?,h]
theorem TAt.c6(h:TAt W g t):W.cell? ⟨g,6,none⟩=some (I0 t.w):=by unfold TAt at h;simp[World.cell?,h]
theorem TAt.f(h:TAt W g t)(j:Nat):W.frozen? ⟨g,j,none⟩=false:=by unfold TAt at h;simp[World.frozen?,h]
theorem AM5:(prog.info? 39).map (fun i=>(i.zero,i.size,i.bytes))=some (some (DW t0),7,72):=by kernel_rfl
theorem kR:∃i0,prog.info? 39=some i0∧i0.zero=some (DW t0)∧i0.size=7∧i0.bytes=72:=by
 obtain⟨i0,h,e⟩:=Option.map_eq_some_iff.1 AM5;simp only[Prod.mk.injEq]at e;exact⟨i0,h,e.1,e.2.1,e.2.2⟩
instance layX:Lay AQ:=⟨7,IY,39,fun _=>rfl,fun x u hu=>iQ x u hu⟩
theorem B65(ts:List AQ):AO ts=FM ts:=by
 induction ts with
 |nil=>rfl
 |cons f r ih=>rw[EZ,ih];rfl
theorem KQ{w:World}{v:Value}:BZ w v ts↔JD w v ts:=by unfold BZ JD;rw[B65]
end Go.Proofs.YtnjehbehmkfngaaGreatDoor
