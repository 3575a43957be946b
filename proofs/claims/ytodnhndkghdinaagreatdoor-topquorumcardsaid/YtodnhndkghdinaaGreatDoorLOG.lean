/-
  Part.
-/
import Derived.Test.YtodnhndkghdinaaGreatDoorLOA
set_option maxRecDepth 20000
set_option maxHeartbeats 8000000
namespace Go.Proofs.YtodnhndkghdinaaGreatDoor
open Go.RowKit Go.Proofs.Tryz
variable{b off i B g:Nat}{ts:List AQ}{t:AQ}{W:World}
def IY(t:AQ):List Value:=[I0 t.z,I0 t.o,I0 t.s,S0 t.p,S0 t.d,I0 t.v,I0 t.w]
def FD:List AQ→List Value
 |[]=>[]
 |t::r=>IY t++FD r
theorem XD:∀ts:List AQ,(FD ts).length=ts.length*7
 |[]=>rfl
 |t::r=>by rw[FD,List.length_append,XD r];simp[IY];omega
theorem ND:∀a b:List AQ,FD (a++b)=FD a++FD b
 |[],_=>rfl
 |t::r,b=>by rw[List.cons_append,FD,FD,ND r b,List.append_assoc]
theorem vC(a:List AQ)(t:AQ):FD (a++[t])=FD a++IY t:=by rw[ND,FD,FD,List.append_nil]
theorem KC:∀ (ts:List AQ) (i:Nat) (t:AQ),ts[i]?=some t→∀c,c<7→(FD ts)[i*7+c]?=(IY t)[c]?
 |[],i,t,h,_,_=>by simp at h
 |x::r,0,t,h,c,hc=>by
  simp at h;subst h;rw[FD,List.getElem?_append_left (by simp[IY];omega)];simp
 |x::r,i+1,t,h,c,hc=>by
  rw[FD,List.getElem?_append_right (by simp[IY];omega),←KC r i t (by simpa using h) c hc]
  congr 1
  simp[IY];omega
theorem iY(t:AQ):∀u∈IY t,u.oneCell'=true:=by
 intro u hu;simp[IY]at hu;rcases hu with rfl|rfl|rfl|rfl|rfl|rfl|rfl<;>rfl
theorem BM.z{w:World}(h:BM w b off (FD ts))(hi:ts[i]?=some t):w.cell? ⟨b,off+i*7,none⟩=some (I0 t.z):=
 h (i*7) _ (by have:=KC ts i t hi 0 (by omega);simpa [IY]using this)
theorem BM.o{w:World}(h:BM w b off (FD ts))(hi:ts[i]?=some t):w.cell? ⟨b,off+i*7+1,none⟩=some (I0 t.o):=by
 rw[Nat.add_assoc];exact h (i*7+1) _ (by have:=KC ts i t hi 1 (by omega);simpa [IY]using this)
theorem BM.s{w:World}(h:BM w b off (FD ts))(hi:ts[i]?=some t):w.cell? ⟨b,off+i*7+2,none⟩=some (I0 t.s):=by
 rw[Nat.add_assoc];exact h (i*7+2) _ (by have:=KC ts i t hi 2 (by omega);simpa [IY]using this)
theorem BM.p{w:World}(h:BM w b off (FD ts))(hi:ts[i]?=some t):w.cell? ⟨b,off+i*7+3,none⟩=some (S0 t.p):=by
 rw[Nat.add_assoc];exact h (i*7+3) _ (by have:=KC ts i t hi 3 (by omega);simpa [IY]using this)
theorem BM.d{w:World}(h:BM w b off (FD ts))(hi:ts[i]?=some t):w.cell? ⟨b,off+i*7+4,none⟩=some (S0 t.d):=by
 rw[Nat.add_assoc];exact h (i*7+4) _ (by have:=KC ts i t hi 4 (by omega);simpa [IY]using this)
theorem BM.v{w:World}(h:BM w b off (FD ts))(hi:ts[i]?=some t):w.cell? ⟨b,off+i*7+5,none⟩=some (I0 t.v):=by
 rw[Nat.add_assoc];exact h (i*7+5) _ (by have:=KC ts i t hi 5 (by omega);simpa [IY]using this)
theorem BM.w{w:World}(h:BM w b off (FD ts))(hi:ts[i]?=some t):w.cell? ⟨b,off+i*7+6,none⟩=some (I0 t.w):=by
 rw[Nat.add_assoc];exact h (i*7+6) _ (by have:=KC ts i t hi 6 (by omega);simpa [IY]using this)
def J5(w:World)(v:Value)(ts:List AQ):Prop:=
 (∃a cap,v=.slice a 0 cap∧ts=[]∧cap≤maxLen)∨
 ∃b off cap,v=.slice (some ⟨b,off,none⟩) ts.length cap∧ts.length≤cap∧cap≤maxLen∧b<w.heap.size∧ts≠[]∧BM w b off (FD ts)
theorem J5.kept{w w':World}{v:Value}(h:J5 w v ts)(hb:Below B w w')(hB:w.heap.size≤B):J5 w' v ts:=by
 rcases h with h|⟨b,off,cap,rfl,h1,h2,h3,h0,h4⟩
 ·exact .inl h
 ·exact .inr ⟨b,off,cap,rfl,h1,h2,Nat.lt_of_lt_of_le h3 hb.size,h0,h4.kept hb (Nat.lt_of_lt_of_le h3 hB)⟩
theorem J5.next{w w':World}{v:Value}(h:J5 w v ts)(hb:B0 w w'):J5 w' v ts:=h.kept hb (Nat.le_refl _)
theorem J5.drew{w:World}{v:Value}(h:J5 w v ts):J5 w.drew v ts:=h.next (Below.refl _ _).drew
theorem J5.nil(w:World):J5 w (N0) []:=.inl ⟨none,0,rfl,rfl,by decide⟩
theorem I9{w:World}{v:Value}(hv:J5 w v ts):∃a c,v=.slice a ts.length c:=by
 rcases hv with⟨a,cap,rfl,rfl,_⟩|⟨b,off,cap,rfl,_⟩
 ·exact⟨_,_,rfl⟩
 ·exact⟨_,_,rfl⟩
theorem VP{w:World}{v:Value}(hv:J5 w v ts)(hi:ts[i]?=some t):
  ∃b off cap,v=.slice (some ⟨b,off,none⟩) ts.length cap∧b<w.heap.size∧BM w b off (FD ts)∧i<ts.length∧ts.length≤cap∧cap≤maxLen:=by
 have hlt:=(List.getElem?_eq_some_iff.1 hi).1;rcases hv with⟨a,cap,rfl,rfl,_⟩|⟨b,off,cap,rfl,h1,h2,hb,_,hr⟩
 ·simp at hi
 ·exact⟨b,off,cap,rfl,hb,hr,hlt,h1,h2⟩
def gX(W:World)(B:Nat)(v:Value)(ts:List AQ):Prop:=W.ownsRow B 62 7 v ts.length (FD ts)
theorem gX.nil(W:World)(B:Nat):gX W B (N0) []:=⟨rfl,.inl ⟨rfl,rfl⟩⟩
theorem gX.log{v:Value}(h:gX W B v ts):J5 W v ts:=by
 obtain⟨hl,⟨rfl,h0⟩|⟨g,cap,cur,rfl,hB,hg,hn,hm,hs,ht⟩⟩:=h
 ·rw[List.eq_nil_of_length_eq_zero h0];exact J5.nil W
 ·by_cases h0:ts=[]
  ·subst h0;exact .inl ⟨_,cap,rfl,rfl,hm⟩
  ·refine .inr ⟨g,0,cap,rfl,hn,hm,(Array.getElem?_eq_some_iff.1 hg).1,h0,fun j v hj=>?_⟩;have hlt:j<(FD ts).length:=(List.getElem?_eq_some_iff.1 hj).1;have:cur[j]?=some v:=by
    rw[←ht,List.getElem?_take_of_lt (by rw[hl]at hlt;exact hlt)]at hj;simpa using hj
   simp[World.cell?,hg,this]
theorem gX.next{V:World}{v:Value}(h:gX W B v ts)(hb:B0 W V):gX V B v ts:=by
 obtain⟨hl,h|⟨g,cap,cur,e,hB,hg,hr⟩⟩:=h
 ·exact⟨hl,.inl h⟩
 ·exact⟨hl,.inr ⟨g,cap,cur,e,hB,(hb.block _ (Array.getElem?_eq_some_iff.1 hg).1).trans hg,hr⟩⟩
theorem A93{v:Value}(h:gX W B v ts):∃a c,v=.slice a ts.length c:=I9 h.log
theorem A94{v:Value}(h:gX W B v ts):∀k,v.ownBlock=some k→B≤k∧k<W.heap.size:=World.ownsRow.lt h
theorem gX.more{v:Value}(h:W.ownsRow B 62 7 v (ts.length+1) (FD ts++IY t)):gX W B v (ts++[t]):=by
 unfold gX;rw[vC,List.length_append];exact h
def TAt(W:World)(g:Nat)(t:AQ):Prop:=W.heap[g]?=some (.cells #[I0 t.z,I0 t.o,I0 t.s,S0 t.p,S0 t.d,I0 t.v,I0 t.w] 62 (0,0))
theorem TAt.new(W:World)(t:AQ):TAt (W.alloc (.cells #[I0 t.z,I0 t.o,I0 t.s,S0 t.p,S0 t.d,I0 t.v,I0 t.w] 62)) W.heap.size t:=heap_alloc_new W _
theorem TAt.next{V:World}(h:TAt W g t)(hb:B0 W V):TAt V g t:=(hb.block g (by unfold TAt at h;exact(Array.getElem?_eq_some_iff.1 h).1)).trans h
theorem TAt.lt(h:TAt W g t):g<W.heap.size:=by unfold TAt at h;exact(Array.getElem?_eq_some_iff.1 h).1
theorem TAt.c0(h:TAt W g t):W.cell? ⟨g,0,none⟩=some (I0 t.z):=by unfold TAt at h;simp[World.cell?,h]
theorem TAt.c1(h:TAt W g t):W.cell? ⟨g,1,none⟩=some (I0 t.o):=by unfold TAt at h;simp[World.cell?,h]
theorem TAt.c2(h:TAt W g t):W.cell? ⟨g,2,none⟩=some (I0 t.s):=by unfold TAt at h;simp[World.cell?,h]
theorem TAt.c3(h:TAt W g t):W.cell? ⟨g,3,none⟩=some (S0 t.p):=by unfold TAt at h;simp[World.cell?,h]
theorem TAt.c4(h:TAt W g t):W.cell? ⟨g,4,none⟩=some (S0 t.d):=by unfold TAt at h;simp[World.cell?,h]
theorem TAt.c5(h:TAt W g t):W.cell? ⟨g,5,none⟩=some (I0 t.v):=by unfold TAt at h;simp[World.cell?,h]
theorem TAt.c6(h:TAt W g t):W.cell? ⟨g,6,none⟩=some (I0 t.w):=by unfold TAt at h;simp[World.cell?,h]
theorem TAt.f(h:TAt W g t)(j:Nat):W.frozen? ⟨g,j,none⟩=false:=by unfold TAt at h;simp[World.frozen?,h]
theorem AN8:(prog.info? 62).map (fun i=>(i.zero,i.size,i.bytes))=some (some (DX t0),7,72):=by kernel_rfl
theorem kZ:∃i0,prog.info? 62=some i0∧i0.zero=some (DX t0)∧i0.size=7∧i0.bytes=72:=by
 obtain⟨i0,h,e⟩:=Option.map_eq_some_iff.1 AN8;simp only[Prod.mk.injEq]at e;exact⟨i0,h,e.1,e.2.1,e.2.2⟩
instance layX:Lay AQ:=⟨7,IY,62,fun _=>rfl,fun x u hu=>iY x u hu⟩
theorem B80(ts:List AQ):AO ts=FD ts:=by
 induction ts with
 |nil=>rfl
 |cons f r ih=>rw[F7,ih];rfl
theorem JH{w:World}{v:Value}:BZ w v ts↔J5 w v ts:=by unfold BZ J5;rw[B80]
end Go.Proofs.YtodnhndkghdinaaGreatDoor
