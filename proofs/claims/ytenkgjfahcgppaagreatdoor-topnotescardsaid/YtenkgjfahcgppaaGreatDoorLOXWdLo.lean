/-
  Part.
-/
import Derived.Test.YtenkgjfahcgppaaGreatDoorLOAL
set_option maxRecDepth 20000
set_option maxHeartbeats 8000000
namespace Go.Proofs.YtenkgjfahcgppaaGreatDoor
open Go.RowKit
theorem C82{p:Pw}{d:Dd}(h:ND p)(hE:(doP p d).1.E=16):d.k=1/\ldP (doP p d).2.r=-1/\∀x∈(doP p d).2.D,x.z≠(doP p d).1.z:=by
 unfold doP at hE⊢;by_cases hn:300<=p.n
 .rw[if_pos hn]at hE;cases hE
 rw[if_neg hn]at hE⊢;by_cases ha:NU d≠0
 .rw[if_pos ha]at hE;have:NU d≠16:=by
   unfold NU
   repeat' split
   all_goals decide
  exact absurd hE this
 rw[if_neg ha]at hE⊢;unfold ZJ at hE⊢;by_cases h1:d.k=1
 .rw[if_pos h1]at hE⊢;unfold LH at hE⊢;by_cases hl:ldP (GY p).r=-1
  .rw[if_pos hl]at hE;cases hE
  rw[if_neg hl]at hE⊢;by_cases he:wE (GY p) d≠0
  .rw[if_pos he]at hE;exact absurd hE (CI4 _ _)
  rw[if_neg he]at hE⊢;by_cases hq:(wL (GY p) d).length<2
  .rw[if_pos hq];refine⟨h1,rfl,fun x hx e=>?_⟩;rcases UA p.r with⟨e',_⟩|⟨b,hb,_,hr⟩
   .exact hl e'
   .have w:Wr p d b:=⟨hb,hr,by omega,by have:wE (GY p) d=wE p d:=rfl;omega⟩;have:=OJ h.a (w.wr h) x (h.a.dh x hx);have e:x.z=(wX p d).z:=e;omega
  .rw[if_neg hq]at hE;cases hE
 rw[if_neg h1]at hE;exfalso;revert hE;unfold YB AZ2 LP upW N7
 repeat' split
 all_goals first|exact(A86 _ _).1|decide|(intro hE;cases hE)|(simp only;split<;>decide)
structure LB(w W:World)(d:Dd)(r:Rp)(u:Value):Prop where
 b:Below w.heap.size w W
 d:EW W w.heap.size d
 r:RpX W (w.heap.size+1) r u
theorem LB.next{w W V:World}{d:Dd}{r:Rp}{u:Value}(h:LB w W d r u)(hb:Below W.heap.size W V):LB w V d r u:=⟨AL h.b hb,h.d.QK hb h.d.ltz,(hb.block _ h.r.lt).trans h.r⟩
theorem LB.start(w:World)(d:Dd)(r:Rp)(u:Value):LB w ((w.alloc (.cells #[.int .i64 d.k,.int .i64 d.c,.int .i64 d.s,.int .i64 d.q.o,.int .i64 d.q.s,.string ⟨d.q.p.toArray⟩,.string ⟨d.q.d.toArray⟩,.int .i64 d.q.v,.int .i64 d.q.f,.int .i64 d.lo,.int .i64 d.sl,.int .i64 d.ke,.bool d.wt] 60)).alloc (.cells #[.int .i64 r.E,.int .i64 r.z,.string ⟨r.p.toArray⟩,.string ⟨r.d.toArray⟩,.int .i64 r.t.c,.int .i64 r.t.m,.int .i64 r.t.q,.int .i64 r.t.v,.int .i64 r.t.k,.int .i64 r.t.o,.int .i64 r.t.n,u] 65)) d r u:=by
 refine⟨AL (AB _ _) (AB _ _),?_,YE _ _ _⟩;exact EW.QK (heap_alloc_new w _:EW (w.alloc _) w.heap.size d) (AB _ _) (by simp)
theorem CJ9{W:World}{b off n cap:Nat}{ts:List AQ}{i:Nat}{t:AQ}(hv:BQ W (.slice (some ⟨b,off,none⟩) n cap) ts)(hd:ts[i]?=some t):W.cell? ⟨b,off+i*7,none⟩=some (.int .i64 t.z)/\W.cell? ⟨b,off+i*7+1,none⟩=some (.int .i64 t.o)/\W.cell? ⟨b,off+i*7+2,none⟩=some (.int .i64 t.s)/\W.cell? ⟨b,off+i*7+3,none⟩=some (.string ⟨t.p.toArray⟩)/\W.cell? ⟨b,off+i*7+4,none⟩=some (.string ⟨t.d.toArray⟩)/\W.cell? ⟨b,off+i*7+5,none⟩=some (.int .i64 t.v)/\W.cell? ⟨b,off+i*7+6,none⟩=some (.int .i64 t.w):=by
 obtain⟨b',off',cap',he,_,hr,_,_,_⟩:=VR hv hd;simp only[Value.slice.injEq,Option.some.injEq,Addr.mk.injEq,and_true]at he;obtain⟨⟨rfl,rfl⟩,_,_⟩:=he;have h:∀ (j:Nat) (v:Value),j<7->(Lay.cs t)[j]?=some v->W.cell? ⟨b,off+i*7+j,none⟩=some v:=fun j v hj hv=>by
  rw[Nat.add_assoc];exact hr (i*7+j) v ((AZ ts i t hd j hj).trans hv)
 exact⟨h 0 _ (by omega) rfl,h 1 _ (by omega) rfl,h 2 _ (by omega) rfl,h 3 _ (by omega) rfl,h 4 _ (by omega) rfl,h 5 _ (by omega) rfl,h 6 _ (by omega) rfl⟩
