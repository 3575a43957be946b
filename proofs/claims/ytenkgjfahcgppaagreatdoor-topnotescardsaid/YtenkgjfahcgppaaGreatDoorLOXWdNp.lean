/-
  Part.
-/
import Derived.Test.YtenkgjfahcgppaaGreatDoorLOX
set_option maxRecDepth 20000
set_option maxHeartbeats 8000000
namespace Go.Proofs.YtenkgjfahcgppaaGreatDoor
open Go.RowKit
structure NtOk(c:Nat->Cl)(n:Nt):Prop where
 s1:1<=n.s
 s2:n.s<=16
 g:DN n.p=true
 k1:1<=n.k
 k2:n.k<4
 look:aQ (c (n.s-1).toNat).es n.p=none
theorem uS{s:Nat->Ps}{l:List Nat}(hl:l.Nodup)(hs:∀i∈l,(s i).up=true/\∀x∈(s i).ws,1<=x.s/\x.s<=16/\x.k=1/\DN x.p=true):∀n∈(GH s l).2,1<=n.s/\n.s<=16/\DN n.p=true/\1<=n.k/\n.k<4:=by
 intro n hn;obtain⟨i,hi,h⟩:=kP l s hl n hn;obtain⟨hu,hw⟩:=hs i hi;obtain⟨_,_,h3⟩:=yU (i:=i) hu;obtain⟨x,hx,e1,e2,e3⟩:=h3 n h;obtain⟨a1,a2,a3,a4⟩:=hw x hx;have:=e3 (by omega);rw[e1,e2];exact⟨a1,a2,a4,by omega,by omega⟩
theorem uT{c:Nat->Cl}(hc:∀i,i<16->(c i).s=i+1){l:List Nt}{n:Nt}(hn:n∈l)(h:1<=n.s/\n.s<=16/\DN n.p=true/\1<=n.k/\n.k<4):NtOk (U6 c l) n:=by
 obtain⟨h1,h2,h3,h4,h5⟩:=h;refine⟨h1,h2,h3,h4,h5,?_⟩;show aQ (OU (c (n.s-1).toNat).s l (c (n.s-1).toNat).es) n.p=none;rw[AY8,if_pos];refine List.any_eq_true.2 ⟨n,hn,?_⟩;have:=hc (n.s-1).toNat (by omega);simp only[this,Bool.and_eq_true,decide_eq_true_eq,Bool.not_eq_true',decide_eq_false_iff_not];exact⟨⟨by omega,by omega⟩,trivial⟩
theorem zX{p:Pw}(d:Dd)(h:ND p):(d.k≠1->d.k≠5->(doP p d).1.ns=[])/\∀n∈(doP p d).1.ns,NtOk (doP p d).2.c n:=by
 have hc:∀i,i<16->(p.c i).s=i+1:=fun i hi=>(h.c i hi).s;unfold doP;by_cases hn:300<=p.n
 .rw[if_pos hn];exact⟨fun _ _=>rfl,fun n hn=>by simp[LM]at hn⟩
 rw[if_neg hn];by_cases ha:NU d≠0
 .rw[if_pos ha];exact⟨fun _ _=>rfl,fun n hn=>by simp[LM]at hn⟩
 rw[if_neg ha];unfold ZJ;by_cases h1:d.k=1
 .rw[if_pos h1];refine⟨fun e=>absurd h1 e,?_⟩;unfold LH;by_cases hl:ldP (GY p).r=-1
  .rw[if_pos hl];intro n hn;simp[LM]at hn
  rw[if_neg hl];by_cases he:wE (GY p) d≠0
  .rw[if_pos he];intro n hn;simp[LM]at hn
  rw[if_neg he];by_cases hq:(wL (GY p) d).length<2
  .rw[if_pos hq];intro n hn;simp at hn
  rw[if_neg hq];intro n hn;rcases UA p.r with⟨e,_⟩|⟨b,hb,_,hr⟩
  .exact absurd e hl
  have w:Wr p d b:=⟨hb,hr,by omega,by have:wE (GY p) d=wE p d:=rfl;omega⟩;have hN:=uS (bM p d) (fun i hi=>⟨w.up h (UC.1 hi).1 (CM6 (UC.1 hi).2),fun x hx=>(w.ok h (UC.1 hi).1).wk x hx⟩) n hn;have t:=uT hc hn hN;refine⟨t.s1,t.s2,t.g,t.k1,t.k2,?_⟩;show aQ (wCl p d (GH (wSv p d) (wL p d)).2 (n.s-1).toNat).es n.p=none;rw[<-t.look];unfold wCl;by_cases e:(n.s-1).toNat=d.c.toNat
  .rw[e,BP];rfl
  .rw[AP _ _ e];rfl
 rw[if_neg h1];by_cases h2:d.k=2
 .rw[if_pos h2];have:(YB (GY p) d).1.ns=[]:=by
   unfold YB
   repeat' split
   all_goals rfl
  rw[this];exact⟨fun _ _=>rfl,fun n hn=>by simp at hn⟩
 rw[if_neg h2];by_cases h3:d.k=3
 .rw[if_pos h3];have:(LP (GY p) d.s.toNat d.ke).1.ns=[]:=by
   unfold LP
   repeat' split
   all_goals rfl
  rw[this];exact⟨fun _ _=>rfl,fun n hn=>by simp at hn⟩
 rw[if_neg h3];by_cases h4:d.k=4
 .rw[if_pos h4];have:(upW (GY p) d.s.toNat).1.ns=[]:=by
   unfold upW
   split<;>rfl
  rw[this];exact⟨fun _ _=>rfl,fun n hn=>by simp at hn⟩
 rw[if_neg h4];have h5:d.k=5:=by
  unfold NU at ha;rw[if_neg h1,if_neg h2,if_neg (by omega)]at ha;by_cases h5:d.k=5
  .exact h5
  .rw[if_neg h5]at ha;simp at ha
 refine⟨fun _ e=>absurd h5 e,?_⟩;unfold N7;by_cases hq:(F5 (GY p).s).length<2
 .rw[if_pos hq];intro n hn;simp[LM]at hn
 rw[if_neg hq];by_cases hb:yS (GY p).s=true
 .rw[if_pos hb];intro n hn;simp[LM]at hn
 rw[if_neg hb];intro n hn;refine uT hc hn (uS (N8 p.s) (fun i hi=>?_) n hn);obtain⟨a1,a2⟩:=FI.1 hi;rw[eS,if_pos ⟨a2,a1⟩];exact⟨rfl,fun x hx=>(h.s i a1).wk x hx⟩
