/-
  Part.
-/
import Derived.Test.YtkpojhhfjddegaaGreatDoorLOX
set_option maxRecDepth 20000
set_option maxHeartbeats 8000000
namespace Go.Proofs.YtkpojhhfjddegaaGreatDoor
open Go.RowKit
def OM(d:Dd)(E:Int):Bool:=(decide (d.k=2)&&(decide (E=0)||decide (E=7)))||(decide (d.k=1)&&decide (E=0))
structure CU9(p q:Pw)(d:Dd)(r:Rp):Prop where
 yes:OM d r.E=true->0<=d.c/\d.c<16/\(p.c d.c.toNat).z<=r.z/\(q.c d.c.toNat).z=r.z/\∀j,j≠d.c.toNat->(q.c j).z=(p.c j).z
 no:OM d r.E=false->∀j,(q.c j).z=(p.c j).z
theorem U9{p q:Pw}{d:Dd}{r:Rp}(h:OM d r.E=false)(hz:∀j,(q.c j).z=(p.c j).z):CU9 p q d r:=⟨fun e=>absurd (h.symm.trans e) (by decide),fun _=>hz⟩
theorem CH9{p:Pw}{d:Dd}{b:Nat}(w:Wr p d b)(h:QE p)(hc:0<=d.c/\d.c<16):(p.c d.c.toNat).z<=(wX p d).z:=by
 have hz:=h.c d.c.toNat (by omega);have hx0:=(w.zs h).2.1;rcases hz.z with e|⟨y,hy,e⟩
 .omega
 .have:=QI h.a (w.wr h) y hy;omega
theorem AU6{p:Pw}(d:Dd)(h:QE p):CU9 p (doP p d).2 d (doP p d).1:=by
 unfold doP;by_cases hn:300<=p.n
 .rw[if_pos hn];exact U9 (by simp[OM,OJ]) fun _=>rfl
 rw[if_neg hn];by_cases ha:TI d≠0
 .rw[if_pos ha];have:TI d≠7:=by
   unfold TI
   repeat' split
   all_goals simp
  exact U9 (by simp[OM,OJ,ha,this]) fun _=>rfl
 rw[if_neg ha];have ha0:TI d=0:=by simpa using ha
 unfold dX;by_cases h1:d.k=1
 .rw[if_pos h1];have hk2:¬d.k=2:=by omega
  have hc:=CQ9 h1 ha0;unfold P9;by_cases hl:ldP (LQ p).r=-1
  .rw[if_pos hl];exact U9 (by simp[OM,OJ,hk2]) fun _=>rfl
  rw[if_neg hl];by_cases he:wE (LQ p) d≠0
  .rw[if_pos he];exact U9 (by simp[OM,OJ,hk2,he]) fun _=>rfl
  rw[if_neg he];by_cases hq:(wL (LQ p) d).length<2
  .rw[if_pos hq];exact U9 (by simp[OM,hk2]) fun _=>rfl
  rw[if_neg hq];rcases YG p.r with⟨e,_⟩|⟨b,hb,_,hr⟩
  .exact absurd e hl
  have w:Wr p d b:=⟨hb,hr,by omega,by have:wE (LQ p) d=wE p d:=rfl;omega⟩;have hz:(p.c d.c.toNat).z<=(wX p d).z:=CH9 w h hc;have hx:(wX p d).z=wZ p:=(w.fit h).z;refine⟨fun _=>⟨hc.1,hc.2,hz,?_,fun j hj=>?_⟩,fun e=>?_⟩
  .show (wCl p d (MB (wSv p d) (wL p d)).2 d.c.toNat).z=(wX p d).z;rw[wCl,II,hx]
  .show (wCl p d (MB (wSv p d) (wL p d)).2 j).z=_;rw[wCl,GN _ _ hj];rfl
  .simp[OM,h1]at e
 rw[if_neg h1];by_cases h2:d.k=2
 .rw[if_pos h2];have hc:=(CD5 h2 ha0).1;unfold dI;by_cases hu:((LQ p).s d.s.toNat).up=false
  .rw[if_pos hu];exact U9 (by simp[OM,OJ,h1]) fun _=>rfl
  rw[if_neg hu];by_cases hs:(rTr (LQ p) d).z<((LQ p).c d.c.toNat).z
  .rw[if_pos hs];exact U9 (by simp[OM,OJ,h1]) fun _=>rfl
  rw[if_neg hs];have hs':(p.c d.c.toNat).z<=(rTr (LQ p) d).z:=Int.not_lt.1 hs;have hE:OM d (yP (LQ p) d).E=true:=by
   simp only[OM,yP,h2]
   split<;>simp
  by_cases hw:d.wt=false
  .rw[if_pos hw];refine⟨fun _=>⟨hc.1,hc.2,hs',?_,fun j hj=>?_⟩,fun e=>absurd (hE.symm.trans e) (by decide)⟩
   .simp only[II];rfl
   .simp only[GN _ _ hj];rfl
  rw[if_neg hw];by_cases he:ZL ((LQ p).s d.s.toNat).ws (rWa (LQ p) d)≠0
  .rw[if_pos he];have h7:ZL ((LQ p).s d.s.toNat).ws (rWa (LQ p) d)≠7:=by
    unfold ZL sV
    repeat' split
    all_goals simp
   exact U9 (by simp[OM,OJ,h1,he,h7]) fun _=>rfl
  rw[if_neg he];refine⟨fun _=>⟨hc.1,hc.2,hs',?_,fun j hj=>?_⟩,fun e=>absurd (hE.symm.trans e) (by decide)⟩
  .simp only[II];rfl
  .simp only[GN _ _ hj];rfl
 rw[if_neg h2];have hB:∀E,OM d E=false:=fun E=>by simp[OM,h1,h2]
 by_cases h3:d.k=3
 .rw[if_pos h3];refine U9 (hB _) fun j=>?_;unfold SC
  repeat' split
  all_goals rfl
 rw[if_neg h3];by_cases h4:d.k=4
 .rw[if_pos h4];refine U9 (hB _) fun j=>?_;unfold upW
  split<;>rfl
 rw[if_neg h4];refine U9 (hB _) fun j=>?_;unfold RN
 repeat' split
 all_goals rfl
