/-
  Part.
-/
import Derived.Test.YtmbmehcoidjiaaaGreatDoorLOM
set_option maxRecDepth 20000
set_option maxHeartbeats 8000000
namespace Go.Proofs.YtmbmehcoidjiaaaGreatDoor
open Go.RowKit Go.Proofs.Tryz
def CreQ(F:Nat→Prop)(b:Nat)(z:Int)(vs ve:Value)(ns:List Nd)(ss:List Int)(es:List Ev)(w:World)(xp:List UInt8)(wx:World):Prop:=
 ∃v5,Grow wx F b z v5 vs ve ns ss es∧Touch F w wx∧wx.cell? ⟨w.heap.size,3,none⟩=some (S0 xp)
theorem A15(F:Nat→Prop)(b:Nat)(z:Int)(vn vs ve:Value)(ns:List Nd)(A B A' B':List Nd)(u:Nd)(E:Int)(Post:World→Prop)(ss:List Int)(es:List Ev)(x:AQ)(w:World)
  (h:Grow w F b z vn vs ve ns ss es) (hF:∀k,w.heap.size≤k→F k) (G:iQ ns A B x.p) (U:FP ns A' u B' (BQ x.p)) (hl:ns.length≤400) (ho:u.o=0) (hw:x.w=0∨x.w=x.s) (hf:ns.length<400) (hp:x.p.length≤140737488355328) (hd:x.d.length≤140737488355328) (hes:es.length≤99998)
  (hpar:∀W vn' ve',Grow W F b z vn' vs ve' (A++zM x::B) ss (es++[⟨1,x.p⟩])→w.heap.size≤W.heap.size→Touch F w W→Calls prog 226 #[P0 b,S0 (BQ x.p),I0 1] W fun e w'=>e=.returned (I0 E)∧Post w'):
  Calls prog 199 #[P0 b,DW x] w fun e w'=>e=.returned (I0 E)∧Post w':=by
 obtain⟨xz,xo,xs,xp,xd,xv,xw⟩:=x;simp only at G U hp hd hpar hw;have CF:=fun W (hW:B0 w W)=>J9 vn ns A B xp W (h.n.next hW).seq (by omega) G;have HCS:=AA (fun W=>J8 xp W);have HCG:=AA (fun W (hW:B0 w W)=>FB vn ns A' B' u (BQ xp) W (h.n.next hW).seq (by omega) U);have KX:∀w1,Below (w.alloc (.cells #[I0 xz,I0 xo,I0 xs,S0 xp,S0 xd,I0 xv,I0 xw] 55)).heap.size (w.alloc (.cells #[I0 xz,I0 xo,I0 xs,S0 xp,S0 xd,I0 xv,I0 xw] 55)) w1→TAt w1 w.heap.size ⟨xz,xo,xs,xp,xd,xv,xw⟩:=fun w1 h1=>(TAt.new w ⟨xz,xo,xs,xp,xd,xv,xw⟩).next h1;have HKX:=AA KX;have c1:=h.c1;have hbl:=h.lt;obtain⟨g,cap,rfl,hr,hgb,hFg⟩:=h.aO (by rw[U.eq];simp);have HG:=AA h;have HE:=AA U.eq;have hlt:A'.length<ns.length:=by rw[U.eq];simp
 have hfb:((ns.length:Int)==400)=false:=by simp;omega
 have HO:=AA ho;have HGE:=AA G.eq;have HF:=AA hF;have HP:=AA hpar;have hgl:=hr.lt;have CCp:=fun W=>VW (⟨xp,xd,xz,xz,xz,0,0,xw,0⟩:Nd) W hp hd;unfold PG at CCp;simp only at CCp;clear h G U KX ho hr hF hpar hf;unfold DW;go_enter func199,ntmps199;go_upto_region 1 with fail
 go_cut [5,6]from 13 (fun t5 t6 wx=>t5=I0 A.length∧t6=.bool false∧Hid (Below (w.alloc (.cells #[I0 xz,I0 xo,I0 xs,S0 xp,S0 xd,I0 xv,I0 xw] 55)).heap.size (w.alloc (.cells #[I0 xz,I0 xo,I0 xs,S0 xp,S0 xd,I0 xv,I0 xw] 55)) wx))
 case first=>
  clear HCS HCG HKX HG HP HF CCp
  go_region_law (first
   |(go_simp;refine(CF _ (by first|exact((Below.refl w.heap.size w).alloc (Nat.le_refl _) _).drew|exact(Below.refl w.heap.size w).alloc (Nat.le_refl _) _)).mono ?_;rintro e w1 ⟨rfl,hb1⟩;have HBd:=AA hb1;clear hb1))
  all_goals go_wp2_with fail
  all_goals go_meet
  all_goals exact⟨rfl,rfl,AA (BH (A8 HBd))⟩
 case rest=>
  obtain⟨rfl,rfl,HB0⟩:=hcut;clear CF;have HB1:=AA (AY (A8 HB0));have tx:=A8 HKX wc (A8 HB0);have t3:=tx.c3;have HTX:=AA tx;have g1:=(A8 HG).next (A8 HB1);have HG1:=AA g1;clear g1 tx c1;go_wp2_with fail;refine(A8 HCS _).mono ?_;rintro e w2 ⟨rfl,hb2⟩;have HB2:=AA (AL (A8 HB1) hb2);have tx2:=(A8 HTX).next hb2;have g2:=(A8 HG1).next hb2;have e1:=g2.c1;have wH:=AA tx2;have HG2:=AA g2;clear tx2 g2 hb2 t3;go_wp2_with fail;refine(A8 HCG _ (A8 HB2)).mono ?_;rintro e w3 ⟨rfl,hb3⟩;have HB3:=AA (AL (A8 HB2) hb3);have tx3:=(A8 wH).next hb3;have g3:=(A8 HG2).next hb3;have f1:=g3.c1;have y0:=tx3.c0;have y2:=tx3.c2;have y3:=tx3.c3;have y4:=tx3.c4;have y6:=tx3.c6;obtain⟨g',cap',he,hr,_,_⟩:=g3.aO (by rw[A8 HE];simp);simp only[Value.slice.injEq,Option.some.injEq,Addr.mk.injEq,and_true]at he;obtain⟨rfl,_,rfl⟩:=he;have r7:=hr.row.n7 (i:=A'.length) (x:=u) (by rw[A8 HE];exact QA A' u B');rw[Nat.zero_add]at r7;have C38:=AA tx3;have HG3:=AA g3;clear g3 tx3 hr e1 hb3;rw[A8 HO]at r7;have hgz:g≠w.heap.size:=by omega
  have hsz3:=(A8 HB3).size;have hszx:=(A8 C38).lt;have HGS:=AA ((A8 HG3).next (AB w3 (.cells #[I0 xz,I0 xz,I0 xz,I0 0,I0 0,I0 xw,I0 0] 32)));have HTS:=AA ((A8 C38).next (AB w3 (.cells #[I0 xz,I0 xz,I0 xz,I0 0,I0 0,I0 xw,I0 0] 32)));have f1s:=(A8 HGS).c1;have y3s:=(A8 HTS).c3;have y4s:=(A8 HTS).c4;have hbs:=(A8 HGS).lt;have CH7:=AA (AL (A8 HB3) (AB w3 (.cells #[I0 xz,I0 xz,I0 xz,I0 0,I0 0,I0 xw,I0 0] 32)));have K1:=AA (fun w4 (hb4:Below (w3.alloc (.cells #[I0 xz,I0 xz,I0 xz,I0 0,I0 0,I0 xw,I0 0] 32)).heap.size (w3.alloc (.cells #[I0 xz,I0 xz,I0 xz,I0 0,I0 0,I0 xw,I0 0] 32)) w4)=>(⟨((A8 HGS).next hb4).c1,(((A8 HGS).next hb4).next (AB w4 (.cells #[S0 xp,S0 xd,I0 xz,I0 xz,I0 xz,I0 0,I0 0,I0 xw,I0 0] 76))).c1⟩:w4.cell? ⟨b,1,none⟩=some (.slice (some ⟨g,0,none⟩) ns.length cap)∧(w4.alloc (.cells #[S0 xp,S0 xd,I0 xz,I0 xz,I0 xz,I0 0,I0 0,I0 xw,I0 0] 76)).cell? ⟨b,1,none⟩=some (.slice (some ⟨g,0,none⟩) ns.length cap)));have KI:=AA (fun w4 (hb4:Below (w3.alloc (.cells #[I0 xz,I0 xz,I0 xz,I0 0,I0 0,I0 xw,I0 0] 32)).heap.size (w3.alloc (.cells #[I0 xz,I0 xz,I0 xz,I0 0,I0 0,I0 xw,I0 0] 32)) w4)=>vV (.slice (some ⟨g,0,none⟩) ns.length cap) A B (⟨xp,xd,xz,xz,xz,0,0,xw,0⟩:Nd) w4.heap.size (w4.alloc (.cells #[S0 xp,S0 xd,I0 xz,I0 xz,I0 xz,I0 0,I0 0,I0 xw,I0 0] 76)) (by have:=(((A8 HGS).next hb4).next (AB w4 (.cells #[S0 xp,S0 xd,I0 xz,I0 xz,I0 xz,I0 0,I0 0,I0 xw,I0 0] 76))).n;rw[A8 HGE]at this⊢;exact this) (by rw[←A8 HGE];exact hl) (lU w4 (⟨xp,xd,xz,xz,xz,0,0,xw,0⟩:Nd)) (by intro e;have h1:=Option.some.inj e;have h2:=hb4.size;have h3:=(A8 CH7).size;simp only at h1;omega));have K2:∀ (w4 w5:World) (v':Value),Below (w3.alloc (.cells #[I0 xz,I0 xz,I0 xz,I0 0,I0 0,I0 xw,I0 0] 32)).heap.size (w3.alloc (.cells #[I0 xz,I0 xz,I0 xz,I0 0,I0 0,I0 xw,I0 0] 32)) w4→BF w5 0 v' (A++(⟨xp,xd,xz,xz,xz,0,0,xw,0⟩:Nd)::B)→(w4.alloc (.cells #[S0 xp,S0 xd,I0 xz,I0 xz,I0 xz,I0 0,I0 0,I0 xw,I0 0] 76)).grownBy w5 (some g)→(v'.ownBlock=some g∨∃k,(w4.alloc (.cells #[S0 xp,S0 xd,I0 xz,I0 xz,I0 xz,I0 0,I0 0,I0 xw,I0 0] 76)).heap.size≤k∧v'.ownBlock=some k)→
    w5.cell? ⟨b,1,none⟩=some (.slice (some ⟨g,0,none⟩) ns.length cap)∧w5.frozen? ⟨b,1,none⟩=false∧CreQ F b z vs ve (A++(⟨xp,xd,xz,xz,xz,0,0,xw,0⟩:Nd)::B) ss es w xp (w5.setCell ⟨b,1,none⟩ v'):=by
   intro w4 w5 v' hb4 ho5 hg5 hl5;have q4:=((A8 HGS).next hb4).next (AB w4 (.cells #[S0 xp,S0 xd,I0 xz,I0 xz,I0 xz,I0 0,I0 0,I0 xw,I0 0] 76));have tx5:=((A8 HTS).next hb4).next (AB w4 (.cells #[S0 xp,S0 xd,I0 xz,I0 xz,I0 xz,I0 0,I0 0,I0 xw,I0 0] 76));have nb:¬some b=some g:=fun e=>hgb (Option.some.inj e).symm;have tx6:TAt w5 w.heap.size ⟨xz,xo,xs,xp,xd,xv,xw⟩:=(hg5.block _ tx5.lt (fun e=>hgz (Option.some.inj e).symm)).trans tx5;have hbz:w.heap.size≠b:=by omega
   have tx7:TAt (w5.setCell ⟨b,1,none⟩ v') w.heap.size ⟨xz,xo,xs,xp,xd,xv,xw⟩:=(Below.heap_setCell w5 ⟨b,1,none⟩ v' _ hbz).trans tx6;refine⟨hg5.cell q4.c1 nb,(World.frozen?_of_block (hg5.block b q4.lt nb)).trans (q4.fz 1),v',q4.nd (fun k hk=>A8 HF k (by have:=hb4.size;have:=(A8 CH7).size;have hk2:w4.heap.size+1≤k:=(by simpa using hk);omega)) hg5 ho5 hl5,?_,tx7.c3⟩;exact((((Touch.of_below (A8 CH7)).trans (Touch.of_below hb4)).trans (Touch.of_below (AB _ _))).trans (Touch.QV hg5 (fun k e=>by cases e;exact hFg))).trans (Touch.set q4.fb _)
  have HK2:=AA K2;have HRP:=AA (fun W (hs:w.heap.size≤W.heap.size) v5 (g5:Grow W F b z v5 vs ve (A++(⟨xp,xd,xz,xz,xz,0,0,xw,0⟩:Nd)::B) ss es)=>aP F b z v5 vs ve _ ss es 1 xp W g5 (fun k hk=>A8 HF k (by omega)) hp (by omega));clear K2
  go_upto_block 0 with fail
  go_cut [11]from 12 (fun t11 wx=>t11=.bool true∧w3=wx)
  case first=>
   clear CCp KI HK2 K1 HRP HP HCS HCG HKX HTX wH HG HG1 HG2 HF HB0 HB1 HB2;rcases hw with hw|hw
   ·have hb1:(xw !=0)=false:=by simpa using hw
    clear hw;go_wp2_with fail
    go_meet
    exact⟨rfl,rfl⟩
   ·by_cases hw0:xw=0
    ·have hb1:(xw !=0)=false:=by simpa using hw0
     clear hw hw0;go_wp2_with fail
     go_meet
     exact⟨rfl,rfl⟩
    ·have hb1:(xw !=0)=true:=by simpa using hw0
     have hb2:(xw !=xs)=false:=by simpa using hw
     clear hw hw0;go_wp2_with fail
     go_meet
     exact⟨rfl,rfl⟩
  case rest=>
   obtain⟨rfl,h33⟩:=hcut;subst h33;clear hw r7 hfb;go_upto_region 14 with fail
   go_cut [12]from 13 (fun t12 wx=>t12=.pointer (some ⟨w3.heap.size,0,none⟩)∧wx=w3.alloc (.cells #[I0 xz,I0 xz,I0 xz,I0 0,I0 0,I0 xw,I0 0] 32))
   case first=>
    clear CCp KI HK2 K1 HRP;go_wp2_with fail
    go_meet
    exact⟨rfl,rfl⟩
   case rest=>
    obtain⟨rfl,rfl⟩:=hcut;clear f1 y0 y2 y3 y4 y6;go_upto_region 15 with fail
    go_cut [12]from 13 (fun t12 wx=>t12=.pointer (some ⟨w3.heap.size,0,none⟩)∧Hid (CreQ F b z vs ve (A++(⟨xp,xd,xz,xz,xz,0,0,xw,0⟩:Nd)::B) ss es w xp wx))
    case first=>
     clear HRP HP HCS HCG HKX HTX wH HG HG1 HG2 HE HO HF HB0 HB1 HB2
     go_region_law (first
      |(go_simp;refine(CCp _).mono ?_;rintro e w4 ⟨rfl,hb4⟩;have HB4:Hid (Below (w3.alloc (.cells #[I0 xz,I0 xz,I0 xz,I0 0,I0 0,I0 xw,I0 0] 32)).heap.size (w3.alloc (.cells #[I0 xz,I0 xz,I0 xz,I0 0,I0 0,I0 xw,I0 0] 32)) w4):=(by exact BH hb4);obtain⟨d3,d3a⟩:=A8 K1 w4 (A8 HB4);clear hb4)
      |(go_simp;refine(A8 KI w4 (A8 HB4)).mono ?_;rintro e w5 ⟨v5,rfl,ho5,hg5,hl5⟩;obtain⟨m1,l1,q5⟩:=A8 HK2 w4 w5 v5 (A8 HB4) ho5 hg5 hl5;have HQ5:=AA q5;obtain⟨va,vL,vc,rfl⟩:∃va vL vc,v5=.slice va vL vc:=(by obtain⟨va,vc,h,_⟩:=ho5.slice;exact⟨_,_,_,h⟩);clear ho5 hg5 hl5 q5))
     all_goals go_wp2_with fail
     all_goals go_meet
     all_goals exact⟨rfl,HQ5⟩
    case rest=>
     obtain⟨rfl,hq⟩:=hcut;obtain⟨v5,g5,t5,m3⟩:=A8 hq;have HG5:=AA g5;have HT5:=AA t5;clear g5 t5 hq CCp KI HK2 K1;go_wp2_with fail;refine(A8 HRP _ (A8 HT5).size _ (A8 HG5)).mono ?_;rintro e w6 ⟨rfl,ve',g6,t6⟩;have HG6:=AA g6;have HT6:=AA ((A8 HT5).trans t6);clear g6 t6 m3;go_wp2_with fail;refine(A8 HP _ _ _ (A8 HG6) (A8 HT6).size (A8 HT6)).mono ?_;rintro e w7 ⟨rfl,hp7⟩;have HP7:=AA hp7;clear hp7;go_wp2_with fail;go_ret;exact⟨rfl,A8 HP7⟩
end Go.Proofs.YtmbmehcoidjiaaaGreatDoor
