/-
  Part.
-/
import Derived.Test.YthcncjimjclfpaaGreatDoorLSJ
import Derived.Test.YthcncjimjclfpaaGreatDoorLSK
set_option maxRecDepth 20000
set_option maxHeartbeats 8000000
namespace Go.Proofs.YthcncjimjclfpaaGreatDoor
open Go.RowKit Go.Proofs.Tryz
open Go.RowKit.Below renaming refl->AA,heap_setCell->BF
open _root_.Option.some renaming inj->BN
open Go.Value renaming slice->FQ
open Go.Obj renaming cells->FT
open _root_.Option renaming none->FX,some->FZ
def CreQ(F:Nat->Prop)(b:Nat)(z:Int)(vs ve:Value)(ns:List Nd)(ss:List Int)(es:List Ev)(w:World)(xp:List UInt8)(wx:World):Prop:=
 ∃v5,Grow wx F b z v5 vs ve ns ss es/\Touch F w wx/\wx.cell? ⟨w.heap.size,3,FX⟩=FZ (S0 xp)
theorem B18{V:World}{n sz:Nat}{xz xo xs xv xw:Int}{xp xd:List UInt8}(h:TAt V n ⟨xz,xo,xs,xp,xd,xv,xw⟩)(h2:V.heap[sz]?=FZ (FT #[I0 xz,I0 xz,I0 xz,I0 0,I0 0,I0 xw,I0 0] 34 (0,0))):V.cell? ⟨n,3,FX⟩=FZ (S0 xp)/\V.cell? ⟨n,4,FX⟩=FZ (S0 xd)/\V.cell? ⟨sz,0,FX⟩=FZ (I0 xz)/\V.cell? ⟨sz,1,FX⟩=FZ (I0 xz)/\V.cell? ⟨sz,2,FX⟩=FZ (I0 xz)/\V.cell? ⟨sz,3,FX⟩=FZ (I0 0)/\V.cell? ⟨sz,4,FX⟩=FZ (I0 0)/\V.cell? ⟨sz,5,FX⟩=FZ (I0 xw)/\V.cell? ⟨sz,6,FX⟩=FZ (I0 0):=by
 refine⟨h.c3,h.c4,?_⟩;unfold World.cell?;simp only[h2];exact⟨rfl,rfl,rfl,rfl,rfl,rfl,rfl⟩
theorem AD0(F:Nat->Prop)(b:Nat)(z:Int)(vn vs ve:Value)(ns:List Nd)(A B A' B':List Nd)(u:Nd)(E:Int)(Post:World->Prop)(ss:List Int)(es:List Ev)(x:GI)(w:World)
  (h:Grow w F b z vn vs ve ns ss es) (hF:∀k,w.heap.size<=k->F k) (G:mX ns A B x.p) (U:KF ns A' u B' (IB x.p)) (hl:ns.length<=400) (ho:u.o=0) (hw:x.w=0\/x.w=x.s) (hf:ns.length<400) (hp:x.p.length<=140737488355328) (hd:x.d.length<=140737488355328) (hes:es.length<=99998)
  (hpar:∀W vn' ve',Grow W F b z vn' vs ve' (A++uI x::B) ss (es++[⟨1,x.p⟩])->w.heap.size<=W.heap.size->Touch F w W->Calls prog 227 #[P0 b,S0 (IB x.p),I0 1] W fun e w'=>e=.returned (I0 E)/\Post w'):
  Calls prog 200 #[P0 b,J8 x] w fun e w'=>e=.returned (I0 E)/\Post w':=by
 obtain⟨xz,xo,xs,xp,xd,xv,xw⟩:=x;simp only at G U hp hd hpar hw;have CF:=fun W (hW:B0 w W)=>NK vn ns A B xp W (h.n.next hW).seq (by omega) G;have HCS:=G6 (fun W=>NI xp W);have HCG:=G6 (fun W (hW:B0 w W)=>JR vn ns A' B' u (IB xp) W (h.n.next hW).seq (by omega) U);have KX:∀w1,Below (w.alloc (FT #[I0 xz,I0 xo,I0 xs,S0 xp,S0 xd,I0 xv,I0 xw] 93)).heap.size (w.alloc (FT #[I0 xz,I0 xo,I0 xs,S0 xp,S0 xd,I0 xv,I0 xw] 93)) w1->TAt w1 w.heap.size ⟨xz,xo,xs,xp,xd,xv,xw⟩:=fun w1 h1=>(TAt.new w ⟨xz,xo,xs,xp,xd,xv,xw⟩).next h1;have HKX:=G6 KX;have c1:=h.c1;have hbl:=h.lt;obtain⟨g,cap,rfl,hr,hgb,hFg⟩:=h.iK (by rw[U.eq];simp);have HG:=G6 h;have HE:=G6 U.eq;have hlt:A'.length<ns.length:=by rw[U.eq];simp
 have hfb:((ns.length:Int)==400)=false:=by simp;omega
 have HO:=G6 ho;have HGE:=G6 G.eq;have HF:=G6 hF;have HP:=G6 hpar;have hgl:=hr.lt;have CCp:=fun W=>ZP (⟨xp,xd,xz,xz,xz,0,0,xw,0⟩:Nd) W hp hd;unfold TY at CCp;simp only at CCp;clear h G U KX ho hr hF hpar hf;unfold J8;go_enter func200,ntmps200;go_upto_region 1 with fail
 go_cut [5,6]from 13 (fun t5 t6 wx=>t5=I0 A.length/\t6=.bool false/\Hid (Below (w.alloc (FT #[I0 xz,I0 xo,I0 xs,S0 xp,S0 xd,I0 xv,I0 xw] 93)).heap.size (w.alloc (FT #[I0 xz,I0 xo,I0 xs,S0 xp,S0 xd,I0 xv,I0 xw] 93)) wx))
 case first=>
  clear HCS HCG HKX HG HP HF CCp
  go_region_law (first
   |(go_simp;refine(CF _ (by first|exact((AA w.heap.size w).alloc (Nat.le_refl _) _).drew|exact(AA w.heap.size w).alloc (Nat.le_refl _) _)).mono ?_;rintro e w1 ⟨rfl,hb1⟩;have HBd:=G6 hb1;clear hb1))
  all_goals go_wp2_with fail
  all_goals go_meet
  all_goals exact⟨rfl,rfl,G6 (I9 (G5 HBd))⟩
 case rest=>
  obtain⟨rfl,rfl,HB0⟩:=hcut;clear CF;have HB1:=G6 (GU (G5 HB0));have tx:=G5 HKX wc (G5 HB0);have t3:=tx.c3;have HTX:=G6 tx;have g1:=(G5 HG).next (G5 HB1);have HG1:=G6 g1;clear g1 tx c1;go_wp2_with fail;refine(G5 HCS _).mono ?_;rintro e w2 ⟨rfl,hb2⟩;have HB2:=G6 (G8 (G5 HB1) hb2);have tx2:=(G5 HTX).next hb2;have g2:=(G5 HG1).next hb2;have e1:=g2.c1;have A33:=G6 tx2;have HG2:=G6 g2;clear tx2 g2 hb2 t3;go_wp2_with fail;refine(G5 HCG _ (G5 HB2)).mono ?_;rintro e w3 ⟨rfl,hb3⟩;have HB3:=G6 (G8 (G5 HB2) hb3);have tx3:=(G5 A33).next hb3;have g3:=(G5 HG2).next hb3;have f1:=g3.c1;have y0:=tx3.c0;have y2:=tx3.c2;have y3:=tx3.c3;have y4:=tx3.c4;have y6:=tx3.c6;obtain⟨g',cap',he,hr,_,_⟩:=g3.iK (by rw[G5 HE];simp);simp only[Value.slice.injEq,Option.some.injEq,Addr.mk.injEq,and_true]at he;obtain⟨rfl,_,rfl⟩:=he;have r7:=hr.row.n7 (i:=A'.length) (x:=u) (by rw[G5 HE];exact UK A' u B');rw[Nat.zero_add]at r7;have CF9:=G6 tx3;have HG3:=G6 g3;clear g3 tx3 hr e1 hb3;rw[G5 HO]at r7;have hgz:g≠w.heap.size:=by omega
  have hsz3:=(G5 HB3).size;have hszx:=(G5 CF9).lt;have HGS:=G6 ((G5 HG3).next (G7 w3 (FT #[I0 xz,I0 xz,I0 xz,I0 0,I0 0,I0 xw,I0 0] 34)));have HTS:=G6 ((G5 CF9).next (G7 w3 (FT #[I0 xz,I0 xz,I0 xz,I0 0,I0 0,I0 xw,I0 0] 34)));have f1s:=(G5 HGS).c1;have y3s:=(G5 HTS).c3;have y4s:=(G5 HTS).c4;have hbs:=(G5 HGS).lt;have CU6:=G6 (G8 (G5 HB3) (G7 w3 (FT #[I0 xz,I0 xz,I0 xz,I0 0,I0 0,I0 xw,I0 0] 34)));have hst:=heap_alloc_new w3 (FT #[I0 xz,I0 xz,I0 xz,I0 0,I0 0,I0 xw,I0 0] 34);have hz3:w3.heap.size<(w3.alloc (FT #[I0 xz,I0 xz,I0 xz,I0 0,I0 0,I0 xw,I0 0] 34)).heap.size:=by simp
  generalize hW1:w3.alloc (FT #[I0 xz,I0 xz,I0 xz,I0 0,I0 0,I0 xw,I0 0] 34)=W1 at*;have HW1:=G6 hW1;have HST:=G6 hst;clear hW1 hst;have K1:=G6 (fun w4 (hb4:B0 W1 w4)=>(⟨((G5 HGS).next hb4).c1,(((G5 HGS).next hb4).next (G7 w4 (FT #[S0 xp,S0 xd,I0 xz,I0 xz,I0 xz,I0 0,I0 0,I0 xw,I0 0] 49))).c1⟩:w4.cell? ⟨b,1,FX⟩=FZ (FQ (FZ ⟨g,0,FX⟩) ns.length cap)/\(w4.alloc (FT #[S0 xp,S0 xd,I0 xz,I0 xz,I0 xz,I0 0,I0 0,I0 xw,I0 0] 49)).cell? ⟨b,1,FX⟩=FZ (FQ (FZ ⟨g,0,FX⟩) ns.length cap)));have KI:=G6 (fun w4 (hb4:B0 W1 w4)=>A23 (FQ (FZ ⟨g,0,FX⟩) ns.length cap) A B (⟨xp,xd,xz,xz,xz,0,0,xw,0⟩:Nd) w4.heap.size (w4.alloc (FT #[S0 xp,S0 xd,I0 xz,I0 xz,I0 xz,I0 0,I0 0,I0 xw,I0 0] 49)) (by have:=(((G5 HGS).next hb4).next (G7 w4 (FT #[S0 xp,S0 xd,I0 xz,I0 xz,I0 xz,I0 0,I0 0,I0 xw,I0 0] 49))).n;rw[G5 HGE]at this⊢;exact this) (by rw[<-G5 HGE];exact hl) (rU w4 (⟨xp,xd,xz,xz,xz,0,0,xw,0⟩:Nd)) (by intro e;have h1:=BN e;have h2:=hb4.size;have h3:=(G5 CU6).size;simp only at h1;omega));have K2:∀ (w4 w5:World) (v':Value),B0 W1 w4->GZ w5 0 v' (A++(⟨xp,xd,xz,xz,xz,0,0,xw,0⟩:Nd)::B)->(w4.alloc (FT #[S0 xp,S0 xd,I0 xz,I0 xz,I0 xz,I0 0,I0 0,I0 xw,I0 0] 49)).grownBy w5 (FZ g)->(v'.ownBlock=FZ g\/∃k,(w4.alloc (FT #[S0 xp,S0 xd,I0 xz,I0 xz,I0 xz,I0 0,I0 0,I0 xw,I0 0] 49)).heap.size<=k/\v'.ownBlock=FZ k)->
    w5.cell? ⟨b,1,FX⟩=FZ (FQ (FZ ⟨g,0,FX⟩) ns.length cap)/\w5.frozen? ⟨b,1,FX⟩=false/\CreQ F b z vs ve (A++(⟨xp,xd,xz,xz,xz,0,0,xw,0⟩:Nd)::B) ss es w xp (w5.setCell ⟨b,1,FX⟩ v'):=by
   intro w4 w5 v' hb4 ho5 hg5 hl5;have q4:=((G5 HGS).next hb4).next (G7 w4 (FT #[S0 xp,S0 xd,I0 xz,I0 xz,I0 xz,I0 0,I0 0,I0 xw,I0 0] 49));have tx5:=((G5 HTS).next hb4).next (G7 w4 (FT #[S0 xp,S0 xd,I0 xz,I0 xz,I0 xz,I0 0,I0 0,I0 xw,I0 0] 49));have nb:¬FZ b=FZ g:=fun e=>hgb (BN e).symm;have tx6:TAt w5 w.heap.size ⟨xz,xo,xs,xp,xd,xv,xw⟩:=(hg5.block _ tx5.lt (fun e=>hgz (BN e).symm)).trans tx5;have hbz:w.heap.size≠b:=by omega
   have tx7:TAt (w5.setCell ⟨b,1,FX⟩ v') w.heap.size ⟨xz,xo,xs,xp,xd,xv,xw⟩:=(BF w5 ⟨b,1,FX⟩ v' _ hbz).trans tx6;refine⟨hg5.cell q4.c1 nb,(World.frozen?_of_block (hg5.block b q4.lt nb)).trans (q4.fz 1),v',q4.nd (fun k hk=>G5 HF k (by have:=hb4.size;have:=(G5 CU6).size;have hk2:w4.heap.size+1<=k:=(by simpa using hk);omega)) hg5 ho5 hl5,?_,tx7.c3⟩;exact((((Touch.of_below (G5 CU6)).trans (Touch.of_below hb4)).trans (Touch.of_below (G7 _ _))).trans (Touch.VG hg5 (fun k e=>by cases e;exact hFg))).trans (Touch.set q4.fb _)
  have HK2:=G6 K2;have HRP:=G6 (fun W (hs:w.heap.size<=W.heap.size) v5 (g5:Grow W F b z v5 vs ve (A++(⟨xp,xd,xz,xz,xz,0,0,xw,0⟩:Nd)::B) ss es)=>iL F b z v5 vs ve _ ss es 1 xp W g5 (fun k hk=>G5 HF k (by omega)) hp (by omega));clear K2
  go_upto_block 0 with fail
  go_cut [11]from 12 (fun t11 wx=>t11=.bool true/\w3=wx)
  case first=>
   clear CCp KI HK2 K1 HRP HP HCS HCG HKX HTX A33 HG HG1 HG2 HF HB0 HB1 HB2;rcases hw with hw|hw
   .have hb1:(xw !=0)=false:=by simpa using hw
    clear hw;go_wp2_with fail
    go_meet
    exact⟨rfl,rfl⟩
   .by_cases hw0:xw=0
    .have hb1:(xw !=0)=false:=by simpa using hw0
     clear hw hw0;go_wp2_with fail
     go_meet
     exact⟨rfl,rfl⟩
    .have hb1:(xw !=0)=true:=by simpa using hw0
     have hb2:(xw !=xs)=false:=by simpa using hw
     clear hw hw0;go_wp2_with fail
     go_meet
     exact⟨rfl,rfl⟩
  case rest=>
   obtain⟨rfl,h33⟩:=hcut;subst h33;clear hw r7 hfb;go_upto_region 14 with fail
   go_cut [12]from 13 (fun t12 wx=>t12=.pointer (FZ ⟨w3.heap.size,0,FX⟩)/\wx=W1)
   case first=>
    clear CCp KI HK2 K1 HRP;go_wp2_with fail
    go_meet
    exact⟨rfl,G5 HW1⟩
   case rest=>
    obtain⟨rfl,hwc⟩:=hcut;have hwc:=hwc.symm;subst hwc;clear f1 y0 y2 y3 y4 y6;go_upto_region 15 with fail
    go_cut [12]from 13 (fun t12 wx=>t12=.pointer (FZ ⟨w3.heap.size,0,FX⟩)/\Hid (CreQ F b z vs ve (A++(⟨xp,xd,xz,xz,xz,0,0,xw,0⟩:Nd)::B) ss es w xp wx))
    case first=>
     clear HRP HP HCS HCG HKX HTX A33 HG HG1 HG2 HE HO HF HB0 HB1 HB2;have K0:=G6 (fun V (hV:B0 W1 V)=>(G5 K1 V hV).1);have HKB:=G6 (fun(V:World) (h1:V.heap[w.heap.size]?=W1.heap[w.heap.size]?) (h2:V.heap[w3.heap.size]?=W1.heap[w3.heap.size]?)=>B18 (h1.trans (G5 HTS)) (h2.trans (G5 HST)));have hzw:=(G5 HTS).lt;have hg3:g<w3.heap.size:=Nat.lt_of_lt_of_le hgl (G5 HB3).size;have hb3:b<w3.heap.size:=Nat.lt_of_lt_of_le hbl (G5 HB3).size;have hbz:w.heap.size≠b:=by omega
     have HKG:=G6 (fun(w4 w5:World) (h4:B0 W1 w4) (h5:(w4.alloc (FT #[S0 xp,S0 xd,I0 xz,I0 xz,I0 xz,I0 0,I0 0,I0 xw,I0 0] 49)).grownBy w5 (FZ g))=>
      have hs4:=h4.size;have e1:w5.heap[w.heap.size]?=W1.heap[w.heap.size]? :=(h5.block _ (by simp;omega) (fun e=>hgz (BN e).symm)).trans (((G7 w4 (FT #[S0 xp,S0 xd,I0 xz,I0 xz,I0 xz,I0 0,I0 0,I0 xw,I0 0] 49)).block _ (by omega)).trans (h4.block _ hzw));have e2:w5.heap[w3.heap.size]?=W1.heap[w3.heap.size]? :=(h5.block _ (by simp;omega) (fun e=>by have:=BN e;omega)).trans (((G7 w4 (FT #[S0 xp,S0 xd,I0 xz,I0 xz,I0 xz,I0 0,I0 0,I0 xw,I0 0] 49)).block _ (by omega)).trans (h4.block _ hz3))
      And.intro (G5 HKB w5 e1 e2) (fun v=>G5 HKB _ ((BF w5 ⟨b,1,FX⟩ v _ hbz).trans e1) ((BF w5 ⟨b,1,FX⟩ v _ (Nat.ne_of_gt hb3)).trans e2)))
     have HKS:=G6 (fun(V:World) (hV:B0 W1 V)=>G5 HKB V (hV.block _ hzw) (hV.block _ hz3));clear HKB f1s y3s y4s;generalize w3.heap.size=sz at*;have hS0:=G5 HKS _ (AA W1.heap.size W1).drew;refine wp_region_held (S:=fun V:World=>V.cell? ⟨w.heap.size,3,FX⟩=FZ (S0 xp)/\V.cell? ⟨w.heap.size,4,FX⟩=FZ (S0 xd)/\V.cell? ⟨sz,0,FX⟩=FZ (I0 xz)/\V.cell? ⟨sz,1,FX⟩=FZ (I0 xz)/\V.cell? ⟨sz,2,FX⟩=FZ (I0 xz)/\V.cell? ⟨sz,3,FX⟩=FZ (I0 0)/\V.cell? ⟨sz,4,FX⟩=FZ (I0 0)/\V.cell? ⟨sz,5,FX⟩=FZ (I0 xw)/\V.cell? ⟨sz,6,FX⟩=FZ (I0 0)) (by kernel_rfl) ?_;change wpAnyH _ _ _ _ _ _ _ _ W1.drew;refine tkH 0 hS0 ?_;refine tkH 1 hS0 ?_;refine tkH 2 hS0 ?_;refine tkH 3 hS0 ?_;refine tkH 4 hS0 ?_;refine tkH 6 hS0 ?_;refine tkH 7 hS0 ?_;refine tkH 8 hS0 ?_;refine tkH 9 hS0 ?_;refine tkH 10 hS0 ?_;refine tkH 11 hS0 ?_;refine tkH 12 hS0 ?_;refine rd2 5 13 (fun K hK=>?_) (fun K hK=>?_)
     .have d3:=G5 K0 _ (AA W1.heap.size W1).drew;go_simp;clear d3;refine nxH hK hS0 ?_;clear hK K;refine rd1 13 (fun K hK=>?_);go_simp;refine(CCp _).mono ?_;rintro e w4 ⟨rfl,hb4⟩;have HB4:Hid (B0 W1 w4):=G6 (G8 (AA W1.heap.size W1).drew hb4);have hS1:=G5 HKS _ (G5 HB4);clear hb4;refine nxH hK hS1 ?_;clear hK K;refine rd1 14 (fun K hK=>?_);go_simp;have hS2:=G5 HKS _ (G8 (G5 HB4) (G7 w4 (FT #[S0 xp,S0 xd,I0 xz,I0 xz,I0 xz,I0 0,I0 0,I0 xw,I0 0] 49)));refine nxH hK hS2 ?_;clear hK K;refine rd1 15 (fun K hK=>?_);go_simp;refine(G5 KI w4 (G5 HB4)).mono ?_;rintro e w5 ⟨v5,rfl,ho5,hg5,hl5⟩;obtain⟨m1,l1,q5⟩:=G5 HK2 w4 w5 v5 (G5 HB4) ho5 hg5 hl5;have HQ5:=G6 q5;have HM5:=G6 (And.intro m1 l1);have HS5:=G6 (G5 HKG w4 w5 (G5 HB4) hg5);have hS3:=(G5 HS5).1;obtain⟨va,vL,vc,rfl⟩:∃va vL vc,v5=FQ va vL vc:=by
       obtain⟨va,vc,h,_⟩:=ho5.slice;exact⟨_,_,_,h⟩
      clear ho5 hg5 hl5 q5 m1 l1;refine nxH hK hS3 ?_;clear hK K;refine tkH 16 hS3 ?_;refine tkH 17 hS3 ?_;refine tkH 18 hS3 ?_;refine rd1 19 (fun K hK=>?_);have m1:=(G5 HM5).1;have l1:=(G5 HM5).2;go_simp;have hS4:=(G5 HS5).2 (FQ va vL vc);clear m1 l1;refine nxH hK hS4 ?_;clear hK K;refine wpAnyH_done (by kernel_rfl) ?_ _;go_wp2_with fail
      go_meet
      exact⟨rfl,HQ5⟩
     .go_simp;refine(CCp _).mono ?_;rintro e w4 ⟨rfl,hb4⟩;have HB4:Hid (B0 W1 w4):=G6 (G8 (AA W1.heap.size W1).drew hb4);have hS1:=G5 HKS _ (G5 HB4);clear hb4;refine nxH hK hS1 ?_;clear hK K;refine rd2 5 14 (fun K hK=>?_) (fun K hK=>?_)
      .have d3:=(G5 K1 w4 (G5 HB4)).1;go_simp;clear d3;refine nxH hK hS1 ?_;clear hK K;refine rd1 14 (fun K hK=>?_);go_simp;have hS2:=G5 HKS _ (G8 (G5 HB4) (G7 w4 (FT #[S0 xp,S0 xd,I0 xz,I0 xz,I0 xz,I0 0,I0 0,I0 xw,I0 0] 49)));refine nxH hK hS2 ?_;clear hK K;refine rd1 15 (fun K hK=>?_);go_simp;refine(G5 KI w4 (G5 HB4)).mono ?_;rintro e w5 ⟨v5,rfl,ho5,hg5,hl5⟩;obtain⟨m1,l1,q5⟩:=G5 HK2 w4 w5 v5 (G5 HB4) ho5 hg5 hl5;have HQ5:=G6 q5;have HM5:=G6 (And.intro m1 l1);have HS5:=G6 (G5 HKG w4 w5 (G5 HB4) hg5);have hS3:=(G5 HS5).1;obtain⟨va,vL,vc,rfl⟩:∃va vL vc,v5=FQ va vL vc:=by
        obtain⟨va,vc,h,_⟩:=ho5.slice;exact⟨_,_,_,h⟩
       clear ho5 hg5 hl5 q5 m1 l1;refine nxH hK hS3 ?_;clear hK K;refine tkH 16 hS3 ?_;refine tkH 17 hS3 ?_;refine tkH 18 hS3 ?_;refine rd1 19 (fun K hK=>?_);have m1:=(G5 HM5).1;have l1:=(G5 HM5).2;go_simp;have hS4:=(G5 HS5).2 (FQ va vL vc);clear m1 l1;refine nxH hK hS4 ?_;clear hK K;refine wpAnyH_done (by kernel_rfl) ?_ _;go_wp2_with fail
       go_meet
       exact⟨rfl,HQ5⟩
      .go_simp;have hS2:=G5 HKS _ (G8 (G5 HB4) (G7 w4 (FT #[S0 xp,S0 xd,I0 xz,I0 xz,I0 xz,I0 0,I0 0,I0 xw,I0 0] 49)));refine nxH hK hS2 ?_;clear hK K;refine rd1 5 (fun K hK=>?_);have d3:=(G5 K1 w4 (G5 HB4)).2;go_simp;clear d3;refine nxH hK hS2 ?_;clear hK K;refine rd1 15 (fun K hK=>?_);go_simp;refine(G5 KI w4 (G5 HB4)).mono ?_;rintro e w5 ⟨v5,rfl,ho5,hg5,hl5⟩;obtain⟨m1,l1,q5⟩:=G5 HK2 w4 w5 v5 (G5 HB4) ho5 hg5 hl5;have HQ5:=G6 q5;have HM5:=G6 (And.intro m1 l1);have HS5:=G6 (G5 HKG w4 w5 (G5 HB4) hg5);have hS3:=(G5 HS5).1;obtain⟨va,vL,vc,rfl⟩:∃va vL vc,v5=FQ va vL vc:=by
        obtain⟨va,vc,h,_⟩:=ho5.slice;exact⟨_,_,_,h⟩
       clear ho5 hg5 hl5 q5 m1 l1;refine nxH hK hS3 ?_;clear hK K;refine tkH 16 hS3 ?_;refine tkH 17 hS3 ?_;refine tkH 18 hS3 ?_;refine rd1 19 (fun K hK=>?_);have m1:=(G5 HM5).1;have l1:=(G5 HM5).2;go_simp;have hS4:=(G5 HS5).2 (FQ va vL vc);clear m1 l1;refine nxH hK hS4 ?_;clear hK K;refine wpAnyH_done (by kernel_rfl) ?_ _;go_wp2_with fail
       go_meet
       exact⟨rfl,HQ5⟩
    case rest=>
     obtain⟨rfl,hq⟩:=hcut;obtain⟨v5,g5,t5,m3⟩:=G5 hq;have HG5:=G6 g5;have HT5:=G6 t5;clear g5 t5 hq CCp KI HK2 K1;go_wp2_with fail;refine(G5 HRP _ (G5 HT5).size _ (G5 HG5)).mono ?_;rintro e w6 ⟨rfl,ve',g6,t6⟩;have HG6:=G6 g6;have HT6:=G6 ((G5 HT5).trans t6);clear g6 t6 m3;go_wp2_with fail;refine(G5 HP _ _ _ (G5 HG6) (G5 HT6).size (G5 HT6)).mono ?_;rintro e w7 ⟨rfl,hp7⟩;have HP7:=G6 hp7;clear hp7;go_wp2_with fail;go_ret;exact⟨rfl,G5 HP7⟩
