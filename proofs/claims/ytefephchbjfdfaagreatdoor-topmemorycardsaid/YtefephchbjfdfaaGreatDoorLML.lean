/-
  Part.
-/
import Derived.Test.YtefephchbjfdfaaGreatDoorLMK
import Derived.Test.YtefephchbjfdfaaGreatDoorLMB
set_option maxRecDepth 20000
set_option maxHeartbeats 8000000
namespace Go.Proofs.YtefephchbjfdfaaGreatDoor
open Go.RowKit Go.Proofs.Tryz
open Go.RowKit.Below renaming refl->AB,heap_setCell->BG
open _root_.Option.some renaming inj->BQ
open Go.Value renaming slice->FV
open Go.Obj renaming cells->FW
open _root_.Option renaming none->G6,some->G8
def CreQ(F:Nat->Prop)(b:Nat)(z:Int)(vs ve:Value)(ns:List Nd)(ss:List Int)(es:List Ev)(w:World)(xp:List UInt8)(wx:World):Prop:=
 ∃v5,Grow wx F b z v5 vs ve ns ss es/\Touch F w wx/\wx.cell? ⟨w.heap.size,3,G6⟩=G8 (S0 xp)
theorem B14{V:World}{n sz:Nat}{xz xo xs xv xw:Int}{xp xd:List UInt8}(h:TAt V n ⟨xz,xo,xs,xp,xd,xv,xw⟩)(h2:V.heap[sz]?=G8 (FW #[I0 xz,I0 xz,I0 xz,I0 0,I0 0,I0 xw,I0 0] 33 (0,0))):V.cell? ⟨n,3,G6⟩=G8 (S0 xp)/\V.cell? ⟨n,4,G6⟩=G8 (S0 xd)/\V.cell? ⟨sz,0,G6⟩=G8 (I0 xz)/\V.cell? ⟨sz,1,G6⟩=G8 (I0 xz)/\V.cell? ⟨sz,2,G6⟩=G8 (I0 xz)/\V.cell? ⟨sz,3,G6⟩=G8 (I0 0)/\V.cell? ⟨sz,4,G6⟩=G8 (I0 0)/\V.cell? ⟨sz,5,G6⟩=G8 (I0 xw)/\V.cell? ⟨sz,6,G6⟩=G8 (I0 0):=by
 refine⟨h.c3,h.c4,?_⟩;unfold World.cell?;simp only[h2];exact⟨rfl,rfl,rfl,rfl,rfl,rfl,rfl⟩
theorem AB0(F:Nat->Prop)(b:Nat)(z:Int)(vn vs ve:Value)(ns:List Nd)(A B A' B':List Nd)(u:Nd)(E:Int)(Post:World->Prop)(ss:List Int)(es:List Ev)(x:GV)(w:World)
  (h:Grow w F b z vn vs ve ns ss es) (hF:∀k,w.heap.size<=k->F k) (G:nJ ns A B x.p) (U:KL ns A' u B' (IL x.p)) (hl:ns.length<=400) (ho:u.o=0) (hw:x.w=0\/x.w=x.s) (hf:ns.length<400) (hp:x.p.length<=140737488355328) (hd:x.d.length<=140737488355328) (hes:es.length<=99998)
  (hpar:∀W vn' ve',Grow W F b z vn' vs ve' (A++A84 x::B) ss (es++[⟨1,x.p⟩])->w.heap.size<=W.heap.size->Touch F w W->Calls prog 226 #[P0 b,S0 (IL x.p),I0 1] W fun e w'=>e=.returned (I0 E)/\Post w'):
  Calls prog 199 #[P0 b,JC x] w fun e w'=>e=.returned (I0 E)/\Post w':=by
 obtain⟨xz,xo,xs,xp,xd,xv,xw⟩:=x;simp only at G U hp hd hpar hw;have CF:=fun W (hW:B0 w W)=>NV vn ns A B xp W (h.n.next hW).seq (by omega) G;have HCS:=GH (fun W=>NU xp W);have HCG:=GH (fun W (hW:B0 w W)=>JY vn ns A' B' u (IL xp) W (h.n.next hW).seq (by omega) U);have KX:∀w1,Below (w.alloc (FW #[I0 xz,I0 xo,I0 xs,S0 xp,S0 xd,I0 xv,I0 xw] 59)).heap.size (w.alloc (FW #[I0 xz,I0 xo,I0 xs,S0 xp,S0 xd,I0 xv,I0 xw] 59)) w1->TAt w1 w.heap.size ⟨xz,xo,xs,xp,xd,xv,xw⟩:=fun w1 h1=>(TAt.new w ⟨xz,xo,xs,xp,xd,xv,xw⟩).next h1;have HKX:=GH KX;have c1:=h.c1;have hbl:=h.lt;obtain⟨g,cap,rfl,hr,hgb,hFg⟩:=h.iG (by rw[U.eq];simp);have HG:=GH h;have HE:=GH U.eq;have hlt:A'.length<ns.length:=by rw[U.eq];simp
 have hfb:((ns.length:Int)==400)=false:=by simp;omega
 have HO:=GH ho;have HGE:=GH G.eq;have HF:=GH hF;have HP:=GH hpar;have hgl:=hr.lt;have CCp:=fun W=>ZM (⟨xp,xd,xz,xz,xz,0,0,xw,0⟩:Nd) W hp hd;unfold U8 at CCp;simp only at CCp;clear h G U KX ho hr hF hpar hf;unfold JC;go_enter func199,ntmps199;go_upto_region 1 with fail
 go_cut [5,6]from 13 (fun t5 t6 wx=>t5=I0 A.length/\t6=.bool false/\Hid (Below (w.alloc (FW #[I0 xz,I0 xo,I0 xs,S0 xp,S0 xd,I0 xv,I0 xw] 59)).heap.size (w.alloc (FW #[I0 xz,I0 xo,I0 xs,S0 xp,S0 xd,I0 xv,I0 xw] 59)) wx))
 case first=>
  clear HCS HCG HKX HG HP HF CCp
  go_region_law (first
   |(go_simp;refine(CF _ (by first|exact((AB w.heap.size w).alloc (Nat.le_refl _) _).drew|exact(AB w.heap.size w).alloc (Nat.le_refl _) _)).mono ?_;rintro e w1 ⟨rfl,hb1⟩;have HBd:=GH hb1;clear hb1))
  all_goals go_wp2_with fail
  all_goals go_meet
  all_goals exact⟨rfl,rfl,GH (IG (G9 HBd))⟩
 case rest=>
  obtain⟨rfl,rfl,HB0⟩:=hcut;clear CF;have HB1:=GH (H7 (G9 HB0));have tx:=G9 HKX wc (G9 HB0);have t3:=tx.c3;have HTX:=GH tx;have g1:=(G9 HG).next (G9 HB1);have HG1:=GH g1;clear g1 tx c1;go_wp2_with fail;refine(G9 HCS _).mono ?_;rintro e w2 ⟨rfl,hb2⟩;have HB2:=GH (GK (G9 HB1) hb2);have tx2:=(G9 HTX).next hb2;have g2:=(G9 HG1).next hb2;have e1:=g2.c1;have A21:=GH tx2;have HG2:=GH g2;clear tx2 g2 hb2 t3;go_wp2_with fail;refine(G9 HCG _ (G9 HB2)).mono ?_;rintro e w3 ⟨rfl,hb3⟩;have HB3:=GH (GK (G9 HB2) hb3);have tx3:=(G9 A21).next hb3;have g3:=(G9 HG2).next hb3;have f1:=g3.c1;have y0:=tx3.c0;have y2:=tx3.c2;have y3:=tx3.c3;have y4:=tx3.c4;have y6:=tx3.c6;obtain⟨g',cap',he,hr,_,_⟩:=g3.iG (by rw[G9 HE];simp);simp only[Value.slice.injEq,Option.some.injEq,Addr.mk.injEq,and_true]at he;obtain⟨rfl,_,rfl⟩:=he;have r7:=hr.row.n7 (i:=A'.length) (x:=u) (by rw[G9 HE];exact UQ A' u B');rw[Nat.zero_add]at r7;have CF4:=GH tx3;have HG3:=GH g3;clear g3 tx3 hr e1 hb3;rw[G9 HO]at r7;have hgz:g≠w.heap.size:=by omega
  have hsz3:=(G9 HB3).size;have hszx:=(G9 CF4).lt;have HGS:=GH ((G9 HG3).next (GI w3 (FW #[I0 xz,I0 xz,I0 xz,I0 0,I0 0,I0 xw,I0 0] 33)));have HTS:=GH ((G9 CF4).next (GI w3 (FW #[I0 xz,I0 xz,I0 xz,I0 0,I0 0,I0 xw,I0 0] 33)));have f1s:=(G9 HGS).c1;have y3s:=(G9 HTS).c3;have y4s:=(G9 HTS).c4;have hbs:=(G9 HGS).lt;have CU5:=GH (GK (G9 HB3) (GI w3 (FW #[I0 xz,I0 xz,I0 xz,I0 0,I0 0,I0 xw,I0 0] 33)));have hst:=heap_alloc_new w3 (FW #[I0 xz,I0 xz,I0 xz,I0 0,I0 0,I0 xw,I0 0] 33);have hz3:w3.heap.size<(w3.alloc (FW #[I0 xz,I0 xz,I0 xz,I0 0,I0 0,I0 xw,I0 0] 33)).heap.size:=by simp
  generalize hW1:w3.alloc (FW #[I0 xz,I0 xz,I0 xz,I0 0,I0 0,I0 xw,I0 0] 33)=W1 at*;have HW1:=GH hW1;have HST:=GH hst;clear hW1 hst;have K1:=GH (fun w4 (hb4:B0 W1 w4)=>(⟨((G9 HGS).next hb4).c1,(((G9 HGS).next hb4).next (GI w4 (FW #[S0 xp,S0 xd,I0 xz,I0 xz,I0 xz,I0 0,I0 0,I0 xw,I0 0] 61))).c1⟩:w4.cell? ⟨b,1,G6⟩=G8 (FV (G8 ⟨g,0,G6⟩) ns.length cap)/\(w4.alloc (FW #[S0 xp,S0 xd,I0 xz,I0 xz,I0 xz,I0 0,I0 0,I0 xw,I0 0] 61)).cell? ⟨b,1,G6⟩=G8 (FV (G8 ⟨g,0,G6⟩) ns.length cap)));have KI:=GH (fun w4 (hb4:B0 W1 w4)=>A12 (FV (G8 ⟨g,0,G6⟩) ns.length cap) A B (⟨xp,xd,xz,xz,xz,0,0,xw,0⟩:Nd) w4.heap.size (w4.alloc (FW #[S0 xp,S0 xd,I0 xz,I0 xz,I0 xz,I0 0,I0 0,I0 xw,I0 0] 61)) (by have:=(((G9 HGS).next hb4).next (GI w4 (FW #[S0 xp,S0 xd,I0 xz,I0 xz,I0 xz,I0 0,I0 0,I0 xw,I0 0] 61))).n;rw[G9 HGE]at this⊢;exact this) (by rw[<-G9 HGE];exact hl) (rG w4 (⟨xp,xd,xz,xz,xz,0,0,xw,0⟩:Nd)) (by intro e;have h1:=BQ e;have h2:=hb4.size;have h3:=(G9 CU5).size;simp only at h1;omega));have K2:∀ (w4 w5:World) (v':Value),B0 W1 w4->I5 w5 0 v' (A++(⟨xp,xd,xz,xz,xz,0,0,xw,0⟩:Nd)::B)->(w4.alloc (FW #[S0 xp,S0 xd,I0 xz,I0 xz,I0 xz,I0 0,I0 0,I0 xw,I0 0] 61)).grownBy w5 (G8 g)->(v'.ownBlock=G8 g\/∃k,(w4.alloc (FW #[S0 xp,S0 xd,I0 xz,I0 xz,I0 xz,I0 0,I0 0,I0 xw,I0 0] 61)).heap.size<=k/\v'.ownBlock=G8 k)->
    w5.cell? ⟨b,1,G6⟩=G8 (FV (G8 ⟨g,0,G6⟩) ns.length cap)/\w5.frozen? ⟨b,1,G6⟩=false/\CreQ F b z vs ve (A++(⟨xp,xd,xz,xz,xz,0,0,xw,0⟩:Nd)::B) ss es w xp (w5.setCell ⟨b,1,G6⟩ v'):=by
   intro w4 w5 v' hb4 ho5 hg5 hl5;have q4:=((G9 HGS).next hb4).next (GI w4 (FW #[S0 xp,S0 xd,I0 xz,I0 xz,I0 xz,I0 0,I0 0,I0 xw,I0 0] 61));have tx5:=((G9 HTS).next hb4).next (GI w4 (FW #[S0 xp,S0 xd,I0 xz,I0 xz,I0 xz,I0 0,I0 0,I0 xw,I0 0] 61));have nb:¬G8 b=G8 g:=fun e=>hgb (BQ e).symm;have tx6:TAt w5 w.heap.size ⟨xz,xo,xs,xp,xd,xv,xw⟩:=(hg5.block _ tx5.lt (fun e=>hgz (BQ e).symm)).trans tx5;have hbz:w.heap.size≠b:=by omega
   have tx7:TAt (w5.setCell ⟨b,1,G6⟩ v') w.heap.size ⟨xz,xo,xs,xp,xd,xv,xw⟩:=(BG w5 ⟨b,1,G6⟩ v' _ hbz).trans tx6;refine⟨hg5.cell q4.c1 nb,(World.frozen?_of_block (hg5.block b q4.lt nb)).trans (q4.fz 1),v',q4.nd (fun k hk=>G9 HF k (by have:=hb4.size;have:=(G9 CU5).size;have hk2:w4.heap.size+1<=k:=(by simpa using hk);omega)) hg5 ho5 hl5,?_,tx7.c3⟩;exact((((Touch.of_below (G9 CU5)).trans (Touch.of_below hb4)).trans (Touch.of_below (GI _ _))).trans (Touch.VI hg5 (fun k e=>by cases e;exact hFg))).trans (Touch.set q4.fb _)
  have HK2:=GH K2;have HRP:=GH (fun W (hs:w.heap.size<=W.heap.size) v5 (g5:Grow W F b z v5 vs ve (A++(⟨xp,xd,xz,xz,xz,0,0,xw,0⟩:Nd)::B) ss es)=>iH F b z v5 vs ve _ ss es 1 xp W g5 (fun k hk=>G9 HF k (by omega)) hp (by omega));clear K2
  go_upto_block 0 with fail
  go_cut [11]from 12 (fun t11 wx=>t11=.bool true/\w3=wx)
  case first=>
   clear CCp KI HK2 K1 HRP HP HCS HCG HKX HTX A21 HG HG1 HG2 HF HB0 HB1 HB2;rcases hw with hw|hw
   .have hb1:(xw !=0)=false:=by simpa using hw
    clear hw;go_wp2_with fail
    go_meet
    exact⟨rfl,rfl⟩
   .by_cases hw0:xw=0
    .have hb1:(xw !=0)=false:=by simpa using hw0
     clear hw hw0;go_wp2_with fail
     go_meet
     exact⟨rfl,rfl⟩
    .have hb1:(xw !=0)=true:=by simpa using hw0
     have hb2:(xw !=xs)=false:=by simpa using hw
     clear hw hw0;go_wp2_with fail
     go_meet
     exact⟨rfl,rfl⟩
  case rest=>
   obtain⟨rfl,h33⟩:=hcut;subst h33;clear hw r7 hfb;go_upto_region 14 with fail
   go_cut [12]from 13 (fun t12 wx=>t12=.pointer (G8 ⟨w3.heap.size,0,G6⟩)/\wx=W1)
   case first=>
    clear CCp KI HK2 K1 HRP;go_wp2_with fail
    go_meet
    exact⟨rfl,G9 HW1⟩
   case rest=>
    obtain⟨rfl,hwc⟩:=hcut;have hwc:=hwc.symm;subst hwc;clear f1 y0 y2 y3 y4 y6;go_upto_region 15 with fail
    go_cut [12]from 13 (fun t12 wx=>t12=.pointer (G8 ⟨w3.heap.size,0,G6⟩)/\Hid (CreQ F b z vs ve (A++(⟨xp,xd,xz,xz,xz,0,0,xw,0⟩:Nd)::B) ss es w xp wx))
    case first=>
     clear HRP HP HCS HCG HKX HTX A21 HG HG1 HG2 HE HO HF HB0 HB1 HB2;have K0:=GH (fun V (hV:B0 W1 V)=>(G9 K1 V hV).1);have HKB:=GH (fun(V:World) (h1:V.heap[w.heap.size]?=W1.heap[w.heap.size]?) (h2:V.heap[w3.heap.size]?=W1.heap[w3.heap.size]?)=>B14 (h1.trans (G9 HTS)) (h2.trans (G9 HST)));have hzw:=(G9 HTS).lt;have hg3:g<w3.heap.size:=Nat.lt_of_lt_of_le hgl (G9 HB3).size;have hb3:b<w3.heap.size:=Nat.lt_of_lt_of_le hbl (G9 HB3).size;have hbz:w.heap.size≠b:=by omega
     have HKG:=GH (fun(w4 w5:World) (h4:B0 W1 w4) (h5:(w4.alloc (FW #[S0 xp,S0 xd,I0 xz,I0 xz,I0 xz,I0 0,I0 0,I0 xw,I0 0] 61)).grownBy w5 (G8 g))=>
      have hs4:=h4.size;have e1:w5.heap[w.heap.size]?=W1.heap[w.heap.size]? :=(h5.block _ (by simp;omega) (fun e=>hgz (BQ e).symm)).trans (((GI w4 (FW #[S0 xp,S0 xd,I0 xz,I0 xz,I0 xz,I0 0,I0 0,I0 xw,I0 0] 61)).block _ (by omega)).trans (h4.block _ hzw));have e2:w5.heap[w3.heap.size]?=W1.heap[w3.heap.size]? :=(h5.block _ (by simp;omega) (fun e=>by have:=BQ e;omega)).trans (((GI w4 (FW #[S0 xp,S0 xd,I0 xz,I0 xz,I0 xz,I0 0,I0 0,I0 xw,I0 0] 61)).block _ (by omega)).trans (h4.block _ hz3))
      And.intro (G9 HKB w5 e1 e2) (fun v=>G9 HKB _ ((BG w5 ⟨b,1,G6⟩ v _ hbz).trans e1) ((BG w5 ⟨b,1,G6⟩ v _ (Nat.ne_of_gt hb3)).trans e2)))
     have HKS:=GH (fun(V:World) (hV:B0 W1 V)=>G9 HKB V (hV.block _ hzw) (hV.block _ hz3));clear HKB f1s y3s y4s;generalize w3.heap.size=sz at*;have hS0:=G9 HKS _ (AB W1.heap.size W1).drew;refine wp_region_held (S:=fun V:World=>V.cell? ⟨w.heap.size,3,G6⟩=G8 (S0 xp)/\V.cell? ⟨w.heap.size,4,G6⟩=G8 (S0 xd)/\V.cell? ⟨sz,0,G6⟩=G8 (I0 xz)/\V.cell? ⟨sz,1,G6⟩=G8 (I0 xz)/\V.cell? ⟨sz,2,G6⟩=G8 (I0 xz)/\V.cell? ⟨sz,3,G6⟩=G8 (I0 0)/\V.cell? ⟨sz,4,G6⟩=G8 (I0 0)/\V.cell? ⟨sz,5,G6⟩=G8 (I0 xw)/\V.cell? ⟨sz,6,G6⟩=G8 (I0 0)) (by kernel_rfl) ?_;change wpAnyH _ _ _ _ _ _ _ _ W1.drew;refine tkH 0 hS0 ?_;refine tkH 1 hS0 ?_;refine tkH 2 hS0 ?_;refine tkH 3 hS0 ?_;refine tkH 4 hS0 ?_;refine tkH 6 hS0 ?_;refine tkH 7 hS0 ?_;refine tkH 8 hS0 ?_;refine tkH 9 hS0 ?_;refine tkH 10 hS0 ?_;refine tkH 11 hS0 ?_;refine tkH 12 hS0 ?_;refine rd2 5 13 (fun K hK=>?_) (fun K hK=>?_)
     .have d3:=G9 K0 _ (AB W1.heap.size W1).drew;go_simp;clear d3;refine nxH hK hS0 ?_;clear hK K;refine rd1 13 (fun K hK=>?_);go_simp;refine(CCp _).mono ?_;rintro e w4 ⟨rfl,hb4⟩;have HB4:Hid (B0 W1 w4):=GH (GK (AB W1.heap.size W1).drew hb4);have hS1:=G9 HKS _ (G9 HB4);clear hb4;refine nxH hK hS1 ?_;clear hK K;refine rd1 14 (fun K hK=>?_);go_simp;have hS2:=G9 HKS _ (GK (G9 HB4) (GI w4 (FW #[S0 xp,S0 xd,I0 xz,I0 xz,I0 xz,I0 0,I0 0,I0 xw,I0 0] 61)));refine nxH hK hS2 ?_;clear hK K;refine rd1 15 (fun K hK=>?_);go_simp;refine(G9 KI w4 (G9 HB4)).mono ?_;rintro e w5 ⟨v5,rfl,ho5,hg5,hl5⟩;obtain⟨m1,l1,q5⟩:=G9 HK2 w4 w5 v5 (G9 HB4) ho5 hg5 hl5;have HQ5:=GH q5;have HM5:=GH (And.intro m1 l1);have HS5:=GH (G9 HKG w4 w5 (G9 HB4) hg5);have hS3:=(G9 HS5).1;obtain⟨va,vL,vc,rfl⟩:∃va vL vc,v5=FV va vL vc:=by
       obtain⟨va,vc,h,_⟩:=ho5.slice;exact⟨_,_,_,h⟩
      clear ho5 hg5 hl5 q5 m1 l1;refine nxH hK hS3 ?_;clear hK K;refine tkH 16 hS3 ?_;refine tkH 17 hS3 ?_;refine tkH 18 hS3 ?_;refine rd1 19 (fun K hK=>?_);have m1:=(G9 HM5).1;have l1:=(G9 HM5).2;go_simp;have hS4:=(G9 HS5).2 (FV va vL vc);clear m1 l1;refine nxH hK hS4 ?_;clear hK K;refine wpAnyH_done (by kernel_rfl) ?_ _;go_wp2_with fail
      go_meet
      exact⟨rfl,HQ5⟩
     .go_simp;refine(CCp _).mono ?_;rintro e w4 ⟨rfl,hb4⟩;have HB4:Hid (B0 W1 w4):=GH (GK (AB W1.heap.size W1).drew hb4);have hS1:=G9 HKS _ (G9 HB4);clear hb4;refine nxH hK hS1 ?_;clear hK K;refine rd2 5 14 (fun K hK=>?_) (fun K hK=>?_)
      .have d3:=(G9 K1 w4 (G9 HB4)).1;go_simp;clear d3;refine nxH hK hS1 ?_;clear hK K;refine rd1 14 (fun K hK=>?_);go_simp;have hS2:=G9 HKS _ (GK (G9 HB4) (GI w4 (FW #[S0 xp,S0 xd,I0 xz,I0 xz,I0 xz,I0 0,I0 0,I0 xw,I0 0] 61)));refine nxH hK hS2 ?_;clear hK K;refine rd1 15 (fun K hK=>?_);go_simp;refine(G9 KI w4 (G9 HB4)).mono ?_;rintro e w5 ⟨v5,rfl,ho5,hg5,hl5⟩;obtain⟨m1,l1,q5⟩:=G9 HK2 w4 w5 v5 (G9 HB4) ho5 hg5 hl5;have HQ5:=GH q5;have HM5:=GH (And.intro m1 l1);have HS5:=GH (G9 HKG w4 w5 (G9 HB4) hg5);have hS3:=(G9 HS5).1;obtain⟨va,vL,vc,rfl⟩:∃va vL vc,v5=FV va vL vc:=by
        obtain⟨va,vc,h,_⟩:=ho5.slice;exact⟨_,_,_,h⟩
       clear ho5 hg5 hl5 q5 m1 l1;refine nxH hK hS3 ?_;clear hK K;refine tkH 16 hS3 ?_;refine tkH 17 hS3 ?_;refine tkH 18 hS3 ?_;refine rd1 19 (fun K hK=>?_);have m1:=(G9 HM5).1;have l1:=(G9 HM5).2;go_simp;have hS4:=(G9 HS5).2 (FV va vL vc);clear m1 l1;refine nxH hK hS4 ?_;clear hK K;refine wpAnyH_done (by kernel_rfl) ?_ _;go_wp2_with fail
       go_meet
       exact⟨rfl,HQ5⟩
      .go_simp;have hS2:=G9 HKS _ (GK (G9 HB4) (GI w4 (FW #[S0 xp,S0 xd,I0 xz,I0 xz,I0 xz,I0 0,I0 0,I0 xw,I0 0] 61)));refine nxH hK hS2 ?_;clear hK K;refine rd1 5 (fun K hK=>?_);have d3:=(G9 K1 w4 (G9 HB4)).2;go_simp;clear d3;refine nxH hK hS2 ?_;clear hK K;refine rd1 15 (fun K hK=>?_);go_simp;refine(G9 KI w4 (G9 HB4)).mono ?_;rintro e w5 ⟨v5,rfl,ho5,hg5,hl5⟩;obtain⟨m1,l1,q5⟩:=G9 HK2 w4 w5 v5 (G9 HB4) ho5 hg5 hl5;have HQ5:=GH q5;have HM5:=GH (And.intro m1 l1);have HS5:=GH (G9 HKG w4 w5 (G9 HB4) hg5);have hS3:=(G9 HS5).1;obtain⟨va,vL,vc,rfl⟩:∃va vL vc,v5=FV va vL vc:=by
        obtain⟨va,vc,h,_⟩:=ho5.slice;exact⟨_,_,_,h⟩
       clear ho5 hg5 hl5 q5 m1 l1;refine nxH hK hS3 ?_;clear hK K;refine tkH 16 hS3 ?_;refine tkH 17 hS3 ?_;refine tkH 18 hS3 ?_;refine rd1 19 (fun K hK=>?_);have m1:=(G9 HM5).1;have l1:=(G9 HM5).2;go_simp;have hS4:=(G9 HS5).2 (FV va vL vc);clear m1 l1;refine nxH hK hS4 ?_;clear hK K;refine wpAnyH_done (by kernel_rfl) ?_ _;go_wp2_with fail
       go_meet
       exact⟨rfl,HQ5⟩
    case rest=>
     obtain⟨rfl,hq⟩:=hcut;obtain⟨v5,g5,t5,m3⟩:=G9 hq;have HG5:=GH g5;have HT5:=GH t5;clear g5 t5 hq CCp KI HK2 K1;go_wp2_with fail;refine(G9 HRP _ (G9 HT5).size _ (G9 HG5)).mono ?_;rintro e w6 ⟨rfl,ve',g6,t6⟩;have HG6:=GH g6;have HT6:=GH ((G9 HT5).trans t6);clear g6 t6 m3;go_wp2_with fail;refine(G9 HP _ _ _ (G9 HG6) (G9 HT6).size (G9 HT6)).mono ?_;rintro e w7 ⟨rfl,hp7⟩;have HP7:=GH hp7;clear hp7;go_wp2_with fail;go_ret;exact⟨rfl,G9 HP7⟩
