/-
  Part.
-/
import Derived.Test.YtodnhndkghdinaaGreatDoorLOXWdSm
import Derived.Test.YtodnhndkghdinaaGreatDoorLOXWdPd
set_option maxRecDepth 20000
set_option maxHeartbeats 8000000
namespace Go.Proofs.YtodnhndkghdinaaGreatDoor
open Go.RowKit Go.Proofs.Tryz
structure CL0(s:Sv):Prop where
 good:PO s.fs=true
 BM2:gJ s.fs
 rcv:s.up=true→∃fs',eH 10 (fun x=>#[x]) s.fs s.ts fs' 0
 ep:s.up=true→TP s.fs=s.ep
 few:s.ts.length≤300
theorem B27{q:Pw}(h:NU q){i:Nat}(hi:i<3):CL0 (svP i (q.s i)):=by
 have ok:=(h.s i hi).more h.n1;generalize q.s i=x at ok;obtain⟨h1,h2⟩:=ok.small;by_cases hu:x.up=true
 ·have h3:=O7 x.m x.a;have hl:(BL (x.m.take x.a)).length+(BL (x.m.drop x.a)).length≤1048576:=by omega
  have gd:G9 (epD x.e++[⟨JA,BL (x.m.take x.a),BL (x.m.drop x.a)⟩]):=QZ hl;rw[DJ hu];refine⟨GI.2 gd,EN gd,fun _=>⟨_,VY (A:=epD x.e) (B:=[]) ⟨gd,ok.log,.inr ⟨_,[],XZ _ _ _,?_⟩⟩⟩,fun _=>A45 ok.zin hl,h2⟩;show Scan (BL (x.m.take x.a)++BL (x.m.drop x.a)) x.m [];rw[←FX,List.take_append_drop];exact bK ok.log
 ·have hu':x.up=false:=by simpa using hu
  obtain⟨_,_,_,hs,hq⟩:=ok.down hu';have gd:G9 (epD x.e++[⟨JA,BL x.m++x.q,[]⟩]):=QZ (by simp;omega);rw[MB hu'];exact⟨GI.2 gd,EN gd,fun h=>(by cases h),fun h=>(by cases h),Nat.zero_le _⟩
theorem AH4(p:Pw)(d:Dd)(k:Nat)(u:Value)(V:World)(h:NU p)(hx:WX V k (doP p d).2):Calls prog 7 #[wP k,ddV d,rpV (doP p d).1 u] V fun e w'=>e=.returned (.bool true)∧Below V.heap.size V w':=by
 have hw:=Z4 d h;generalize doP p d=x at*;obtain⟨r,q⟩:=x;simp only at hx hw;have B0:=AA (LB.start V d r u).b;have CS:=AA (fun W (hW:Below V.heap.size V W) b (hb:b<3)=>kG q k b W (hx.next hW) hb _ rfl ((hw.s b hb).more hw.n1).few);have HG:=AA (fun i (hi:i<3)=>B27 hw hi);clear hw hx h;unfold wP at CS;unfold wP ddV rpV;go_enter func7,ntmps7;go_upto_region 1 with fail;generalize ((V.alloc _).alloc _)=W0 at*;go_wp2_with fail
 go_loopg [7] 3 (fun kx s7 wr=>∃i:Nat,s7=.int .i64 i∧i≤3∧3-i≤kx∧Hid (Below V.heap.size V wr))
 case atStart=>exact⟨0,rfl,by omega,by omega,B0⟩
 case round=>
  obtain⟨i,rfl,hi,hg,B1⟩:=hrel;by_cases hi3:i<3
  ·have hi4:(i:Int)<3:=by omega
   have C:=AA (A8 CS _ (A8 B1) i hi3);have HT:=AA (A8 HG i hi3);generalize svP i (q.s i)=s at*;go_wp2_with fail;refine(A8 C).mono ?_;rintro e w1 ⟨ad,cd,al,cl,an,cn,ai,ci,aw,cw,rfl,hdk,hlg,_,_,_,hb1⟩;have HD:=AA (NG.1 hdk.seq);have HL:=AA (JH.1 hlg.seq);have B2:=AA (AL (A8 B1) hb1);clear hb1 hdk hlg C B1;go_upto_region 5 with fail;have X:=AA (BN.new w1 s.up s.id s.ep s.dn s.tr.z (.slice ad s.fs.length cd) (.slice al s.ts.length cl) (.slice an s.tr.ns.length cn) (.slice ai s.tr.ss.length ci) (.slice aw s.ws.length cw));have A3:=AA (AB w1 (.cells #[.bool s.up,.slice ad s.fs.length cd,.int .i64 s.id,.int .i64 s.ep,.slice al s.ts.length cl,.int .i64 s.dn,.int .i64 s.tr.z,.slice an s.tr.ns.length cn,.slice ai s.tr.ss.length ci,.slice aw s.ws.length cw] 48));generalize w1.alloc _=W3 at*;have B3:=AA (AL (A8 B2) (A8 A3));have HD3:=AA (fun V (hV:Below W3.heap.size W3 V)=>((A8 HD).next (A8 A3)).next hV);have HL3:=AA (fun V (hV:Below W3.heap.size W3 V)=>((A8 HL).next (A8 A3)).next hV);generalize w1.heap.size=g at*;have CG:=AA (OA _ s.fs W3 (A8 HD3 _ (Below.refl _ _)) (A8 HT).BM2);rw[(A8 HT).good]at CG;obtain⟨x0,x1,_,x3,x4,_,_,_,_,_⟩:=(A8 X).cells;clear HD HL A3 B2;go_wp2_with fail;refine(A8 CG).mono ?_;rintro e w4 ⟨rfl,hb4⟩;obtain⟨x0,x1,_,x3,x4,_,_,_,_,_⟩:=((A8 X).next hb4).cells;have B4:=AA hb4;clear hb4 CG;by_cases hu:s.up=true
   ·rw[hu]at x0;obtain⟨fs',hrec⟩:=(A8 HT).rcv hu;have CR:=AA (hrec _ w4 (A8 HD3 w4 (A8 B4)));have HE:=AA ((A8 HT).ep hu);clear hu hrec;go_wp2_with fail;refine(A8 CR).mono ?_;rintro e w5 ⟨a1,k1,c1,a,n,c,rfl,hl5,_,hb5⟩;have HL5:=AA hl5;have B45:=AA (AL (A8 B4) hb5);clear hb5 hl5 CR B4;go_upto_region 9 with fail;have A5:=AA (AB w5 (.cells #[.slice a n c] 38));generalize w5.alloc _=W5 at*;have B35:=AA (AL (A8 B45) (A8 A5));have B5:=AA (AL (A8 B3) (A8 B35));have HKS:Hid (∀V,Below W5.heap.size W5 V→V.cell? ⟨g,1,none⟩=some (.slice ad s.fs.length cd)∧V.cell? ⟨g,3,none⟩=some (.int .i64 s.ep)∧V.cell? ⟨g,4,none⟩=some (.slice al s.ts.length cl)):=AA fun V hV=>by
     obtain⟨_,y1,_,y3,y4,_,_,_,_,_⟩:=((A8 X).next (AL (A8 B35) hV)).cells;exact⟨y1,y3,y4⟩
    have CM:=AA (fun V (hV:Below W5.heap.size W5 V)=>C25 (.slice a1 k1 c1) (.slice al s.ts.length cl) s.ts V (by have:=(A8 HT).few;omega) (((A8 HL5).next (A8 A5)).next hV) (A8 HL3 V (AL (A8 B35) hV)));have CE:=AA (fun V (hV:Below W5.heap.size W5 V)=>jJ (.slice ad s.fs.length cd) s.fs V (A8 HD3 V (AL (A8 B35) hV)) (A8 HT).BM2);rw[A8 HE]at CE;clear B45 A5 HL5 x0 x1 x3 x4;have hS0:=A8 HKS _ (Below.refl W5.heap.size W5).drew;refine wp_region_held (S:=fun V:World=>V.cell? ⟨g,1,none⟩=some (.slice ad s.fs.length cd)∧V.cell? ⟨g,3,none⟩=some (.int .i64 s.ep)∧V.cell? ⟨g,4,none⟩=some (.slice al s.ts.length cl)) (by kernel_rfl) ?_;change wpAnyH _ _ _ _ _ _ _ _ W5.drew;refine tkH 0 hS0 ?_;refine tkH 1 hS0 ?_;refine tkH 2 hS0 ?_;refine tkH 3 hS0 ?_;refine tkH 4 hS0 ?_;refine tkH 5 hS0 ?_;refine tkH 6 hS0 ?_;refine rd1 7 (fun K hK=>?_);go_simp;refine(A8 CM _ (Below.refl _ _).drew).mono ?_;rintro e w6 ⟨rfl,hb6⟩;have HB6:=AA (AL (Below.refl W5.heap.size W5).drew hb6);have hS1:=A8 HKS _ (A8 HB6);clear hb6;refine nxH hK hS1 ?_;clear hK K;refine tkH 8 hS1 ?_;refine tkH 9 hS1 ?_;refine tkH 10 hS1 ?_;refine tkH 11 hS1 ?_;refine tkH 12 hS1 ?_;refine tkH 14 hS1 ?_;refine tkH 15 hS1 ?_;refine tkH 16 hS1 ?_;refine rd1 13 (fun K hK=>?_);go_simp;refine(A8 CE _ (A8 HB6)).mono ?_;rintro e w7 ⟨rfl,hb7⟩;have HB7:=AA (AL (A8 HB6) hb7);have hS2:=A8 HKS _ (A8 HB7);clear hb7;refine nxH hK hS2 ?_;clear hK K;refine tkH 17 hS2 ?_;refine tkH 18 hS2 ?_;refine wpAnyH_done (by kernel_rfl) ?_ _;go_wp2_with fail
    go_roundg (3-(i+1))
    case measure=>omega
    case rel=>exact⟨i+1,by simp,by omega,Nat.le_refl _,AA (AL (A8 B5) (A8 HB7))⟩
   ·rw[show s.up=false by simpa using hu]at x0;clear hu;go_wp2_with fail
    go_roundg (3-(i+1))
    case measure=>omega
    case rel=>exact⟨i+1,by simp,by omega,Nat.le_refl _,AA (AL (A8 B3) (A8 B4))⟩
  ·obtain rfl:i=3:=by omega
   go_wp2_with fail;go_ret;exact⟨rfl,A8 B1⟩
theorem nR(ds:List Dd)(v:Value)(W:World)(hv:BZ W v ds)(hm:∀d∈ds,d.q.p.length≤140737488355328∧d.q.d.length≤140737488355328)(hT:VX W):Calls prog 3 #[v] W fun e w'=>e=.returned (.bool true)∧Below W.heap.size W w':=by
 have C:=AA (AH3 ds v W hv hm hT (fun k V i d u _ hx _=>AH4 _ d k u V (U5 _ _ (O9 k)) hx));unfold wP at C;clear hv hm hT;go_enter func3,ntmps3;go_wp2_with fail;refine(A8 C).mono ?_;rintro e w1 ⟨k,rfl,hp⟩;have HP:=AA hp.b;clear hp C;go_wp2_with fail;go_ret;exact⟨rfl,A8 HP⟩
end Go.Proofs.YtodnhndkghdinaaGreatDoor
