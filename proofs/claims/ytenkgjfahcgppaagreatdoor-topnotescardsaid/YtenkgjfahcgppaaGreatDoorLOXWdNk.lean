/-
  Part.
-/
import Derived.Test.YtenkgjfahcgppaaGreatDoorLOXWdLo
import Derived.Test.YtenkgjfahcgppaaGreatDoorLOXWdCv
import Derived.Test.YtenkgjfahcgppaaGreatDoorLOXWdNp
import Derived.Test.YtenkgjfahcgppaaGreatDoorLOXWdPn
set_option maxRecDepth 20000
set_option maxHeartbeats 8000000
namespace Go.Proofs.YtenkgjfahcgppaaGreatDoor
open Go.RowKit Go.Proofs.Tryz
theorem AK1(p:Pw)(d:Dd)(k:Nat)(u:Value)(V:World)(h:ND p)(hx:WX V k (doP p d).2)(hu:BD V (k+1) u (doP p d).1.ns):Calls prog 18 #[wP k,ddV d,rpV (doP p d).1 u] V fun e w'=>e=.returned (.bool true)/\Below V.heap.size V w':=by
 have HP:=AA (zX d h);have hw:=WR d h;generalize doP p d=x at*;obtain⟨r,q⟩:=x;simp only at hx hw HP hu;obtain⟨na,nc,rfl⟩:=BN hu;have B0:=AA (LB.start V d r (.slice na r.ns.length nc));have HU:=AA (fun W (hW:Below V.heap.size V W)=>hu.seq.next hW);have CC0:=AA (fun W (hW:Below V.heap.size V W) c (hc:c<16)=>AJ9 q k c W (hx.next hW) hc _ rfl (by have h1:=(hw.c c hc).len;have h2:=hw.n1;omega));have CK0:=AA (fun c (hc:c<16) (l:List UInt8) W v (hv:BQ W v (q.c c).es)=>AZ6 (q.c c).s (q.c c).z v (q.c c).es l W hv (fun x hx=>by have h3:=(hw.c c hc).sh x hx;exact⟨by omega,by omega⟩) (by have h1:=(hw.c c hc).len;have h2:=hw.n1;omega) (hw.c c hc).asc);clear hw hx h hu;unfold wP at CC0;unfold wP ddV rpV;go_enter func18,ntmps18;go_upto_region 1 with fail;generalize ((V.alloc _).alloc _)=W0 at*;have dr:=(A8 B0).d.row;have d0:W0.cell? ⟨V.heap.size,0,none⟩=some (.int .i64 d.k):=by
  simp only[Nat.zero_add]at dr;exact dr 0 _ rfl
 obtain⟨_,_,_,_,_,_,_,_,_,_,_,r11⟩:=(A8 B0).r.cells;clear dr
 go_cut [24]from 11 (fun t24 wx=>t24=.bool false/\wx=W0)
 case first=>
  by_cases h1:d.k=1
  .have hb1:(d.k !=1)=false:=by simp[h1]
   clear h1;go_wp2_with fail
   go_meet
   exact⟨rfl,rfl⟩
  .have hb1:(d.k !=1)=true:=by simp[h1]
   by_cases h5:d.k=5
   .have hb5:(d.k !=5)=false:=by simp[h5]
    clear h1 h5;go_wp2_with fail
    go_meet
    exact⟨rfl,rfl⟩
   .have hb5:(d.k !=5)=true:=by simp[h5]
    have hn0:r.ns.length=0:=by rw[(A8 HP).1 h1 h5];rfl
    clear h1 h5;go_wp2_with fail
    go_meet
    exact⟨rfl,rfl⟩
 case rest=>
  obtain⟨rfl,rfl⟩:=hcut;have HN:=AA (A8 HP).2;have HB0:=AA (A8 B0).b;clear HP d0 B0;go_upto_region 4 with fail;clear r11
  go_loopg [28] r.ns.length (fun kx s28 wr=>∃i:Nat,s28=.int .i64 i/\i<=r.ns.length/\r.ns.length-i<=kx/\Hid (Below V.heap.size V wr))
  case atStart=>exact⟨0,rfl,by omega,by omega,HB0⟩
  case round=>
   obtain⟨i,rfl,hi,hg,B1⟩:=hrel;by_cases hlt:i<r.ns.length
   .have hi4:(i:Int)<(r.ns.length:Int):=by omega
    obtain⟨n,hn⟩:∃n,r.ns[i]?=some n:=⟨_,List.getElem?_eq_getElem hlt⟩;obtain⟨b,off,cap,he,_,hr,_,hl2,hl3⟩:=VR (A8 HU wr (A8 B1)) hn;have hwi:IntKind.i64.wrap ((i:Int)+1)=(i:Int)+1:=by rw[IntKind.wrap_i64];unfold maxLen at hl3;omega
    clear hl2 hl3;simp only[Value.slice.injEq,true_and]at he;obtain⟨rfl,rfl⟩:=he;have y0:=hr.t0 hn;have y1:=hr.t1 hn;have y2:=hr.t2 hn;obtain⟨n1,n2,n3,n4,n5,n6⟩:=A8 HN n (List.mem_of_getElem? hn);clear hr hn;obtain⟨ns,nk,np⟩:=n;simp only at y0 y1 y2 n1 n2 n3 n4 n5 n6;obtain⟨c,rfl⟩:∃c:Nat,ns=(c:Nat)+1:=⟨(ns-1).toNat,by omega⟩;rw[show ((c:Int)+1-1).toNat=c by omega]at n6;have hc16:c<16:=by omega
    have CC1:=AA (fun W hW=>A8 CC0 W hW c hc16);have CK1:=AA (fun W v hv=>A8 CK0 c hc16 np W v hv);rw[n6]at CK1;generalize q.c c=cc at*;unfold clV enV CM5 noneE at CK1;simp only[Option.isSome_none]at CK1;have l1:¬ ((c:Int)+1<1):=by omega
    have l2:¬ (16<(c:Int)+1):=by omega
    have l3:¬ (nk<1):=by omega
    have l4:¬ (4<=nk):=by omega
    have hwr:IntKind.i64.wrap ((c:Int)+1-1)=c:=by rw[IntKind.wrap_i64];omega
    have hwr2:IntKind.i64.wrap (c:Int)=c:=by rw[IntKind.wrap_i64];omega
    have CG:=AA (fun W=>GN ⟨np.toArray⟩ W);simp only[n3]at CG;clear n1 n2 n3 n4 n5 n6;go_upto_region 6 with fail;have Y1:EW (wr.alloc (.cells #[.int .i64 ((c:Nat)+1),.int .i64 nk,.string ⟨np.toArray⟩] 69)) wr.heap.size (⟨(c:Nat)+1,nk,np⟩:Nt):=heap_alloc_new wr _;have B2:=AA (AL (A8 B1) (AB wr (.cells #[.int .i64 ((c:Nat)+1),.int .i64 nk,.string ⟨np.toArray⟩] 69)));generalize wr.alloc _=W3 at*;generalize wr.heap.size=g at*;clear y0 y1 y2;have yr:=Y1.row;simp only[Nat.zero_add]at yr;have y0:W3.cell? ⟨g,0,none⟩=some (.int .i64 ((c:Nat)+1)):=yr 0 _ rfl;have y1:W3.cell? ⟨g,1,none⟩=some (.int .i64 nk):=yr 1 _ rfl;have y2:W3.cell? ⟨g,2,none⟩=some (.string ⟨np.toArray⟩):=yr 2 _ rfl;clear yr B1;go_wp2_with fail;refine(A8 CG _).mono ?_;rintro e W4 ⟨rfl,hb4⟩;have hlt3:=Y1.ltz;have B4:=AA (AL (A8 B2) hb4);clear Y1;replace y0:=(hb4.cell (p:=⟨g,0,none⟩) hlt3).trans y0;replace y1:=(hb4.cell (p:=⟨g,1,none⟩) hlt3).trans y1;replace y2:=(hb4.cell (p:=⟨g,2,none⟩) hlt3).trans y2;have hlt4:g<W4.heap.size:=Nat.lt_of_lt_of_le hlt3 hb4.size;clear hb4 CG B2;go_upto_region 8 with fail;have HKS:Hid (∀V,Below W4.heap.size W4 V->V.cell? ⟨g,0,none⟩=some (.int .i64 ((c:Nat)+1))/\V.cell? ⟨g,2,none⟩=some (.string ⟨np.toArray⟩)):=AA fun V hV=>⟨(hV.cell (p:=⟨g,0,none⟩) hlt4).trans y0,(hV.cell (p:=⟨g,2,none⟩) hlt4).trans y2⟩;have CC:=AA (fun V' (hV:Below W4.heap.size W4 V')=>A8 CC1 V' (AL (A8 B4) hV));have CK:=CK1;clear y0 y1 y2 CC0 CC1 CK0 CK1 l1 l2 l3 l4 hlt3;have hS0:=A8 HKS _ (Below.refl W4.heap.size W4).drew;refine wp_region_held (S:=fun V:World=>V.cell? ⟨g,0,none⟩=some (.int .i64 ((c:Nat)+1))/\V.cell? ⟨g,2,none⟩=some (.string ⟨np.toArray⟩)) (by kernel_rfl) ?_;change wpAnyH _ _ _ _ _ _ _ _ W4.drew;refine tkH 0 hS0 ?_;refine tkH 1 hS0 ?_;refine tkH 2 hS0 ?_;refine tkH 3 hS0 ?_;refine tkH 5 hS0 ?_;refine tkH 6 hS0 ?_;refine tkH 7 hS0 ?_;refine rd2 4 12 (fun K hK=>?_) (fun K hK=>?_)
    .go_simp
     with_reducible refine(A8 CC _ (Below.refl W4.heap.size W4).drew).mono ?_
     rintro e v1A ⟨a2,c2,rfl,o1A,hv1A⟩;have HE1A:=AA o1A.seq;have CM8:=AA (AL (Below.refl W4.heap.size W4).drew hv1A);have hS1A:=A8 HKS _ (A8 CM8);clear o1A hv1A;refine nxH hK hS1A ?_;clear hK K;refine rd2 8 12 (fun K hK=>?_) (fun K hK=>?_)
     .go_simp;refine(A8 CK _ _ ((A8 HE1A))).mono ?_;rintro e v2AA ⟨rfl,CK2⟩;have C69:=AA (AL (A8 CM8) CK2);have BO4:=A8 HKS _ (A8 C69);clear CK2;refine nxH hK BO4 ?_;clear hK K;refine tkH 9 BO4 ?_;refine tkH 10 BO4 ?_;refine tkH 11 BO4 ?_;refine rd1 12 (fun K hK=>?_);go_simp;have CR0:=AA (AL (A8 C69) (AB v2AA (.cells #[.string ⟨#[]⟩,.string ⟨#[]⟩,.bool false] 72)));have CR1:=A8 HKS _ (A8 CR0);refine nxH hK CR1 ?_;clear hK K;refine rd1 13 (fun K hK=>?_);go_simp;have CK3:=AA (AL (A8 C69) (AB v2AA (.cells #[.string ⟨#[]⟩,.string ⟨#[]⟩,.bool false] 72)));have CK4:=A8 HKS _ (A8 CK3);refine nxH hK CK4 ?_;clear hK K;refine tkH 14 CK4 ?_;refine wpAnyH_done (by kernel_rfl) ?_ _;go_wp2_with fail
      go_roundg (r.ns.length-(i+1))
      case measure=>omega
      case rel=>exact⟨i+1,by simp,by omega,Nat.le_refl _,AA (AL (A8 B4) (A8 CK3))⟩
     .go_simp;have CK5:=AA (AL (A8 CM8) (AB v1A (.cells #[.string ⟨#[]⟩,.string ⟨#[]⟩,.bool false] 72)));have CR2:=A8 HKS _ (A8 CK5);refine nxH hK CR2 ?_;clear hK K;refine rd1 8 (fun K hK=>?_);go_simp;refine(A8 CK _ _ ((A8 HE1A).next (AB v1A (.cells #[.string ⟨#[]⟩,.string ⟨#[]⟩,.bool false] 72)))).mono ?_;rintro e C83 ⟨rfl,C70⟩;have CK6:=AA (AL (A8 CK5) C70);have BO5:=A8 HKS _ (A8 CK6);have AK2:=(C70.block _ (by simp)).trans (heap_alloc_new v1A (.cells #[.string ⟨#[]⟩,.string ⟨#[]⟩,.bool false] 72));clear C70;refine nxH hK BO5 ?_;clear hK K;refine tkH 9 BO5 ?_;refine tkH 10 BO5 ?_;refine tkH 11 BO5 ?_;refine rd1 13 (fun K hK=>?_);have z0:C83.cell? ⟨v1A.heap.size,0,none⟩=some (.string ⟨#[]⟩):=by simp[World.cell?,AK2]
      have y0:C83.frozen? ⟨v1A.heap.size,0,none⟩=false:=by simp[World.frozen?,AK2]
      have z1:C83.cell? ⟨v1A.heap.size,1,none⟩=some (.string ⟨#[]⟩):=by simp[World.cell?,AK2]
      have y1:C83.frozen? ⟨v1A.heap.size,1,none⟩=false:=by simp[World.frozen?,AK2]
      have z2:C83.cell? ⟨v1A.heap.size,2,none⟩=some (.bool false):=by simp[World.cell?,AK2]
      have y2:C83.frozen? ⟨v1A.heap.size,2,none⟩=false:=by simp[World.frozen?,AK2]
      have hge:W4.heap.size<=v1A.heap.size:=(A8 CM8).size;go_simp;have CK7:=AA ((((A8 CK6).setCell (p:=⟨v1A.heap.size,0,none⟩) hge (.string ⟨#[]⟩)).setCell (p:=⟨v1A.heap.size,1,none⟩) hge (.string ⟨#[]⟩)).setCell (p:=⟨v1A.heap.size,2,none⟩) hge (.bool false));have CK8:=A8 HKS _ (A8 CK7);refine nxH hK CK8 ?_;clear hK K;refine tkH 14 CK8 ?_;refine wpAnyH_done (by kernel_rfl) ?_ _;go_wp2_with fail
      go_roundg (r.ns.length-(i+1))
      case measure=>omega
      case rel=>exact⟨i+1,by simp,by omega,Nat.le_refl _,AA (AL (A8 B4) (A8 CK7))⟩
    .go_simp;have CR3:=AA (AB W4 (.cells #[.string ⟨#[]⟩,.string ⟨#[]⟩,.bool false] 72)).drew;have hS3B:=A8 HKS _ (A8 CR3);refine nxH hK hS3B ?_;clear hK K;refine rd1 4 (fun K hK=>?_);go_simp
     with_reducible refine(A8 CC _ (A8 CR3)).mono ?_
     rintro e v1B ⟨a2,c2,rfl,o1B,CR4⟩;have HE1B:=AA o1B.seq;have HB1B:=AA (AL (A8 CR3) CR4);have hS1B:=A8 HKS _ (A8 HB1B);have aZ1B:=(CR4.block _ (by simp)).trans (heap_alloc_new W4 (.cells #[.string ⟨#[]⟩,.string ⟨#[]⟩,.bool false] 72));clear o1B CR4;refine nxH hK hS1B ?_;clear hK K;refine rd1 8 (fun K hK=>?_);go_simp;refine(A8 CK _ _ ((A8 HE1B))).mono ?_;rintro e v2B ⟨rfl,CR5⟩;have HB2B:=AA (AL (A8 HB1B) CR5);have CM9:=A8 HKS _ (A8 HB2B);have C84:=(CR5.block _ (Array.getElem?_eq_some_iff.1 aZ1B).1).trans aZ1B;clear CR5;refine nxH hK CM9 ?_;clear hK K;refine tkH 9 CM9 ?_;refine tkH 10 CM9 ?_;refine tkH 11 CM9 ?_;refine rd1 13 (fun K hK=>?_);have z0:v2B.cell? ⟨W4.heap.size,0,none⟩=some (.string ⟨#[]⟩):=by simp[World.cell?,C84]
     have y0:v2B.frozen? ⟨W4.heap.size,0,none⟩=false:=by simp[World.frozen?,C84]
     have z1:v2B.cell? ⟨W4.heap.size,1,none⟩=some (.string ⟨#[]⟩):=by simp[World.cell?,C84]
     have y1:v2B.frozen? ⟨W4.heap.size,1,none⟩=false:=by simp[World.frozen?,C84]
     have z2:v2B.cell? ⟨W4.heap.size,2,none⟩=some (.bool false):=by simp[World.cell?,C84]
     have y2:v2B.frozen? ⟨W4.heap.size,2,none⟩=false:=by simp[World.frozen?,C84]
     go_simp;have HB4B:=AA ((((A8 HB2B).setCell (p:=⟨W4.heap.size,0,none⟩) (Nat.le_refl _) (.string ⟨#[]⟩)).setCell (p:=⟨W4.heap.size,1,none⟩) (Nat.le_refl _) (.string ⟨#[]⟩)).setCell (p:=⟨W4.heap.size,2,none⟩) (Nat.le_refl _) (.bool false));have hS4B:=A8 HKS _ (A8 HB4B);refine nxH hK hS4B ?_;clear hK K;refine tkH 14 hS4B ?_;refine wpAnyH_done (by kernel_rfl) ?_ _;go_wp2_with fail
     go_roundg (r.ns.length-(i+1))
     case measure=>omega
     case rel=>exact⟨i+1,by simp,by omega,Nat.le_refl _,AA (AL (A8 B4) (A8 HB4B))⟩
   .obtain rfl:i=r.ns.length:=by omega
    go_wp2_with fail;go_ret;exact⟨rfl,A8 B1⟩
theorem oM(ds:List Dd)(v:Value)(W:World)(hv:BQ W v ds)(hm:∀d∈ds,d.q.p.length<=140737488355328/\d.q.d.length<=140737488355328)(hT:VQ W):Calls prog 5 #[v] W fun e w'=>e=.returned (.bool true)/\Below W.heap.size W w':=by
 have C:=AA (AK0 ds v W hv hm hT (fun k V i d u _ hx hu=>AK1 _ d k u V (QO _ _ (MH k)) hx hu));unfold wP at C;clear hv hm hT;go_enter func5,ntmps5;go_wp2_with fail;refine(A8 C).mono ?_;rintro e w1 ⟨k,rfl,hp⟩;have HP:=AA hp.b;clear hp C;go_wp2_with fail;go_ret;exact⟨rfl,A8 HP⟩
