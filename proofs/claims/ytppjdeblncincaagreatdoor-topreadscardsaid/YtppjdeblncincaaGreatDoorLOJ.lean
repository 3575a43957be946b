/-
  Part.
-/
import Derived.Test.YtppjdeblncincaaGreatDoorLOE
import Derived.Test.YtppjdeblncincaaGreatDoorLOF
import Derived.Test.YtppjdeblncincaaGreatDoorLOD
import Derived.Test.YtppjdeblncincaaGreatDoorLOG
import Derived.Test.YtppjdeblncincaaGreatDoorLOI
set_option maxRecDepth 20000
set_option maxHeartbeats 8000000
namespace Go.Proofs.YtppjdeblncincaaGreatDoor
structure Sv where
 up:Bool
 fs:List DF
 id:Int
 ep:Int
 ts:List GN
 dn:Int
 tr:Tr
 ws:List Wa
def sv0:Sv:=⟨false,[],0,0,[],0,tr0,[]⟩
def JI:List UInt8:=[101,112,111,99,104]
theorem ZJ:JB JI=true:=by decide
theorem vG:gQ []=0:=(qN (.inl (by decide))).1
theorem VJ:J4 0=0:=by decide
theorem aW(z:Int):(QM z).length<=30:=by
 cases hg:KN z with
 |false=>rw[(A92 hg).1];simp
 |true=>
  have h:=LY.1 hg;rw[(jR hg).1];have h1:=jP 9 (z/2147483648).toNat (by omega);have h2:=jP 9 (z%2147483648).toNat (by omega);simp only[List.length_append,List.length_cons];omega
end Go.Proofs.YtppjdeblncincaaGreatDoor
namespace Go.Proofs.YtppjdeblncincaaGreatDoor
open Go.RowKit Go.Proofs.Tryz
def SvV(w:World)(v:Value)(s:Sv):Prop:=∃vd vl vn vs vw,v=.agg #[.bool s.up,vd,I0 s.id,I0 s.ep,vl,I0 s.dn,I0 s.tr.z,vn,vs,vw]/\IV w vd s.fs/\NC w vl s.ts/\IL w vn s.tr.ns/\IL w vs s.tr.ss/\IL w vw s.ws
theorem SvV.next{w w':World}{v:Value}{s:Sv}(h:SvV w v s)(hb:B0 w w'):SvV w' v s:=by
 obtain⟨vd,vl,vn,vs,vw,rfl,h1,h2,h3,h4,h5⟩:=h;exact⟨vd,vl,vn,vs,vw,rfl,h1.next hb,h2.next hb,h3.next hb,h4.next hb,h5.next hb⟩
theorem SvV.alloc{w:World}{v:Value}{s:Sv}(h:SvV w v s)(o:Obj):SvV (w.alloc o) v s:=h.next (G9 _ _)
theorem SvV.five{w:World}{v:Value}{s:Sv}(h:SvV w v s):∃ad nd cd al cl an cn ai ci aw cw,
  v=.agg #[.bool s.up,.slice ad nd cd,I0 s.id,I0 s.ep,.slice al s.ts.length cl,I0 s.dn,I0 s.tr.z,.slice an s.tr.ns.length cn,.slice ai s.tr.ss.length ci,.slice aw s.ws.length cw]/\
  IV w (.slice ad nd cd) s.fs/\NC w (.slice al s.ts.length cl) s.ts/\IL w (.slice an s.tr.ns.length cn) s.tr.ns/\IL w (.slice ai s.tr.ss.length ci) s.tr.ss/\IL w (.slice aw s.ws.length cw) s.ws:=by
 obtain⟨vd,vl,vn,vs,vw,rfl,h1,h2,h3,h4,h5⟩:=h;obtain⟨ad,nd,cd,rfl⟩:=IZ h1;obtain⟨al,cl,rfl⟩:=MC h2;obtain⟨an,cn,rfl⟩:=GK h3;obtain⟨ai,ci,rfl⟩:=GK h4;obtain⟨aw,cw,rfl⟩:=GK h5;exact⟨ad,nd,cd,al,cl,an,cn,ai,ci,aw,cw,rfl,h1,h2,h3,h4,h5⟩
def svZ:Value:=.agg #[.bool false,N0,I0 0,I0 0,N0,I0 0,I0 0,N0,N0,N0]
theorem SvV.zero(w:World):SvV w svZ sv0:=⟨_,_,_,_,_,rfl,IV.nil w,NC.nil w,IL.nil w,IL.nil w,IL.nil w⟩
def bG(w:World)(s:Sv)(E:Int)(e:Ending)(w':World):Prop:=∃v,e=.returned (.tuple #[v,I0 E])/\SvV w' v s/\B0 w w'
theorem AJ9{w w':World}{E:Int}{e:Ending}(he:e=.returned (.tuple #[svZ,I0 E]))(hb:B0 w w'):bG w sv0 E e w':=⟨_,he,SvV.zero w',hb⟩
instance layF:Lay DF:=⟨3,JD,81,fun _=>rfl,fun x u hu=>by simp[JD]at hu;rcases hu with rfl|rfl|rfl<;>rfl⟩
theorem BJ8(fs:List DF):GI fs=H8 fs:=by
 induction fs with
 |nil=>rfl
 |cons f r ih=>rw[JU,ih];rfl
theorem P9{w:World}{v:Value}{fs:List DF}:IL w v fs↔IV w v fs:=by unfold IL IV;rw[BJ8]
theorem NK(s:List UInt8)(w:World)(hs:s.length<=281474976710656):
  Calls prog 48 #[S0 s] w (R0 w (S0 s)):=OQ s w hs
theorem A99(a:Addr)(cap:Nat)(xs:List DF)(w:World)(hl:xs.length*48<=140737488355328)(hc:∀j u,(GI xs)[j]?=some u->w.cell? (a.add j)=some u):
  Calls prog 34 #[.slice (some a) xs.length cap] w fun e w'=>∃v',e=.returned v'/\GZ w' w.heap.size v' xs/\B0 w w':=by
 have q22:∀ (w:World) (a:Option Addr) (n c n' c':Nat),(binOp .eql 28 (.slice a n c) (.slice none n' c')).run prog w=.ok (.bool a.isNone) w:=fun w a n c n' c'=>Lib.run_eql_slice_nil w _ _ a n c n' c' underlying28;have H:=G8 hc;clear hc;obtain⟨i0,hi0,hz0,hz1,hz2⟩:=UK;go_enter func34,ntmps34;go_wp2_with (at_builtin;refine wpList_append_own _ rfl _ _ 28 rfl w.heap.size 81 i0 _ 3 48 underlying28 hi0 hz0 hz1 hz2 rfl (by decide) _ _ _ rfl (World.ownsRow_made w #[] 0 (Nat.le_refl _) (Nat.zero_le _) (by simp)) a xs.length cap (GI xs) rfl ?qc1 ?qc2 ?qc3 ?qc4 ?qc5 ?qc6 ?_)
 case qc1=>exact H6 xs
 case qc2=>
  intro j u hj;exact Lib.cell?_alloc_some _ (G7 H j u hj)
 case qc3=>exact JO xs
 case qc4=>simp only[maxLen];omega
 case qc5=>omega
 case qc6=>simp
 intro v' w1 hown hgrow hnil
 go_wp2
 go_ret;refine⟨v',rfl,GZ.L9 (by first|exact hown|(simp only[List.nil_append,Nat.zero_add]at hown;exact hown)|simpa using hown),?_⟩;exact((Below.refl _ w).alloc (Nat.le_refl _) _).grown hgrow (by simp) (by intro k hk;simp[Value.ownBlock]at hk;omega)
theorem C37(n c:Nat)(w:World):
  Calls prog 34 #[.slice none n c] w fun e w'=>e=.returned (N0)/\w'=w:=by
 have q22:∀ (w:World) (a:Option Addr) (n c n' c':Nat),(binOp .eql 28 (.slice a n c) (.slice none n' c')).run prog w=.ok (.bool a.isNone) w:=fun w a n c n' c'=>Lib.run_eql_slice_nil w _ _ a n c n' c' underlying28;go_enter func34,ntmps34
 go_wp2
 go_ret;exact⟨rfl,rfl⟩
theorem AZ8(v:Value)(xs:List DF)(w:World)(hv:IL w v xs)(hl:xs.length*48<=140737488355328):
  Calls prog 34 #[v] w fun e w'=>∃v',e=.returned v'/\GZ w' w.heap.size v' xs/\B0 w w':=by
 rcases hv with⟨a,cap,rfl,rfl,_⟩|⟨b,off,cap,rfl,_,_,hb,_,hr⟩
 .cases a with
  |none=>exact(C37 0 cap w).mono fun e w' ⟨he,hw⟩=>⟨_,he,.inl ⟨rfl,rfl⟩,by rw[hw];exact Below.refl _ _⟩
  |some a=>exact A99 a cap [] w (by simp) (fun j u h=>by simp[GI]at h)
 .exact A99 ⟨b,off,none⟩ cap xs w hl (fun j u h=>by rw[Addr.add_lit];exact hr j u h)
theorem BJ9(x:DF)(w:World)(hn:x.n.length<=140737488355328)(hs:x.s.length<=140737488355328)(ht:x.t.length<=140737488355328):
  Calls prog 140 #[.agg #[S0 x.n,S0 x.s,S0 x.t]] w (R0 w (.agg #[S0 x.n,S0 x.s,S0 x.t])):=by
 obtain⟨xn,xs,xt⟩:=x;simp only at*;have Kn:=fun W=>NK xn W (by omega);have Ks:=fun W=>NK xs W (by omega);have Kt:=fun W=>NK xt W (by omega);go_enter func140,ntmps140;go_wp2_with fail;generalize hW0:(w.alloc (.cells #[S0 xn,S0 xs,S0 xt] 81)).alloc (.cells #[.string ⟨#[]⟩,.string ⟨#[]⟩,.string ⟨#[]⟩] 81)=W0;have hB0:B0 w W0:=by rw[<-hW0];exact GH (G9 _ _) (G9 _ _)
 have hz0:W0.heap.size=w.heap.size+2:=by rw[<-hW0];simp
 have p0:W0.cell? ⟨w.heap.size,0,none⟩=some (S0 xn):=by rw[<-hW0];simp
 have r0:W0.cell? ⟨w.heap.size+1,0,none⟩=some (.string ⟨#[]⟩):=by rw[<-hW0];simp
 have p1:W0.cell? ⟨w.heap.size,1,none⟩=some (S0 xs):=by rw[<-hW0];simp
 have r1:W0.cell? ⟨w.heap.size+1,1,none⟩=some (.string ⟨#[]⟩):=by rw[<-hW0];simp
 have p2:W0.cell? ⟨w.heap.size,2,none⟩=some (S0 xt):=by rw[<-hW0];simp
 have r2:W0.cell? ⟨w.heap.size+1,2,none⟩=some (.string ⟨#[]⟩):=by rw[<-hW0];simp
 have pf:∀j,W0.frozen? ⟨w.heap.size,j,none⟩=false:=by intro j;rw[<-hW0];simp
 have rf:∀j,W0.frozen? ⟨w.heap.size+1,j,none⟩=false:=by intro j;rw[<-hW0];simp
 clear hW0;have d0:∀d os,(Sort.grow (redrawn W0 d) os).cell? ⟨w.heap.size,0,none⟩=some (S0 xn):=fun d os=>cell_regrown p0 d os;have g0:∀d os,(Sort.grow (redrawn W0 d) os).frozen? ⟨w.heap.size,0,none⟩=false:=fun d os=>by rw[(below_regrown W0 d os).frozen (p:=⟨w.heap.size,0,none⟩) (by simp only;omega)];exact pf 0
 have s0:∀d os,(Sort.grow (redrawn W0 d) os).setCell ⟨w.heap.size,0,none⟩ (S0 xn)=Sort.grow (redrawn W0 d) os:=fun d os=>I9 (d0 d os);have c0:=fun d os=>Calls.regrown_of (w:=W0) (d:=d) (os:=os) (Kn _);have d1:∀d os,(Sort.grow (redrawn W0 d) os).cell? ⟨w.heap.size,1,none⟩=some (S0 xs):=fun d os=>cell_regrown p1 d os;have g1:∀d os,(Sort.grow (redrawn W0 d) os).frozen? ⟨w.heap.size,1,none⟩=false:=fun d os=>by rw[(below_regrown W0 d os).frozen (p:=⟨w.heap.size,1,none⟩) (by simp only;omega)];exact pf 1
 have s1:∀d os,(Sort.grow (redrawn W0 d) os).setCell ⟨w.heap.size,1,none⟩ (S0 xs)=Sort.grow (redrawn W0 d) os:=fun d os=>I9 (d1 d os);have c1:=fun d os=>Calls.regrown_of (w:=W0) (d:=d) (os:=os) (Ks _);have d2:∀d os,(Sort.grow (redrawn W0 d) os).cell? ⟨w.heap.size,2,none⟩=some (S0 xt):=fun d os=>cell_regrown p2 d os;have g2:∀d os,(Sort.grow (redrawn W0 d) os).frozen? ⟨w.heap.size,2,none⟩=false:=fun d os=>by rw[(below_regrown W0 d os).frozen (p:=⟨w.heap.size,2,none⟩) (by simp only;omega)];exact pf 2
 have s2:∀d os,(Sort.grow (redrawn W0 d) os).setCell ⟨w.heap.size,2,none⟩ (S0 xt)=Sort.grow (redrawn W0 d) os:=fun d os=>I9 (d2 d os);have c2:=fun d os=>Calls.regrown_of (w:=W0) (d:=d) (os:=os) (Kt _);refine wp_region_quiet_below (by kernel_rfl) (by kernel_rfl) ?_
 repeat (first|go_big_quiet_step (first|with_reducible exact c0 _ _|with_reducible exact c1 _ _|with_reducible exact c2 _ _)|quiet_step (first|with_reducible exact c0 _ _|with_reducible exact c1 _ _|with_reducible exact c2 _ _))
 refine wpQuiet_nil ?_;intro _ hw';obtain⟨⟨dq,osq⟩,hw''⟩:=hw';subst hw'';have hb1:=below_regrown W0 dq osq;have hB:=GH hB0 hb1;have e0:=(hb1.cell (p:=⟨w.heap.size,0,none⟩) (by simp only;omega)).trans p0;have u0:=(hb1.cell (p:=⟨w.heap.size+1,0,none⟩) (by simp only;omega)).trans r0;have v0:=(hb1.frozen (p:=⟨w.heap.size+1,0,none⟩) (by simp only;omega)).trans (rf 0);have e1:=(hb1.cell (p:=⟨w.heap.size,1,none⟩) (by simp only;omega)).trans p1;have u1:=(hb1.cell (p:=⟨w.heap.size+1,1,none⟩) (by simp only;omega)).trans r1;have v1:=(hb1.frozen (p:=⟨w.heap.size+1,1,none⟩) (by simp only;omega)).trans (rf 1);have e2:=(hb1.cell (p:=⟨w.heap.size,2,none⟩) (by simp only;omega)).trans p2;have u2:=(hb1.cell (p:=⟨w.heap.size+1,2,none⟩) (by simp only;omega)).trans r2;have v2:=(hb1.frozen (p:=⟨w.heap.size+1,2,none⟩) (by simp only;omega)).trans (rf 2);generalize Sort.grow (redrawn W0 dq) osq=w1 at*;clear hb1 hB0 hz0 pf rf p0 r0 p1 r1 p2 r2 d0 g0 s0 c0 Kn d1 g1 s1 c1 Ks d2 g2 s2 c2 Kt;go_wp2_with fail;refine bodyPost_ret (v:=.agg #[S0 xn,S0 xs,S0 xt]) (by simp[results,results140,go_sem,u0,u1,u2]) rfl ⟨rfl,?_⟩;exact(((hB.setCell (by simp) _).setCell (by simp) _).setCell (by simp) _)
theorem AA0(a:Addr)(cap:Nat)(xs:List GN)(w:World)(hl:xs.length*72<=140737488355328)(hc:∀j u,(GI xs)[j]?=some u->w.cell? (a.add j)=some u):
  Calls prog 35 #[.slice (some a) xs.length cap] w fun e w'=>∃v',e=.returned v'/\GZ w' w.heap.size v' xs/\B0 w w':=by
 have q22:∀ (w:World) (a:Option Addr) (n c n' c':Nat),(binOp .eql 31 (.slice a n c) (.slice none n' c')).run prog w=.ok (.bool a.isNone) w:=fun w a n c n' c'=>Lib.run_eql_slice_nil w _ _ a n c n' c' underlying31;have H:=G8 hc;clear hc;obtain⟨i0,hi0,hz0,hz1,hz2⟩:=qO;go_enter func35,ntmps35;go_wp2_with (at_builtin;refine wpList_append_own _ rfl _ _ 31 rfl w.heap.size 79 i0 _ 7 72 underlying31 hi0 hz0 hz1 hz2 rfl (by decide) _ _ _ rfl (World.ownsRow_made w #[] 0 (Nat.le_refl _) (Nat.zero_le _) (by simp)) a xs.length cap (GI xs) rfl ?qc1 ?qc2 ?qc3 ?qc4 ?qc5 ?qc6 ?_)
 case qc1=>exact H6 xs
 case qc2=>
  intro j u hj;exact Lib.cell?_alloc_some _ (G7 H j u hj)
 case qc3=>exact JO xs
 case qc4=>simp only[maxLen];omega
 case qc5=>omega
 case qc6=>simp
 intro v' w1 hown hgrow hnil
 go_wp2
 go_ret;refine⟨v',rfl,GZ.L9 (by first|exact hown|(simp only[List.nil_append,Nat.zero_add]at hown;exact hown)|simpa using hown),?_⟩;exact((Below.refl _ w).alloc (Nat.le_refl _) _).grown hgrow (by simp) (by intro k hk;simp[Value.ownBlock]at hk;omega)
theorem C38(n c:Nat)(w:World):
  Calls prog 35 #[.slice none n c] w fun e w'=>e=.returned (N0)/\w'=w:=by
 have q22:∀ (w:World) (a:Option Addr) (n c n' c':Nat),(binOp .eql 31 (.slice a n c) (.slice none n' c')).run prog w=.ok (.bool a.isNone) w:=fun w a n c n' c'=>Lib.run_eql_slice_nil w _ _ a n c n' c' underlying31;go_enter func35,ntmps35
 go_wp2
 go_ret;exact⟨rfl,rfl⟩
theorem qZ(v:Value)(xs:List GN)(w:World)(hv:IL w v xs)(hl:xs.length*72<=140737488355328):
  Calls prog 35 #[v] w fun e w'=>∃v',e=.returned v'/\GZ w' w.heap.size v' xs/\B0 w w':=by
 rcases hv with⟨a,cap,rfl,rfl,_⟩|⟨b,off,cap,rfl,_,_,hb,_,hr⟩
 .cases a with
  |none=>exact(C38 0 cap w).mono fun e w' ⟨he,hw⟩=>⟨_,he,.inl ⟨rfl,rfl⟩,by rw[hw];exact Below.refl _ _⟩
  |some a=>exact AA0 a cap [] w (by simp) (fun j u h=>by simp[GI]at h)
 .exact AA0 ⟨b,off,none⟩ cap xs w hl (fun j u h=>by rw[Addr.add_lit];exact hr j u h)
theorem AA1(x:GN)(w:World)(hp:x.p.length<=140737488355328)(hd:x.d.length<=140737488355328):
  Calls prog 142 #[.agg #[I0 x.z,I0 x.o,I0 x.s,S0 x.p,S0 x.d,I0 x.v,I0 x.w]] w (R0 w (.agg #[I0 x.z,I0 x.o,I0 x.s,S0 x.p,S0 x.d,I0 x.v,I0 x.w])):=by
 obtain⟨xz,xo,xs,xp,xd,xv,xw⟩:=x;simp only at*;have Kp:=fun W=>NK xp W (by omega);have Kd:=fun W=>NK xd W (by omega);go_enter func142,ntmps142;go_wp2_with fail;generalize hW0:(w.alloc (.cells #[I0 xz,I0 xo,I0 xs,S0 xp,S0 xd,I0 xv,I0 xw] 79)).alloc (.cells #[I0 0,I0 0,I0 0,.string ⟨#[]⟩,.string ⟨#[]⟩,I0 0,I0 0] 79)=W0;have hB0:B0 w W0:=by rw[<-hW0];exact GH (G9 _ _) (G9 _ _)
 have hz0:W0.heap.size=w.heap.size+2:=by rw[<-hW0];simp
 have p0:W0.cell? ⟨w.heap.size,0,none⟩=some (I0 xz):=by rw[<-hW0];simp
 have r0:W0.cell? ⟨w.heap.size+1,0,none⟩=some (I0 0):=by rw[<-hW0];simp
 have p1:W0.cell? ⟨w.heap.size,1,none⟩=some (I0 xo):=by rw[<-hW0];simp
 have r1:W0.cell? ⟨w.heap.size+1,1,none⟩=some (I0 0):=by rw[<-hW0];simp
 have p2:W0.cell? ⟨w.heap.size,2,none⟩=some (I0 xs):=by rw[<-hW0];simp
 have r2:W0.cell? ⟨w.heap.size+1,2,none⟩=some (I0 0):=by rw[<-hW0];simp
 have p3:W0.cell? ⟨w.heap.size,3,none⟩=some (S0 xp):=by rw[<-hW0];simp
 have r3:W0.cell? ⟨w.heap.size+1,3,none⟩=some (.string ⟨#[]⟩):=by rw[<-hW0];simp
 have p4:W0.cell? ⟨w.heap.size,4,none⟩=some (S0 xd):=by rw[<-hW0];simp
 have r4:W0.cell? ⟨w.heap.size+1,4,none⟩=some (.string ⟨#[]⟩):=by rw[<-hW0];simp
 have p5:W0.cell? ⟨w.heap.size,5,none⟩=some (I0 xv):=by rw[<-hW0];simp
 have r5:W0.cell? ⟨w.heap.size+1,5,none⟩=some (I0 0):=by rw[<-hW0];simp
 have p6:W0.cell? ⟨w.heap.size,6,none⟩=some (I0 xw):=by rw[<-hW0];simp
 have r6:W0.cell? ⟨w.heap.size+1,6,none⟩=some (I0 0):=by rw[<-hW0];simp
 have pf:∀j,W0.frozen? ⟨w.heap.size,j,none⟩=false:=by intro j;rw[<-hW0];simp
 have rf:∀j,W0.frozen? ⟨w.heap.size+1,j,none⟩=false:=by intro j;rw[<-hW0];simp
 clear hW0;have d3:∀d os,(Sort.grow (redrawn W0 d) os).cell? ⟨w.heap.size,3,none⟩=some (S0 xp):=fun d os=>cell_regrown p3 d os;have g3:∀d os,(Sort.grow (redrawn W0 d) os).frozen? ⟨w.heap.size,3,none⟩=false:=fun d os=>by rw[(below_regrown W0 d os).frozen (p:=⟨w.heap.size,3,none⟩) (by simp only;omega)];exact pf 3
 have s3:∀d os,(Sort.grow (redrawn W0 d) os).setCell ⟨w.heap.size,3,none⟩ (S0 xp)=Sort.grow (redrawn W0 d) os:=fun d os=>I9 (d3 d os);have c3:=fun d os=>Calls.regrown_of (w:=W0) (d:=d) (os:=os) (Kp _);have d4:∀d os,(Sort.grow (redrawn W0 d) os).cell? ⟨w.heap.size,4,none⟩=some (S0 xd):=fun d os=>cell_regrown p4 d os;have g4:∀d os,(Sort.grow (redrawn W0 d) os).frozen? ⟨w.heap.size,4,none⟩=false:=fun d os=>by rw[(below_regrown W0 d os).frozen (p:=⟨w.heap.size,4,none⟩) (by simp only;omega)];exact pf 4
 have s4:∀d os,(Sort.grow (redrawn W0 d) os).setCell ⟨w.heap.size,4,none⟩ (S0 xd)=Sort.grow (redrawn W0 d) os:=fun d os=>I9 (d4 d os);have c4:=fun d os=>Calls.regrown_of (w:=W0) (d:=d) (os:=os) (Kd _);refine wp_region_quiet_below (by kernel_rfl) (by kernel_rfl) ?_
 repeat (first|go_big_quiet_step (first|with_reducible exact c3 _ _|with_reducible exact c4 _ _)|quiet_step (first|with_reducible exact c3 _ _|with_reducible exact c4 _ _))
 refine wpQuiet_nil ?_;intro _ hw';obtain⟨⟨dq,osq⟩,hw''⟩:=hw';subst hw'';have hb1:=below_regrown W0 dq osq;have hB:=GH hB0 hb1;have e0:=(hb1.cell (p:=⟨w.heap.size,0,none⟩) (by simp only;omega)).trans p0;have u0:=(hb1.cell (p:=⟨w.heap.size+1,0,none⟩) (by simp only;omega)).trans r0;have v0:=(hb1.frozen (p:=⟨w.heap.size+1,0,none⟩) (by simp only;omega)).trans (rf 0);have e1:=(hb1.cell (p:=⟨w.heap.size,1,none⟩) (by simp only;omega)).trans p1;have u1:=(hb1.cell (p:=⟨w.heap.size+1,1,none⟩) (by simp only;omega)).trans r1;have v1:=(hb1.frozen (p:=⟨w.heap.size+1,1,none⟩) (by simp only;omega)).trans (rf 1);have e2:=(hb1.cell (p:=⟨w.heap.size,2,none⟩) (by simp only;omega)).trans p2;have u2:=(hb1.cell (p:=⟨w.heap.size+1,2,none⟩) (by simp only;omega)).trans r2;have v2:=(hb1.frozen (p:=⟨w.heap.size+1,2,none⟩) (by simp only;omega)).trans (rf 2);have e3:=(hb1.cell (p:=⟨w.heap.size,3,none⟩) (by simp only;omega)).trans p3;have u3:=(hb1.cell (p:=⟨w.heap.size+1,3,none⟩) (by simp only;omega)).trans r3;have v3:=(hb1.frozen (p:=⟨w.heap.size+1,3,none⟩) (by simp only;omega)).trans (rf 3);have e4:=(hb1.cell (p:=⟨w.heap.size,4,none⟩) (by simp only;omega)).trans p4;have u4:=(hb1.cell (p:=⟨w.heap.size+1,4,none⟩) (by simp only;omega)).trans r4;have v4:=(hb1.frozen (p:=⟨w.heap.size+1,4,none⟩) (by simp only;omega)).trans (rf 4);have e5:=(hb1.cell (p:=⟨w.heap.size,5,none⟩) (by simp only;omega)).trans p5;have u5:=(hb1.cell (p:=⟨w.heap.size+1,5,none⟩) (by simp only;omega)).trans r5;have v5:=(hb1.frozen (p:=⟨w.heap.size+1,5,none⟩) (by simp only;omega)).trans (rf 5);have e6:=(hb1.cell (p:=⟨w.heap.size,6,none⟩) (by simp only;omega)).trans p6;have u6:=(hb1.cell (p:=⟨w.heap.size+1,6,none⟩) (by simp only;omega)).trans r6;have v6:=(hb1.frozen (p:=⟨w.heap.size+1,6,none⟩) (by simp only;omega)).trans (rf 6);generalize Sort.grow (redrawn W0 dq) osq=w1 at*;clear hb1 hB0 hz0 pf rf p0 r0 p1 r1 p2 r2 p3 r3 p4 r4 p5 r5 p6 r6 d3 g3 s3 c3 Kp d4 g4 s4 c4 Kd;go_wp2_with fail;refine bodyPost_ret (v:=.agg #[I0 xz,I0 xo,I0 xs,S0 xp,S0 xd,I0 xv,I0 xw]) (by simp[results,results142,go_sem,u0,u1,u2,u3,u4,u5,u6]) rfl ⟨rfl,?_⟩;exact(((((((hB.setCell (by simp) _).setCell (by simp) _).setCell (by simp) _).setCell (by simp) _).setCell (by simp) _).setCell (by simp) _).setCell (by simp) _)
theorem AA2(a:Addr)(cap:Nat)(xs:List Nd)(w:World)(hl:xs.length*88<=140737488355328)(hc:∀j u,(GI xs)[j]?=some u->w.cell? (a.add j)=some u):
  Calls prog 36 #[.slice (some a) xs.length cap] w fun e w'=>∃v',e=.returned v'/\GZ w' w.heap.size v' xs/\B0 w w':=by
 have q22:∀ (w:World) (a:Option Addr) (n c n' c':Nat),(binOp .eql 34 (.slice a n c) (.slice none n' c')).run prog w=.ok (.bool a.isNone) w:=fun w a n c n' c'=>Lib.run_eql_slice_nil w _ _ a n c n' c' underlying34;have H:=G8 hc;clear hc;obtain⟨i0,hi0,hz0,hz1,hz2⟩:=AK5;go_enter func36,ntmps36;go_wp2_with (at_builtin;refine wpList_append_own _ rfl _ _ 34 rfl w.heap.size 62 i0 _ 9 88 underlying34 hi0 hz0 hz1 hz2 rfl (by decide) _ _ _ rfl (World.ownsRow_made w #[] 0 (Nat.le_refl _) (Nat.zero_le _) (by simp)) a xs.length cap (GI xs) rfl ?qc1 ?qc2 ?qc3 ?qc4 ?qc5 ?qc6 ?_)
 case qc1=>exact H6 xs
 case qc2=>
  intro j u hj;exact Lib.cell?_alloc_some _ (G7 H j u hj)
 case qc3=>exact JO xs
 case qc4=>simp only[maxLen];omega
 case qc5=>omega
 case qc6=>simp
 intro v' w1 hown hgrow hnil
 go_wp2
 go_ret;refine⟨v',rfl,GZ.L9 (by first|exact hown|(simp only[List.nil_append,Nat.zero_add]at hown;exact hown)|simpa using hown),?_⟩;exact((Below.refl _ w).alloc (Nat.le_refl _) _).grown hgrow (by simp) (by intro k hk;simp[Value.ownBlock]at hk;omega)
theorem C39(n c:Nat)(w:World):
  Calls prog 36 #[.slice none n c] w fun e w'=>e=.returned (N0)/\w'=w:=by
 have q22:∀ (w:World) (a:Option Addr) (n c n' c':Nat),(binOp .eql 34 (.slice a n c) (.slice none n' c')).run prog w=.ok (.bool a.isNone) w:=fun w a n c n' c'=>Lib.run_eql_slice_nil w _ _ a n c n' c' underlying34;go_enter func36,ntmps36
 go_wp2
 go_ret;exact⟨rfl,rfl⟩
theorem AZ9(v:Value)(xs:List Nd)(w:World)(hv:IL w v xs)(hl:xs.length*88<=140737488355328):
  Calls prog 36 #[v] w fun e w'=>∃v',e=.returned v'/\GZ w' w.heap.size v' xs/\B0 w w':=by
 rcases hv with⟨a,cap,rfl,rfl,_⟩|⟨b,off,cap,rfl,_,_,hb,_,hr⟩
 .cases a with
  |none=>exact(C39 0 cap w).mono fun e w' ⟨he,hw⟩=>⟨_,he,.inl ⟨rfl,rfl⟩,by rw[hw];exact Below.refl _ _⟩
  |some a=>exact AA2 a cap [] w (by simp) (fun j u h=>by simp[GI]at h)
 .exact AA2 ⟨b,off,none⟩ cap xs w hl (fun j u h=>by rw[Addr.add_lit];exact hr j u h)
theorem BK0(x:Nd)(w:World)(hp:x.p.length<=140737488355328)(hd:x.d.length<=140737488355328):
  Calls prog 144 #[.agg #[S0 x.p,S0 x.d,I0 x.c,I0 x.m,I0 x.q,I0 x.v,I0 x.k,I0 x.o,I0 x.n]] w (R0 w (.agg #[S0 x.p,S0 x.d,I0 x.c,I0 x.m,I0 x.q,I0 x.v,I0 x.k,I0 x.o,I0 x.n])):=by
 obtain⟨xp,xd,xc,xm,xq,xv,xk,xo,xn⟩:=x;simp only at*;have Kp:=fun W=>NK xp W (by omega);have Kd:=fun W=>NK xd W (by omega);go_enter func144,ntmps144;go_wp2_with fail;generalize hW0:(w.alloc (.cells #[S0 xp,S0 xd,I0 xc,I0 xm,I0 xq,I0 xv,I0 xk,I0 xo,I0 xn] 62)).alloc (.cells #[.string ⟨#[]⟩,.string ⟨#[]⟩,I0 0,I0 0,I0 0,I0 0,I0 0,I0 0,I0 0] 62)=W0;have hB0:B0 w W0:=by rw[<-hW0];exact GH (G9 _ _) (G9 _ _)
 have hz0:W0.heap.size=w.heap.size+2:=by rw[<-hW0];simp
 have p0:W0.cell? ⟨w.heap.size,0,none⟩=some (S0 xp):=by rw[<-hW0];simp
 have r0:W0.cell? ⟨w.heap.size+1,0,none⟩=some (.string ⟨#[]⟩):=by rw[<-hW0];simp
 have p1:W0.cell? ⟨w.heap.size,1,none⟩=some (S0 xd):=by rw[<-hW0];simp
 have r1:W0.cell? ⟨w.heap.size+1,1,none⟩=some (.string ⟨#[]⟩):=by rw[<-hW0];simp
 have p2:W0.cell? ⟨w.heap.size,2,none⟩=some (I0 xc):=by rw[<-hW0];simp
 have r2:W0.cell? ⟨w.heap.size+1,2,none⟩=some (I0 0):=by rw[<-hW0];simp
 have p3:W0.cell? ⟨w.heap.size,3,none⟩=some (I0 xm):=by rw[<-hW0];simp
 have r3:W0.cell? ⟨w.heap.size+1,3,none⟩=some (I0 0):=by rw[<-hW0];simp
 have p4:W0.cell? ⟨w.heap.size,4,none⟩=some (I0 xq):=by rw[<-hW0];simp
 have r4:W0.cell? ⟨w.heap.size+1,4,none⟩=some (I0 0):=by rw[<-hW0];simp
 have p5:W0.cell? ⟨w.heap.size,5,none⟩=some (I0 xv):=by rw[<-hW0];simp
 have r5:W0.cell? ⟨w.heap.size+1,5,none⟩=some (I0 0):=by rw[<-hW0];simp
 have p6:W0.cell? ⟨w.heap.size,6,none⟩=some (I0 xk):=by rw[<-hW0];simp
 have r6:W0.cell? ⟨w.heap.size+1,6,none⟩=some (I0 0):=by rw[<-hW0];simp
 have p7:W0.cell? ⟨w.heap.size,7,none⟩=some (I0 xo):=by rw[<-hW0];simp
 have r7:W0.cell? ⟨w.heap.size+1,7,none⟩=some (I0 0):=by rw[<-hW0];simp
 have p8:W0.cell? ⟨w.heap.size,8,none⟩=some (I0 xn):=by rw[<-hW0];simp
 have r8:W0.cell? ⟨w.heap.size+1,8,none⟩=some (I0 0):=by rw[<-hW0];simp
 have pf:∀j,W0.frozen? ⟨w.heap.size,j,none⟩=false:=by intro j;rw[<-hW0];simp
 have rf:∀j,W0.frozen? ⟨w.heap.size+1,j,none⟩=false:=by intro j;rw[<-hW0];simp
 clear hW0;have d0:∀d os,(Sort.grow (redrawn W0 d) os).cell? ⟨w.heap.size,0,none⟩=some (S0 xp):=fun d os=>cell_regrown p0 d os;have g0:∀d os,(Sort.grow (redrawn W0 d) os).frozen? ⟨w.heap.size,0,none⟩=false:=fun d os=>by rw[(below_regrown W0 d os).frozen (p:=⟨w.heap.size,0,none⟩) (by simp only;omega)];exact pf 0
 have s0:∀d os,(Sort.grow (redrawn W0 d) os).setCell ⟨w.heap.size,0,none⟩ (S0 xp)=Sort.grow (redrawn W0 d) os:=fun d os=>I9 (d0 d os);have c0:=fun d os=>Calls.regrown_of (w:=W0) (d:=d) (os:=os) (Kp _);have d1:∀d os,(Sort.grow (redrawn W0 d) os).cell? ⟨w.heap.size,1,none⟩=some (S0 xd):=fun d os=>cell_regrown p1 d os;have g1:∀d os,(Sort.grow (redrawn W0 d) os).frozen? ⟨w.heap.size,1,none⟩=false:=fun d os=>by rw[(below_regrown W0 d os).frozen (p:=⟨w.heap.size,1,none⟩) (by simp only;omega)];exact pf 1
 have s1:∀d os,(Sort.grow (redrawn W0 d) os).setCell ⟨w.heap.size,1,none⟩ (S0 xd)=Sort.grow (redrawn W0 d) os:=fun d os=>I9 (d1 d os);have c1:=fun d os=>Calls.regrown_of (w:=W0) (d:=d) (os:=os) (Kd _);refine wp_region_quiet_below (by kernel_rfl) (by kernel_rfl) ?_
 repeat (first|go_big_quiet_step (first|with_reducible exact c0 _ _|with_reducible exact c1 _ _)|quiet_step (first|with_reducible exact c0 _ _|with_reducible exact c1 _ _))
 refine wpQuiet_nil ?_;intro _ hw';obtain⟨⟨dq,osq⟩,hw''⟩:=hw';subst hw'';have hb1:=below_regrown W0 dq osq;have hB:=GH hB0 hb1;have e0:=(hb1.cell (p:=⟨w.heap.size,0,none⟩) (by simp only;omega)).trans p0;have u0:=(hb1.cell (p:=⟨w.heap.size+1,0,none⟩) (by simp only;omega)).trans r0;have v0:=(hb1.frozen (p:=⟨w.heap.size+1,0,none⟩) (by simp only;omega)).trans (rf 0);have e1:=(hb1.cell (p:=⟨w.heap.size,1,none⟩) (by simp only;omega)).trans p1;have u1:=(hb1.cell (p:=⟨w.heap.size+1,1,none⟩) (by simp only;omega)).trans r1;have v1:=(hb1.frozen (p:=⟨w.heap.size+1,1,none⟩) (by simp only;omega)).trans (rf 1);have e2:=(hb1.cell (p:=⟨w.heap.size,2,none⟩) (by simp only;omega)).trans p2;have u2:=(hb1.cell (p:=⟨w.heap.size+1,2,none⟩) (by simp only;omega)).trans r2;have v2:=(hb1.frozen (p:=⟨w.heap.size+1,2,none⟩) (by simp only;omega)).trans (rf 2);have e3:=(hb1.cell (p:=⟨w.heap.size,3,none⟩) (by simp only;omega)).trans p3;have u3:=(hb1.cell (p:=⟨w.heap.size+1,3,none⟩) (by simp only;omega)).trans r3;have v3:=(hb1.frozen (p:=⟨w.heap.size+1,3,none⟩) (by simp only;omega)).trans (rf 3);have e4:=(hb1.cell (p:=⟨w.heap.size,4,none⟩) (by simp only;omega)).trans p4;have u4:=(hb1.cell (p:=⟨w.heap.size+1,4,none⟩) (by simp only;omega)).trans r4;have v4:=(hb1.frozen (p:=⟨w.heap.size+1,4,none⟩) (by simp only;omega)).trans (rf 4);have e5:=(hb1.cell (p:=⟨w.heap.size,5,none⟩) (by simp only;omega)).trans p5;have u5:=(hb1.cell (p:=⟨w.heap.size+1,5,none⟩) (by simp only;omega)).trans r5;have v5:=(hb1.frozen (p:=⟨w.heap.size+1,5,none⟩) (by simp only;omega)).trans (rf 5);have e6:=(hb1.cell (p:=⟨w.heap.size,6,none⟩) (by simp only;omega)).trans p6;have u6:=(hb1.cell (p:=⟨w.heap.size+1,6,none⟩) (by simp only;omega)).trans r6;have v6:=(hb1.frozen (p:=⟨w.heap.size+1,6,none⟩) (by simp only;omega)).trans (rf 6);have e7:=(hb1.cell (p:=⟨w.heap.size,7,none⟩) (by simp only;omega)).trans p7;have u7:=(hb1.cell (p:=⟨w.heap.size+1,7,none⟩) (by simp only;omega)).trans r7;have v7:=(hb1.frozen (p:=⟨w.heap.size+1,7,none⟩) (by simp only;omega)).trans (rf 7);have e8:=(hb1.cell (p:=⟨w.heap.size,8,none⟩) (by simp only;omega)).trans p8;have u8:=(hb1.cell (p:=⟨w.heap.size+1,8,none⟩) (by simp only;omega)).trans r8;have v8:=(hb1.frozen (p:=⟨w.heap.size+1,8,none⟩) (by simp only;omega)).trans (rf 8);generalize Sort.grow (redrawn W0 dq) osq=w1 at*;clear hb1 hB0 hz0 pf rf p0 r0 p1 r1 p2 r2 p3 r3 p4 r4 p5 r5 p6 r6 p7 r7 p8 r8 d0 g0 s0 c0 Kp d1 g1 s1 c1 Kd;go_wp2_with fail;refine bodyPost_ret (v:=.agg #[S0 xp,S0 xd,I0 xc,I0 xm,I0 xq,I0 xv,I0 xk,I0 xo,I0 xn]) (by simp[results,results144,go_sem,u0,u1,u2,u3,u4,u5,u6,u7,u8]) rfl ⟨rfl,?_⟩;exact(((((((((hB.setCell (by simp) _).setCell (by simp) _).setCell (by simp) _).setCell (by simp) _).setCell (by simp) _).setCell (by simp) _).setCell (by simp) _).setCell (by simp) _).setCell (by simp) _)
theorem AA3(a:Addr)(cap:Nat)(xs:List Wa)(w:World)(hl:xs.length*32<=140737488355328)(hc:∀j u,(GI xs)[j]?=some u->w.cell? (a.add j)=some u):
  Calls prog 38 #[.slice (some a) xs.length cap] w fun e w'=>∃v',e=.returned v'/\GZ w' w.heap.size v' xs/\B0 w w':=by
 have q22:∀ (w:World) (a:Option Addr) (n c n' c':Nat),(binOp .eql 38 (.slice a n c) (.slice none n' c')).run prog w=.ok (.bool a.isNone) w:=fun w a n c n' c'=>Lib.run_eql_slice_nil w _ _ a n c n' c' underlying38;have H:=G8 hc;clear hc;obtain⟨i0,hi0,hz0,hz1,hz2⟩:=C30;go_enter func38,ntmps38;go_wp2_with (at_builtin;refine wpList_append_own _ rfl _ _ 38 rfl w.heap.size 83 i0 _ 3 32 underlying38 hi0 hz0 hz1 hz2 rfl (by decide) _ _ _ rfl (World.ownsRow_made w #[] 0 (Nat.le_refl _) (Nat.zero_le _) (by simp)) a xs.length cap (GI xs) rfl ?qc1 ?qc2 ?qc3 ?qc4 ?qc5 ?qc6 ?_)
 case qc1=>exact H6 xs
 case qc2=>
  intro j u hj;exact Lib.cell?_alloc_some _ (G7 H j u hj)
 case qc3=>exact JO xs
 case qc4=>simp only[maxLen];omega
 case qc5=>omega
 case qc6=>simp
 intro v' w1 hown hgrow hnil
 go_wp2
 go_ret;refine⟨v',rfl,GZ.L9 (by first|exact hown|(simp only[List.nil_append,Nat.zero_add]at hown;exact hown)|simpa using hown),?_⟩;exact((Below.refl _ w).alloc (Nat.le_refl _) _).grown hgrow (by simp) (by intro k hk;simp[Value.ownBlock]at hk;omega)
theorem C40(n c:Nat)(w:World):
  Calls prog 38 #[.slice none n c] w fun e w'=>e=.returned (N0)/\w'=w:=by
 have q22:∀ (w:World) (a:Option Addr) (n c n' c':Nat),(binOp .eql 38 (.slice a n c) (.slice none n' c')).run prog w=.ok (.bool a.isNone) w:=fun w a n c n' c'=>Lib.run_eql_slice_nil w _ _ a n c n' c' underlying38;go_enter func38,ntmps38
 go_wp2
 go_ret;exact⟨rfl,rfl⟩
theorem B00(v:Value)(xs:List Wa)(w:World)(hv:IL w v xs)(hl:xs.length*32<=140737488355328):
  Calls prog 38 #[v] w fun e w'=>∃v',e=.returned v'/\GZ w' w.heap.size v' xs/\B0 w w':=by
 rcases hv with⟨a,cap,rfl,rfl,_⟩|⟨b,off,cap,rfl,_,_,hb,_,hr⟩
 .cases a with
  |none=>exact(C40 0 cap w).mono fun e w' ⟨he,hw⟩=>⟨_,he,.inl ⟨rfl,rfl⟩,by rw[hw];exact Below.refl _ _⟩
  |some a=>exact AA3 a cap [] w (by simp) (fun j u h=>by simp[GI]at h)
 .exact AA3 ⟨b,off,none⟩ cap xs w hl (fun j u h=>by rw[Addr.add_lit];exact hr j u h)
theorem BK1(x:Wa)(w:World)(hp:x.p.length<=140737488355328):
  Calls prog 146 #[.agg #[I0 x.s,I0 x.k,S0 x.p]] w (R0 w (.agg #[I0 x.s,I0 x.k,S0 x.p])):=by
 obtain⟨xs,xk,xp⟩:=x;simp only at*;have Kp:=fun W=>NK xp W (by omega);go_enter func146,ntmps146;go_wp2_with fail;generalize hW0:(w.alloc (.cells #[I0 xs,I0 xk,S0 xp] 83)).alloc (.cells #[I0 0,I0 0,.string ⟨#[]⟩] 83)=W0;have hB0:B0 w W0:=by rw[<-hW0];exact GH (G9 _ _) (G9 _ _)
 have hz0:W0.heap.size=w.heap.size+2:=by rw[<-hW0];simp
 have p0:W0.cell? ⟨w.heap.size,0,none⟩=some (I0 xs):=by rw[<-hW0];simp
 have r0:W0.cell? ⟨w.heap.size+1,0,none⟩=some (I0 0):=by rw[<-hW0];simp
 have p1:W0.cell? ⟨w.heap.size,1,none⟩=some (I0 xk):=by rw[<-hW0];simp
 have r1:W0.cell? ⟨w.heap.size+1,1,none⟩=some (I0 0):=by rw[<-hW0];simp
 have p2:W0.cell? ⟨w.heap.size,2,none⟩=some (S0 xp):=by rw[<-hW0];simp
 have r2:W0.cell? ⟨w.heap.size+1,2,none⟩=some (.string ⟨#[]⟩):=by rw[<-hW0];simp
 have pf:∀j,W0.frozen? ⟨w.heap.size,j,none⟩=false:=by intro j;rw[<-hW0];simp
 have rf:∀j,W0.frozen? ⟨w.heap.size+1,j,none⟩=false:=by intro j;rw[<-hW0];simp
 clear hW0;refine(Kp _).mono ?_;rintro e w1 ⟨rfl,hb1⟩;have c0:=(hb1.cell (p:=⟨w.heap.size,0,none⟩) (by simp only;omega)).trans p0;have d0:=(hb1.cell (p:=⟨w.heap.size+1,0,none⟩) (by simp only;omega)).trans r0;have g0:=(hb1.frozen (p:=⟨w.heap.size+1,0,none⟩) (by simp only;omega)).trans (rf 0);have c1:=(hb1.cell (p:=⟨w.heap.size,1,none⟩) (by simp only;omega)).trans p1;have d1:=(hb1.cell (p:=⟨w.heap.size+1,1,none⟩) (by simp only;omega)).trans r1;have g1:=(hb1.frozen (p:=⟨w.heap.size+1,1,none⟩) (by simp only;omega)).trans (rf 1);have c2:=(hb1.cell (p:=⟨w.heap.size,2,none⟩) (by simp only;omega)).trans p2;have d2:=(hb1.cell (p:=⟨w.heap.size+1,2,none⟩) (by simp only;omega)).trans r2;have g2:=(hb1.frozen (p:=⟨w.heap.size+1,2,none⟩) (by simp only;omega)).trans (rf 2);have f2:=(hb1.frozen (p:=⟨w.heap.size,2,none⟩) (by simp only;omega)).trans (pf 2);have s2:=I9 c2;have hB:=GH hB0 hb1;clear hb1 Kp hB0 hz0 pf rf p0 r0 p1 r1 p2 r2;go_wp2_with fail;refine bodyPost_ret (v:=.agg #[I0 xs,I0 xk,S0 xp]) (by simp[results,results146,go_sem,d0,d1,d2]) rfl ⟨rfl,?_⟩;exact(((hB.setCell (by simp) _).setCell (by simp) _).setCell (by simp) _)
theorem B01(v:Value)(xs:List DF)(w:World)(hv:IL w v xs)(hl:xs.length*48<=140737488355328)(hs:∀x∈xs,x.n.length<=140737488355328/\x.s.length<=140737488355328/\x.t.length<=140737488355328):
  Calls prog 139 #[v,.func (.func 140) #[] #[]] w fun e w'=>∃v',e=.returned v'/\GZ w' w.heap.size v' xs/\B0 w w':=by
 have CC:=fun W (hW:B0 w W)=>AZ8 v xs W (hv.next hW) hl;have HO:Hid (∀x∈xs,∀W,Calls prog 140 #[.agg #[S0 x.n,S0 x.s,S0 x.t]] W (R0 W (.agg #[S0 x.n,S0 x.s,S0 x.t]))):=G8 fun x hm W=>by
  have hx:=hs x hm;exact BJ9 x W hx.1 hx.2.1 hx.2.2
 obtain⟨a,c,rfl⟩:=GK hv;clear hv hs;go_enter func139,ntmps139;go_wp2_with fail;refine(CC _ (Below.refl _ _)).mono ?_;rintro e w1 ⟨v',rfl,ho,hb1⟩;have HB1:=G8 hb1;clear CC hb1;rcases ho with⟨rfl,rfl⟩|⟨g,cap,rfl,hg,ho⟩
 .go_wp2_with fail
  go_loopg [11] 1 (fun _ s wr=>s=I0 0/\wr=w1)
  case atStart=>exact⟨rfl,rfl⟩
  case round=>
   obtain⟨rfl,rfl⟩:=hrel;go_wp2_with fail;go_ret;exact⟨_,rfl,.inl ⟨rfl,rfl⟩,G7 HB1⟩
 .have HW:=G8 ho;have hgl:=ho.lt;clear ho;go_wp2_with fail
  go_loopg [11] xs.length (fun kx s wr=>∃k:Nat,s=I0 k/\k<=xs.length/\xs.length-k<=kx/\Hid (B0 w1 wr))
  case atStart=>exact⟨0,rfl,Nat.zero_le _,by omega,G8 (Below.refl _ _)⟩
  case round=>
   obtain⟨k,rfl,hk,hkx,hB⟩:=hrel;by_cases hlt:k<xs.length
   .obtain⟨x,hx⟩:∃x,xs[k]?=some x:=⟨_,List.getElem?_eq_getElem hlt⟩;have o:=(G7 HW).next (G7 hB);have QS:=o.lt;have e0:wr.cell? ⟨g,k*3,none⟩=some (S0 x.n):=by have:=o.row (k*3+0) _ (GY xs k x hx 0 (by decide));simpa using this
    have f0:=o.frozen (k*3);have e1:wr.cell? ⟨g,k*3+1,none⟩=some (S0 x.s):=by have:=o.row (k*3+1) _ (GY xs k x hx 1 (by decide));simpa using this
    have f1:=o.frozen (k*3+1);have e2:wr.cell? ⟨g,k*3+2,none⟩=some (S0 x.t):=by have:=o.row (k*3+2) _ (GY xs k x hx 2 (by decide));simpa using this
    have f2:=o.frozen (k*3+2);have CX:=G7 HO x (List.mem_of_getElem? hx);clear hx o;obtain⟨yn,ys,yt⟩:=x;simp only at e0 e1 e2 CX;go_wp2_with fail;refine(CX _).mono ?_;rintro e w2 ⟨rfl,hb2⟩;have d0:=(hb2.cell (p:=⟨g,k*3,none⟩) QS).trans e0;have g0:=(hb2.frozen (p:=⟨g,k*3,none⟩) QS).trans f0;have s0:=I9 d0;have d1:=(hb2.cell (p:=⟨g,k*3+1,none⟩) QS).trans e1;have g1:=(hb2.frozen (p:=⟨g,k*3+1,none⟩) QS).trans f1;have s1:=I9 d1;have d2:=(hb2.cell (p:=⟨g,k*3+2,none⟩) QS).trans e2;have g2:=(hb2.frozen (p:=⟨g,k*3+2,none⟩) QS).trans f2;have s2:=I9 d2;have hB2:=G8 (GH (G7 hB) hb2);clear hb2 CX e0 f0 e1 f1 e2 f2;go_wp2_with fail
    go_roundg (xs.length-(k+1))
    case measure=>omega
    case rel=>exact⟨k+1,rfl,by omega,Nat.le_refl _,hB2⟩
   .go_wp2_with fail;go_ret;exact⟨_,rfl,.inr ⟨g,cap,rfl,hg,(G7 HW).next (G7 hB)⟩,GH (G7 HB1) (G7 hB)⟩
theorem B02(v:Value)(xs:List GN)(w:World)(hv:IL w v xs)(hl:xs.length*72<=140737488355328)(hs:∀x∈xs,x.p.length<=140737488355328/\x.d.length<=140737488355328):
  Calls prog 141 #[v,.func (.func 142) #[] #[]] w fun e w'=>∃v',e=.returned v'/\GZ w' w.heap.size v' xs/\B0 w w':=by
 have CC:=fun W (hW:B0 w W)=>qZ v xs W (hv.next hW) hl;have HO:Hid (∀x∈xs,∀W,Calls prog 142 #[.agg #[I0 x.z,I0 x.o,I0 x.s,S0 x.p,S0 x.d,I0 x.v,I0 x.w]] W (R0 W (.agg #[I0 x.z,I0 x.o,I0 x.s,S0 x.p,S0 x.d,I0 x.v,I0 x.w]))):=G8 fun x hm W=>by
  have hx:=hs x hm;exact AA1 x W hx.1 hx.2
 obtain⟨a,c,rfl⟩:=GK hv;clear hv hs;go_enter func141,ntmps141;go_wp2_with fail;refine(CC _ (Below.refl _ _)).mono ?_;rintro e w1 ⟨v',rfl,ho,hb1⟩;have HB1:=G8 hb1;clear CC hb1;rcases ho with⟨rfl,rfl⟩|⟨g,cap,rfl,hg,ho⟩
 .go_wp2_with fail
  go_loopg [11] 1 (fun _ s wr=>s=I0 0/\wr=w1)
  case atStart=>exact⟨rfl,rfl⟩
  case round=>
   obtain⟨rfl,rfl⟩:=hrel;go_wp2_with fail;go_ret;exact⟨_,rfl,.inl ⟨rfl,rfl⟩,G7 HB1⟩
 .have HW:=G8 ho;have hgl:=ho.lt;clear ho;go_wp2_with fail
  go_loopg [11] xs.length (fun kx s wr=>∃k:Nat,s=I0 k/\k<=xs.length/\xs.length-k<=kx/\Hid (B0 w1 wr))
  case atStart=>exact⟨0,rfl,Nat.zero_le _,by omega,G8 (Below.refl _ _)⟩
  case round=>
   obtain⟨k,rfl,hk,hkx,hB⟩:=hrel;by_cases hlt:k<xs.length
   .obtain⟨x,hx⟩:∃x,xs[k]?=some x:=⟨_,List.getElem?_eq_getElem hlt⟩;have o:=(G7 HW).next (G7 hB);have QS:=o.lt;have e0:wr.cell? ⟨g,k*7,none⟩=some (I0 x.z):=by have:=o.row (k*7+0) _ (GY xs k x hx 0 (by decide));simpa using this
    have f0:=o.frozen (k*7);have e1:wr.cell? ⟨g,k*7+1,none⟩=some (I0 x.o):=by have:=o.row (k*7+1) _ (GY xs k x hx 1 (by decide));simpa using this
    have f1:=o.frozen (k*7+1);have e2:wr.cell? ⟨g,k*7+2,none⟩=some (I0 x.s):=by have:=o.row (k*7+2) _ (GY xs k x hx 2 (by decide));simpa using this
    have f2:=o.frozen (k*7+2);have e3:wr.cell? ⟨g,k*7+3,none⟩=some (S0 x.p):=by have:=o.row (k*7+3) _ (GY xs k x hx 3 (by decide));simpa using this
    have f3:=o.frozen (k*7+3);have e4:wr.cell? ⟨g,k*7+4,none⟩=some (S0 x.d):=by have:=o.row (k*7+4) _ (GY xs k x hx 4 (by decide));simpa using this
    have f4:=o.frozen (k*7+4);have e5:wr.cell? ⟨g,k*7+5,none⟩=some (I0 x.v):=by have:=o.row (k*7+5) _ (GY xs k x hx 5 (by decide));simpa using this
    have f5:=o.frozen (k*7+5);have e6:wr.cell? ⟨g,k*7+6,none⟩=some (I0 x.w):=by have:=o.row (k*7+6) _ (GY xs k x hx 6 (by decide));simpa using this
    have f6:=o.frozen (k*7+6);have CX:=G7 HO x (List.mem_of_getElem? hx);clear hx o;obtain⟨yz,yo,ys,yp,yd,yv,yw⟩:=x;simp only at e0 e1 e2 e3 e4 e5 e6 CX;go_wp2_with fail;refine(CX _).mono ?_;rintro e w2 ⟨rfl,hb2⟩;have d0:=(hb2.cell (p:=⟨g,k*7,none⟩) QS).trans e0;have g0:=(hb2.frozen (p:=⟨g,k*7,none⟩) QS).trans f0;have s0:=I9 d0;have d1:=(hb2.cell (p:=⟨g,k*7+1,none⟩) QS).trans e1;have g1:=(hb2.frozen (p:=⟨g,k*7+1,none⟩) QS).trans f1;have s1:=I9 d1;have d2:=(hb2.cell (p:=⟨g,k*7+2,none⟩) QS).trans e2;have g2:=(hb2.frozen (p:=⟨g,k*7+2,none⟩) QS).trans f2;have s2:=I9 d2;have d3:=(hb2.cell (p:=⟨g,k*7+3,none⟩) QS).trans e3;have g3:=(hb2.frozen (p:=⟨g,k*7+3,none⟩) QS).trans f3;have s3:=I9 d3;have d4:=(hb2.cell (p:=⟨g,k*7+4,none⟩) QS).trans e4;have g4:=(hb2.frozen (p:=⟨g,k*7+4,none⟩) QS).trans f4;have s4:=I9 d4;have d5:=(hb2.cell (p:=⟨g,k*7+5,none⟩) QS).trans e5;have g5:=(hb2.frozen (p:=⟨g,k*7+5,none⟩) QS).trans f5;have s5:=I9 d5;have d6:=(hb2.cell (p:=⟨g,k*7+6,none⟩) QS).trans e6;have g6:=(hb2.frozen (p:=⟨g,k*7+6,none⟩) QS).trans f6;have s6:=I9 d6;have hB2:=G8 (GH (G7 hB) hb2);clear hb2 CX e0 f0 e1 f1 e2 f2 e3 f3 e4 f4 e5 f5 e6 f6;go_wp2_with fail
    go_roundg (xs.length-(k+1))
    case measure=>omega
    case rel=>exact⟨k+1,rfl,by omega,Nat.le_refl _,hB2⟩
   .go_wp2_with fail;go_ret;exact⟨_,rfl,.inr ⟨g,cap,rfl,hg,(G7 HW).next (G7 hB)⟩,GH (G7 HB1) (G7 hB)⟩
theorem B03(v:Value)(xs:List Nd)(w:World)(hv:IL w v xs)(hl:xs.length*88<=140737488355328)(hs:∀x∈xs,x.p.length<=140737488355328/\x.d.length<=140737488355328):
  Calls prog 143 #[v,.func (.func 144) #[] #[]] w fun e w'=>∃v',e=.returned v'/\GZ w' w.heap.size v' xs/\B0 w w':=by
 have CC:=fun W (hW:B0 w W)=>AZ9 v xs W (hv.next hW) hl;have HO:Hid (∀x∈xs,∀W,Calls prog 144 #[.agg #[S0 x.p,S0 x.d,I0 x.c,I0 x.m,I0 x.q,I0 x.v,I0 x.k,I0 x.o,I0 x.n]] W (R0 W (.agg #[S0 x.p,S0 x.d,I0 x.c,I0 x.m,I0 x.q,I0 x.v,I0 x.k,I0 x.o,I0 x.n]))):=G8 fun x hm W=>by
  have hx:=hs x hm;exact BK0 x W hx.1 hx.2
 obtain⟨a,c,rfl⟩:=GK hv;clear hv hs;go_enter func143,ntmps143;go_wp2_with fail;refine(CC _ (Below.refl _ _)).mono ?_;rintro e w1 ⟨v',rfl,ho,hb1⟩;have HB1:=G8 hb1;clear CC hb1;rcases ho with⟨rfl,rfl⟩|⟨g,cap,rfl,hg,ho⟩
 .go_wp2_with fail
  go_loopg [11] 1 (fun _ s wr=>s=I0 0/\wr=w1)
  case atStart=>exact⟨rfl,rfl⟩
  case round=>
   obtain⟨rfl,rfl⟩:=hrel;go_wp2_with fail;go_ret;exact⟨_,rfl,.inl ⟨rfl,rfl⟩,G7 HB1⟩
 .have HW:=G8 ho;have hgl:=ho.lt;clear ho;go_wp2_with fail
  go_loopg [11] xs.length (fun kx s wr=>∃k:Nat,s=I0 k/\k<=xs.length/\xs.length-k<=kx/\Hid (B0 w1 wr))
  case atStart=>exact⟨0,rfl,Nat.zero_le _,by omega,G8 (Below.refl _ _)⟩
  case round=>
   obtain⟨k,rfl,hk,hkx,hB⟩:=hrel;by_cases hlt:k<xs.length
   .obtain⟨x,hx⟩:∃x,xs[k]?=some x:=⟨_,List.getElem?_eq_getElem hlt⟩;have o:=(G7 HW).next (G7 hB);have QS:=o.lt;have e0:wr.cell? ⟨g,k*9,none⟩=some (S0 x.p):=by have:=o.row (k*9+0) _ (GY xs k x hx 0 (by decide));simpa using this
    have f0:=o.frozen (k*9);have e1:wr.cell? ⟨g,k*9+1,none⟩=some (S0 x.d):=by have:=o.row (k*9+1) _ (GY xs k x hx 1 (by decide));simpa using this
    have f1:=o.frozen (k*9+1);have e2:wr.cell? ⟨g,k*9+2,none⟩=some (I0 x.c):=by have:=o.row (k*9+2) _ (GY xs k x hx 2 (by decide));simpa using this
    have f2:=o.frozen (k*9+2);have e3:wr.cell? ⟨g,k*9+3,none⟩=some (I0 x.m):=by have:=o.row (k*9+3) _ (GY xs k x hx 3 (by decide));simpa using this
    have f3:=o.frozen (k*9+3);have e4:wr.cell? ⟨g,k*9+4,none⟩=some (I0 x.q):=by have:=o.row (k*9+4) _ (GY xs k x hx 4 (by decide));simpa using this
    have f4:=o.frozen (k*9+4);have e5:wr.cell? ⟨g,k*9+5,none⟩=some (I0 x.v):=by have:=o.row (k*9+5) _ (GY xs k x hx 5 (by decide));simpa using this
    have f5:=o.frozen (k*9+5);have e6:wr.cell? ⟨g,k*9+6,none⟩=some (I0 x.k):=by have:=o.row (k*9+6) _ (GY xs k x hx 6 (by decide));simpa using this
    have f6:=o.frozen (k*9+6);have e7:wr.cell? ⟨g,k*9+7,none⟩=some (I0 x.o):=by have:=o.row (k*9+7) _ (GY xs k x hx 7 (by decide));simpa using this
    have f7:=o.frozen (k*9+7);have e8:wr.cell? ⟨g,k*9+8,none⟩=some (I0 x.n):=by have:=o.row (k*9+8) _ (GY xs k x hx 8 (by decide));simpa using this
    have f8:=o.frozen (k*9+8);have CX:=G7 HO x (List.mem_of_getElem? hx);clear hx o;obtain⟨yp,yd,yc,ym,yq,yv,yk,yo,yn⟩:=x;simp only at e0 e1 e2 e3 e4 e5 e6 e7 e8 CX;go_wp2_with fail;refine(CX _).mono ?_;rintro e w2 ⟨rfl,hb2⟩;have d0:=(hb2.cell (p:=⟨g,k*9,none⟩) QS).trans e0;have g0:=(hb2.frozen (p:=⟨g,k*9,none⟩) QS).trans f0;have s0:=I9 d0;have d1:=(hb2.cell (p:=⟨g,k*9+1,none⟩) QS).trans e1;have g1:=(hb2.frozen (p:=⟨g,k*9+1,none⟩) QS).trans f1;have s1:=I9 d1;have d2:=(hb2.cell (p:=⟨g,k*9+2,none⟩) QS).trans e2;have g2:=(hb2.frozen (p:=⟨g,k*9+2,none⟩) QS).trans f2;have s2:=I9 d2;have d3:=(hb2.cell (p:=⟨g,k*9+3,none⟩) QS).trans e3;have g3:=(hb2.frozen (p:=⟨g,k*9+3,none⟩) QS).trans f3;have s3:=I9 d3;have d4:=(hb2.cell (p:=⟨g,k*9+4,none⟩) QS).trans e4;have g4:=(hb2.frozen (p:=⟨g,k*9+4,none⟩) QS).trans f4;have s4:=I9 d4;have d5:=(hb2.cell (p:=⟨g,k*9+5,none⟩) QS).trans e5;have g5:=(hb2.frozen (p:=⟨g,k*9+5,none⟩) QS).trans f5;have s5:=I9 d5;have d6:=(hb2.cell (p:=⟨g,k*9+6,none⟩) QS).trans e6;have g6:=(hb2.frozen (p:=⟨g,k*9+6,none⟩) QS).trans f6;have s6:=I9 d6;have d7:=(hb2.cell (p:=⟨g,k*9+7,none⟩) QS).trans e7;have g7:=(hb2.frozen (p:=⟨g,k*9+7,none⟩) QS).trans f7;have s7:=I9 d7;have d8:=(hb2.cell (p:=⟨g,k*9+8,none⟩) QS).trans e8;have g8:=(hb2.frozen (p:=⟨g,k*9+8,none⟩) QS).trans f8;have s8:=I9 d8;have hB2:=G8 (GH (G7 hB) hb2);clear hb2 CX e0 f0 e1 f1 e2 f2 e3 f3 e4 f4 e5 f5 e6 f6 e7 f7 e8 f8;go_wp2_with fail
    go_roundg (xs.length-(k+1))
    case measure=>omega
    case rel=>exact⟨k+1,rfl,by omega,Nat.le_refl _,hB2⟩
   .go_wp2_with fail;go_ret;exact⟨_,rfl,.inr ⟨g,cap,rfl,hg,(G7 HW).next (G7 hB)⟩,GH (G7 HB1) (G7 hB)⟩
theorem B04(v:Value)(xs:List Wa)(w:World)(hv:IL w v xs)(hl:xs.length*32<=140737488355328)(hs:∀x∈xs,x.p.length<=140737488355328):
  Calls prog 145 #[v,.func (.func 146) #[] #[]] w fun e w'=>∃v',e=.returned v'/\GZ w' w.heap.size v' xs/\B0 w w':=by
 have CC:=fun W (hW:B0 w W)=>B00 v xs W (hv.next hW) hl;have HO:Hid (∀x∈xs,∀W,Calls prog 146 #[.agg #[I0 x.s,I0 x.k,S0 x.p]] W (R0 W (.agg #[I0 x.s,I0 x.k,S0 x.p]))):=G8 fun x hm W=>by
  have hx:=hs x hm;exact BK1 x W hx
 obtain⟨a,c,rfl⟩:=GK hv;clear hv hs;go_enter func145,ntmps145;go_wp2_with fail;refine(CC _ (Below.refl _ _)).mono ?_;rintro e w1 ⟨v',rfl,ho,hb1⟩;have HB1:=G8 hb1;clear CC hb1;rcases ho with⟨rfl,rfl⟩|⟨g,cap,rfl,hg,ho⟩
 .go_wp2_with fail
  go_loopg [11] 1 (fun _ s wr=>s=I0 0/\wr=w1)
  case atStart=>exact⟨rfl,rfl⟩
  case round=>
   obtain⟨rfl,rfl⟩:=hrel;go_wp2_with fail;go_ret;exact⟨_,rfl,.inl ⟨rfl,rfl⟩,G7 HB1⟩
 .have HW:=G8 ho;have hgl:=ho.lt;clear ho;go_wp2_with fail
  go_loopg [11] xs.length (fun kx s wr=>∃k:Nat,s=I0 k/\k<=xs.length/\xs.length-k<=kx/\Hid (B0 w1 wr))
  case atStart=>exact⟨0,rfl,Nat.zero_le _,by omega,G8 (Below.refl _ _)⟩
  case round=>
   obtain⟨k,rfl,hk,hkx,hB⟩:=hrel;by_cases hlt:k<xs.length
   .obtain⟨x,hx⟩:∃x,xs[k]?=some x:=⟨_,List.getElem?_eq_getElem hlt⟩;have o:=(G7 HW).next (G7 hB);have QS:=o.lt;have e0:wr.cell? ⟨g,k*3,none⟩=some (I0 x.s):=by have:=o.row (k*3+0) _ (GY xs k x hx 0 (by decide));simpa using this
    have f0:=o.frozen (k*3);have e1:wr.cell? ⟨g,k*3+1,none⟩=some (I0 x.k):=by have:=o.row (k*3+1) _ (GY xs k x hx 1 (by decide));simpa using this
    have f1:=o.frozen (k*3+1);have e2:wr.cell? ⟨g,k*3+2,none⟩=some (S0 x.p):=by have:=o.row (k*3+2) _ (GY xs k x hx 2 (by decide));simpa using this
    have f2:=o.frozen (k*3+2);have CX:=G7 HO x (List.mem_of_getElem? hx);clear hx o;obtain⟨ys,yk,yp⟩:=x;simp only at e0 e1 e2 CX;go_wp2_with fail;refine(CX _).mono ?_;rintro e w2 ⟨rfl,hb2⟩;have d0:=(hb2.cell (p:=⟨g,k*3,none⟩) QS).trans e0;have g0:=(hb2.frozen (p:=⟨g,k*3,none⟩) QS).trans f0;have s0:=I9 d0;have d1:=(hb2.cell (p:=⟨g,k*3+1,none⟩) QS).trans e1;have g1:=(hb2.frozen (p:=⟨g,k*3+1,none⟩) QS).trans f1;have s1:=I9 d1;have d2:=(hb2.cell (p:=⟨g,k*3+2,none⟩) QS).trans e2;have g2:=(hb2.frozen (p:=⟨g,k*3+2,none⟩) QS).trans f2;have s2:=I9 d2;have hB2:=G8 (GH (G7 hB) hb2);clear hb2 CX e0 f0 e1 f1 e2 f2;go_wp2_with fail
    go_roundg (xs.length-(k+1))
    case measure=>omega
    case rel=>exact⟨k+1,rfl,by omega,Nat.le_refl _,hB2⟩
   .go_wp2_with fail;go_ret;exact⟨_,rfl,.inr ⟨g,cap,rfl,hg,(G7 HW).next (G7 hB)⟩,GH (G7 HB1) (G7 hB)⟩
def dH(W:World)(k:Nat):Prop:=∃cs t,W.heap[k]?=some (.cells cs t (0,0))/\∀ (j:Nat) (s:ByteArray),cs[j]? ≠some (Value.string s)
theorem dH.set{W:World}{k j:Nat}{u:Value}(h:dH W k)(hu:∀s,u≠ .string s):dH (W.setCell ⟨k,j,none⟩ u) k:=by
 obtain⟨cs,t,h1,h2⟩:=h;refine⟨cs.setIfInBounds j u,t,GV u h1,fun i s hi=>?_⟩;rw[Array.getElem?_setIfInBounds]at hi
 split at hi
 .split at hi
  .exact hu s (Option.some.inj hi)
  .cases hi
 .exact h2 i s hi
theorem dH.no{W:World}{k j:Nat}{s:ByteArray}(h:dH W k):W.cell? ⟨k,j,none⟩≠some (.string s):=by
 obtain⟨cs,t,h1,h2⟩:=h;intro e;simp[World.cell?,h1]at e;exact h2 j s e
theorem IC.put{W:World}{b off k j:Nat}{cs:List Value}{u:Value}(h:IC W b off cs)(hk:b≠k):IC (W.setCell ⟨k,j,none⟩ u) b off cs:=fun i v hi=>by
 rw[World.cell?,Below.heap_setCell W ⟨k,j,none⟩ u b hk];exact h i v hi
theorem SN{W:World}{v:Value}{fs:List DF}(h:IV W v fs){k j:Nat}(hk:dH W k)(u:Value):IV (W.setCell ⟨k,j,none⟩ u) v fs:=by
 rcases h with h|⟨b,off,cap,rfl,h1,h2,h3,h0,h4⟩
 .exact .inl h
 .refine .inr ⟨b,off,cap,rfl,h1,h2,by simpa [World.setCell]using h3,h0,h4.put ?_⟩;rintro rfl;obtain⟨f,r,rfl⟩:=List.exists_cons_of_ne_nil h0;exact hk.no (h4.c0 (i:=0) (f:=f) rfl)
theorem BK2{W:World}{v:Value}{ts:List GN}(h:NC W v ts){k j:Nat}(hk:dH W k)(u:Value):NC (W.setCell ⟨k,j,none⟩ u) v ts:=by
 rcases h with h|⟨b,off,cap,rfl,h1,h2,h3,h0,h4⟩
 .exact .inl h
 .refine .inr ⟨b,off,cap,rfl,h1,h2,by simpa [World.setCell]using h3,h0,h4.put ?_⟩;rintro rfl;obtain⟨f,r,rfl⟩:=List.exists_cons_of_ne_nil h0;exact hk.no (h4.p (i:=0) (t:=f) rfl)
theorem AK6{W:World}{v:Value}{xs:List Nd}(h:IL W v xs){k j:Nat}(hk:dH W k)(u:Value):IL (W.setCell ⟨k,j,none⟩ u) v xs:=by
 rcases h with h|⟨b,off,cap,rfl,h1,h2,h3,h0,h4⟩
 .exact .inl h
 .refine .inr ⟨b,off,cap,rfl,h1,h2,by simpa [World.setCell]using h3,h0,h4.put ?_⟩;rintro rfl;obtain⟨f,r,rfl⟩:=List.exists_cons_of_ne_nil h0;exact hk.no (h4.n0 (i:=0) (x:=f) rfl)
theorem vY{W:World}{v:Value}{xs:List Wa}(h:IL W v xs){k j:Nat}(hk:dH W k)(u:Value):IL (W.setCell ⟨k,j,none⟩ u) v xs:=by
 rcases h with h|⟨b,off,cap,rfl,h1,h2,h3,h0,h4⟩
 .exact .inl h
 .refine .inr ⟨b,off,cap,rfl,h1,h2,by simpa [World.setCell]using h3,h0,h4.put ?_⟩;rintro rfl;obtain⟨f,r,rfl⟩:=List.exists_cons_of_ne_nil h0;exact hk.no (h4.w2 (i:=0) (x:=f) rfl)
def V7(v:Value)(k:Nat):Prop:=∀b off n c,v=.slice (some ⟨b,off,none⟩) n c->b≠k
theorem BK3{α:Type}[Lay α]{W:World}{v:Value}{xs:List α}(h:IL W v xs){k j:Nat}(hk:V7 v k)(u:Value):IL (W.setCell ⟨k,j,none⟩ u) v xs:=by
 rcases h with h|⟨b,off,cap,rfl,h1,h2,h3,h0,h4⟩
 .exact .inl h
 .exact .inr ⟨b,off,cap,rfl,h1,h2,by simpa [World.setCell]using h3,h0,h4.put (hk b off _ cap rfl)⟩
theorem vZ(n c k:Nat):V7 (.slice none n c) k:=fun b off n' c' h=>by simp at h
def OG(W:World)(k:Nat)(x0 x1 x2 x3 x4 x5 x6 x7 x8 x9:Value):World:=
 (((((((((W.setCell ⟨k,0,none⟩ x0).setCell ⟨k,1,none⟩ x1).setCell ⟨k,2,none⟩ x2).setCell ⟨k,3,none⟩ x3).setCell ⟨k,4,none⟩ x4).setCell ⟨k,5,none⟩ x5).setCell ⟨k,6,none⟩ x6).setCell ⟨k,7,none⟩ x7).setCell ⟨k,8,none⟩ x8).setCell ⟨k,9,none⟩ x9
theorem JL{w W:World}{k:Nat}(h:B0 w W)(hk:w.heap.size<=k)(x0 x1 x2 x3 x4 x5 x6 x7 x8 x9:Value):B0 w (OG W k x0 x1 x2 x3 x4 x5 x6 x7 x8 x9):=
 (((((((((h.setCell hk x0).setCell hk x1).setCell hk x2).setCell hk x3).setCell hk x4).setCell hk x5).setCell hk x6).setCell hk x7).setCell hk x8).setCell hk x9
def IG(W:World)(k:Nat)(up:Bool)(vd:Value)(id ep:Int)(vl:Value)(dn z:Int)(vn vs vw:Value):Prop:=
 W.heap[k]?=some (.cells #[.bool up,vd,I0 id,I0 ep,vl,I0 dn,I0 z,vn,vs,vw] 40 (0,0))
theorem IG.next{W V:World}{k:Nat}{up:Bool}{id ep dn z:Int}{vd vl vn vs vw:Value}(h:IG W k up vd id ep vl dn z vn vs vw)(hb:B0 W V):IG V k up vd id ep vl dn z vn vs vw:=(hb.block k (by unfold IG at h;exact(Array.getElem?_eq_some_iff.1 h).1)).trans h
theorem IG.lt{W:World}{k:Nat}{up:Bool}{id ep dn z:Int}{vd vl vn vs vw:Value}(h:IG W k up vd id ep vl dn z vn vs vw):k<W.heap.size:=by unfold IG at h;exact(Array.getElem?_eq_some_iff.1 h).1
theorem IG.new(w:World)(up:Bool)(id ep dn z:Int)(vd vl vn vs vw:Value):IG (w.alloc (.cells #[.bool up,vd,I0 id,I0 ep,vl,I0 dn,I0 z,vn,vs,vw] 40)) w.heap.size up vd id ep vl dn z vn vs vw:=heap_alloc_new w _
theorem IG.other{W:World}{k i j:Nat}{u:Value}{up:Bool}{id ep dn z:Int}{vd vl vn vs vw:Value}(h:IG W k up vd id ep vl dn z vn vs vw)(hk:k≠i):IG (W.setCell ⟨i,j,none⟩ u) k up vd id ep vl dn z vn vs vw:=(Below.heap_setCell W ⟨i,j,none⟩ u k hk).trans h
theorem IG.cells{W:World}{k:Nat}{up:Bool}{id ep dn z:Int}{vd vl vn vs vw:Value}(h:IG W k up vd id ep vl dn z vn vs vw):
  W.cell? ⟨k,0,none⟩=some (.bool up)/\W.cell? ⟨k,1,none⟩=some vd/\W.cell? ⟨k,2,none⟩=some (I0 id)/\W.cell? ⟨k,3,none⟩=some (I0 ep)/\W.cell? ⟨k,4,none⟩=some vl/\W.cell? ⟨k,5,none⟩=some (I0 dn)/\W.cell? ⟨k,6,none⟩=some (I0 z)/\W.cell? ⟨k,7,none⟩=some vn/\W.cell? ⟨k,8,none⟩=some vs/\W.cell? ⟨k,9,none⟩=some vw:=by
 unfold IG at h;refine⟨?_,?_,?_,?_,?_,?_,?_,?_,?_,?_⟩<;>simp[World.cell?,h]
theorem IG.GU{W:World}{k:Nat}{up:Bool}{id ep dn z:Int}{vd vl vn vs vw:Value}(h:IG W k up vd id ep vl dn z vn vs vw)(j:Nat):W.frozen? ⟨k,j,none⟩=false:=by
 unfold IG at h;simp[World.frozen?,h]
theorem IG.gU{W:World}{k:Nat}{up:Bool}{id ep dn z:Int}{ad al an ai aw:Option Addr}{nd cd nl cl nn cn ni ci nw cw:Nat}(h:IG W k up (.slice ad nd cd) id ep (.slice al nl cl) dn z (.slice an nn cn) (.slice ai ni ci) (.slice aw nw cw)):dH W k:=by
 refine⟨_,_,h,fun j s hj=>?_⟩;have hm:=Array.mem_of_getElem? hj;simp at hm
theorem rC{W:World}{k:Nat}(hk:dH W k){up:Bool}{id ep dn z:Int}{ad al an ai aw:Option Addr}{nd cd nl cl nn cn ni ci nw cw:Nat}{v:Value}{s:Sv}(hs:∀vd vl vn vs vw,v=.agg #[.bool s.up,vd,I0 s.id,I0 s.ep,vl,I0 s.dn,I0 s.tr.z,vn,vs,vw]->V7 vs k)(h:SvV W v s):
  SvV (OG W k (.bool up) (.slice ad nd cd) (I0 id) (I0 ep) (.slice al nl cl) (I0 dn) (I0 z) (.slice an nn cn) (.slice ai ni ci) (.slice aw nw cw)) v s:=by
 have one:∀ {W:World} {j:Nat} {u:Value},(∀t,u≠ .string t)->dH W k->SvV W v s->dH (W.setCell ⟨k,j,none⟩ u) k/\SvV (W.setCell ⟨k,j,none⟩ u) v s:=by
  intro W j u hu hk h;refine⟨hk.set hu,?_⟩;obtain⟨vd,vl,vn,vs,vw,rfl,h1,h2,h3,h4,h5⟩:=h;exact⟨vd,vl,vn,vs,vw,rfl,SN h1 hk u,BK2 h2 hk u,AK6 h3 hk u,BK3 h4 (hs _ _ _ _ _ rfl) u,vY h5 hk u⟩
 obtain⟨k0,h0⟩:=one (j:=0) (u:=.bool up) (by simp) hk h;obtain⟨k1,h1⟩:=one (j:=1) (u:=.slice ad nd cd) (by simp) k0 h0;obtain⟨k2,h2⟩:=one (j:=2) (u:=I0 id) (by simp) k1 h1;obtain⟨k3,h3⟩:=one (j:=3) (u:=I0 ep) (by simp) k2 h2;obtain⟨k4,h4⟩:=one (j:=4) (u:=.slice al nl cl) (by simp) k3 h3;obtain⟨k5,h5⟩:=one (j:=5) (u:=I0 dn) (by simp) k4 h4;obtain⟨k6,h6⟩:=one (j:=6) (u:=I0 z) (by simp) k5 h5;obtain⟨k7,h7⟩:=one (j:=7) (u:=.slice an nn cn) (by simp) k6 h6;obtain⟨k8,h8⟩:=one (j:=8) (u:=.slice ai ni ci) (by simp) k7 h7;exact(one (j:=9) (u:=.slice aw nw cw) (by simp) k8 h8).2
theorem YK{α:Type}[Lay α]{W:World}{B k:Nat}{v:Value}{xs:List α}(h:GZ W B v xs)(hk:k<B):V7 v k:=by
 intro b off n c e;rcases h with⟨rfl,_⟩|⟨g,cap,rfl,hB,_⟩
 .simp at e
 .simp only[Value.slice.injEq,Option.some.injEq,Addr.mk.injEq]at e;omega
theorem bI{W:World}{k:Nat}(hk:dH W k){s:Sv}{ad al an ai aw:Option Addr}{nd cd nl cl nn cn ni ci nw cw:Nat}(D:IV W (.slice ad nd cd) s.fs)(L:NC W (.slice al nl cl) s.ts)(N:IL W (.slice an nn cn) s.tr.ns)(I:IL W (.slice ai ni ci) s.tr.ss)(hI:V7 (.slice ai ni ci) k)(X:IL W (.slice aw nw cw) s.ws):
  SvV (OG W k (.bool s.up) (.slice ad nd cd) (I0 s.id) (I0 s.ep) (.slice al nl cl) (I0 s.dn) (I0 s.tr.z) (.slice an nn cn) (.slice ai ni ci) (.slice aw nw cw)) (.agg #[.bool s.up,.slice ad nd cd,I0 s.id,I0 s.ep,.slice al nl cl,I0 s.dn,I0 s.tr.z,.slice an nn cn,.slice ai ni ci,.slice aw nw cw]) s:=
 rC hk (fun vd vl vn vs vw e=>by simp only[Value.agg.injEq,Array.mk.injEq,List.cons.injEq]at e;rw[<-e.2.2.2.2.2.2.2.2.1];exact hI) ⟨_,_,_,_,_,rfl,D,L,N,I,X⟩
end Go.Proofs.YtppjdeblncincaaGreatDoor
