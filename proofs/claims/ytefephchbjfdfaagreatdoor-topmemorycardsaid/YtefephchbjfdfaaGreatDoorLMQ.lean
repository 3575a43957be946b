/-
  Part.
-/
import Derived.Test.YtefephchbjfdfaaGreatDoorLMG
import Derived.Test.YtefephchbjfdfaaGreatDoorLMP
import Derived.Test.YtefephchbjfdfaaGreatDoorLMM
set_option maxRecDepth 20000
set_option maxHeartbeats 8000000
namespace Go.Proofs.YtefephchbjfdfaaGreatDoor
structure Sv where
 up:Bool
 fs:List DF
 id:Int
 ep:Int
 ts:List GV
 dn:Int
 tr:Tr
 ws:List Wa
def sv0:Sv:=⟨false,[],0,0,[],0,tr0,[]⟩
def JL:List UInt8:=[101,112,111,99,104]
theorem ZK:JF JL=true:=by decide
theorem vO:gV []=0:=(qP (.inl (by decide))).1
theorem VJ:J6 0=0:=by decide
theorem aX(z:Int):(QX z).length<=30:=by
 cases hg:KP z with
 |false=>rw[(A96 hg).1];simp
 |true=>
  have h:=MC.1 hg;rw[(jR hg).1];have h1:=jP 9 (z/2147483648).toNat (by omega);have h2:=jP 9 (z%2147483648).toNat (by omega);simp only[List.length_append,List.length_cons];omega
end Go.Proofs.YtefephchbjfdfaaGreatDoor
namespace Go.Proofs.YtefephchbjfdfaaGreatDoor
open Go.RowKit Go.Proofs.Tryz
def SvV(w:World)(v:Value)(s:Sv):Prop:=∃vd vl vn vs vw,v=.agg #[.bool s.up,vd,I0 s.id,I0 s.ep,vl,I0 s.dn,I0 s.tr.z,vn,vs,vw]/\IY w vd s.fs/\NQ w vl s.ts/\IV w vn s.tr.ns/\IV w vs s.tr.ss/\IV w vw s.ws
theorem SvV.next{w w':World}{v:Value}{s:Sv}(h:SvV w v s)(hb:B0 w w'):SvV w' v s:=by
 obtain⟨vd,vl,vn,vs,vw,rfl,h1,h2,h3,h4,h5⟩:=h;exact⟨vd,vl,vn,vs,vw,rfl,h1.next hb,h2.next hb,h3.next hb,h4.next hb,h5.next hb⟩
theorem SvV.alloc{w:World}{v:Value}{s:Sv}(h:SvV w v s)(o:Obj):SvV (w.alloc o) v s:=h.next (GI _ _)
theorem SvV.five{w:World}{v:Value}{s:Sv}(h:SvV w v s):∃ad nd cd al cl an cn ai ci aw cw,
  v=.agg #[.bool s.up,.slice ad nd cd,I0 s.id,I0 s.ep,.slice al s.ts.length cl,I0 s.dn,I0 s.tr.z,.slice an s.tr.ns.length cn,.slice ai s.tr.ss.length ci,.slice aw s.ws.length cw]/\
  IY w (.slice ad nd cd) s.fs/\NQ w (.slice al s.ts.length cl) s.ts/\IV w (.slice an s.tr.ns.length cn) s.tr.ns/\IV w (.slice ai s.tr.ss.length ci) s.tr.ss/\IV w (.slice aw s.ws.length cw) s.ws:=by
 obtain⟨vd,vl,vn,vs,vw,rfl,h1,h2,h3,h4,h5⟩:=h;obtain⟨ad,nd,cd,rfl⟩:=J4 h1;obtain⟨al,cl,rfl⟩:=MH h2;obtain⟨an,cn,rfl⟩:=GU h3;obtain⟨ai,ci,rfl⟩:=GU h4;obtain⟨aw,cw,rfl⟩:=GU h5;exact⟨ad,nd,cd,al,cl,an,cn,ai,ci,aw,cw,rfl,h1,h2,h3,h4,h5⟩
def svZ:Value:=.agg #[.bool false,N0,I0 0,I0 0,N0,I0 0,I0 0,N0,N0,N0]
theorem SvV.zero(w:World):SvV w svZ sv0:=⟨_,_,_,_,_,rfl,IY.nil w,NQ.nil w,IV.nil w,IV.nil w,IV.nil w⟩
def bH(w:World)(s:Sv)(E:Int)(e:Ending)(w':World):Prop:=∃v,e=.returned (.tuple #[v,I0 E])/\SvV w' v s/\B0 w w'
theorem AK1{w w':World}{E:Int}{e:Ending}(he:e=.returned (.tuple #[svZ,I0 E]))(hb:B0 w w'):bH w sv0 E e w':=⟨_,he,SvV.zero w',hb⟩
instance layF:Lay DF:=⟨3,JH,63,fun _=>rfl,fun x u hu=>by simp[JH]at hu;rcases hu with rfl|rfl|rfl<;>rfl⟩
theorem BJ2(fs:List DF):GL fs=I9 fs:=by
 induction fs with
 |nil=>rfl
 |cons f r ih=>rw[JW,ih];rfl
theorem OU{w:World}{v:Value}{fs:List DF}:IV w v fs↔IY w v fs:=by unfold IV IY;rw[BJ2]
theorem NW(s:List UInt8)(w:World)(hs:s.length<=281474976710656):
  Calls prog 63 #[S0 s] w (R0 w (S0 s)):=P9 s w hs
theorem AA3(a:Addr)(cap:Nat)(xs:List DF)(w:World)(hl:xs.length*48<=140737488355328)(hc:∀j u,(GL xs)[j]?=some u->w.cell? (a.add j)=some u):
  Calls prog 23 #[.slice (some a) xs.length cap] w fun e w'=>∃v',e=.returned v'/\I5 w' w.heap.size v' xs/\B0 w w':=by
 have q22:∀ (w:World) (a:Option Addr) (n c n' c':Nat),(binOp .eql 43 (.slice a n c) (.slice none n' c')).run prog w=.ok (.bool a.isNone) w:=fun w a n c n' c'=>Lib.run_eql_slice_nil w _ _ a n c n' c' underlying43;have H:=GH hc;clear hc;obtain⟨i0,hi0,hz0,hz1,hz2⟩:=UN;go_enter func23,ntmps23;go_wp2_with (at_builtin;refine wpList_append_own _ rfl _ _ 43 rfl w.heap.size 63 i0 _ 3 48 underlying43 hi0 hz0 hz1 hz2 rfl (by decide) _ _ _ rfl (World.ownsRow_made w #[] 0 (Nat.le_refl _) (Nat.zero_le _) (by simp)) a xs.length cap (GL xs) rfl ?qc1 ?qc2 ?qc3 ?qc4 ?qc5 ?qc6 ?_)
 case qc1=>exact GX xs
 case qc2=>
  intro j u hj;exact Lib.cell?_alloc_some _ (G9 H j u hj)
 case qc3=>exact JK xs
 case qc4=>simp only[maxLen];omega
 case qc5=>omega
 case qc6=>simp
 intro v' w1 hown hgrow hnil
 go_wp2
 go_ret;refine⟨v',rfl,I5.LD (by first|exact hown|(simp only[List.nil_append,Nat.zero_add]at hown;exact hown)|simpa using hown),?_⟩;exact((Below.refl _ w).alloc (Nat.le_refl _) _).grown hgrow (by simp) (by intro k hk;simp[Value.ownBlock]at hk;omega)
theorem C32(n c:Nat)(w:World):
  Calls prog 23 #[.slice none n c] w fun e w'=>e=.returned (N0)/\w'=w:=by
 have q22:∀ (w:World) (a:Option Addr) (n c n' c':Nat),(binOp .eql 43 (.slice a n c) (.slice none n' c')).run prog w=.ok (.bool a.isNone) w:=fun w a n c n' c'=>Lib.run_eql_slice_nil w _ _ a n c n' c' underlying43;go_enter func23,ntmps23
 go_wp2
 go_ret;exact⟨rfl,rfl⟩
theorem B00(v:Value)(xs:List DF)(w:World)(hv:IV w v xs)(hl:xs.length*48<=140737488355328):
  Calls prog 23 #[v] w fun e w'=>∃v',e=.returned v'/\I5 w' w.heap.size v' xs/\B0 w w':=by
 rcases hv with⟨a,cap,rfl,rfl,_⟩|⟨b,off,cap,rfl,_,_,hb,_,hr⟩
 .cases a with
  |none=>exact(C32 0 cap w).mono fun e w' ⟨he,hw⟩=>⟨_,he,.inl ⟨rfl,rfl⟩,by rw[hw];exact Below.refl _ _⟩
  |some a=>exact AA3 a cap [] w (by simp) (fun j u h=>by simp[GL]at h)
 .exact AA3 ⟨b,off,none⟩ cap xs w hl (fun j u h=>by rw[Addr.add_lit];exact hr j u h)
theorem BJ3(x:DF)(w:World)(hn:x.n.length<=140737488355328)(hs:x.s.length<=140737488355328)(ht:x.t.length<=140737488355328):
  Calls prog 145 #[.agg #[S0 x.n,S0 x.s,S0 x.t]] w (R0 w (.agg #[S0 x.n,S0 x.s,S0 x.t])):=by
 obtain⟨xn,xs,xt⟩:=x;simp only at*;have Kn:=fun W=>NW xn W (by omega);have Ks:=fun W=>NW xs W (by omega);have Kt:=fun W=>NW xt W (by omega);go_enter func145,ntmps145;go_wp2_with fail;generalize hW0:(w.alloc (.cells #[S0 xn,S0 xs,S0 xt] 63)).alloc (.cells #[.string ⟨#[]⟩,.string ⟨#[]⟩,.string ⟨#[]⟩] 63)=W0;have hB0:B0 w W0:=by rw[<-hW0];exact GK (GI _ _) (GI _ _)
 have hz0:W0.heap.size=w.heap.size+2:=by rw[<-hW0];simp
 have p0:W0.cell? ⟨w.heap.size,0,none⟩=some (S0 xn):=by rw[<-hW0];simp
 have r0:W0.cell? ⟨w.heap.size+1,0,none⟩=some (.string ⟨#[]⟩):=by rw[<-hW0];simp
 have p1:W0.cell? ⟨w.heap.size,1,none⟩=some (S0 xs):=by rw[<-hW0];simp
 have r1:W0.cell? ⟨w.heap.size+1,1,none⟩=some (.string ⟨#[]⟩):=by rw[<-hW0];simp
 have p2:W0.cell? ⟨w.heap.size,2,none⟩=some (S0 xt):=by rw[<-hW0];simp
 have r2:W0.cell? ⟨w.heap.size+1,2,none⟩=some (.string ⟨#[]⟩):=by rw[<-hW0];simp
 have pf:∀j,W0.frozen? ⟨w.heap.size,j,none⟩=false:=by intro j;rw[<-hW0];simp
 have rf:∀j,W0.frozen? ⟨w.heap.size+1,j,none⟩=false:=by intro j;rw[<-hW0];simp
 clear hW0;have d0:∀d os,(Sort.grow (redrawn W0 d) os).cell? ⟨w.heap.size,0,none⟩=some (S0 xn):=fun d os=>cell_regrown p0 d os;have g0:∀d os,(Sort.grow (redrawn W0 d) os).frozen? ⟨w.heap.size,0,none⟩=false:=fun d os=>by rw[(below_regrown W0 d os).frozen (p:=⟨w.heap.size,0,none⟩) (by simp only;omega)];exact pf 0
 have s0:∀d os,(Sort.grow (redrawn W0 d) os).setCell ⟨w.heap.size,0,none⟩ (S0 xn)=Sort.grow (redrawn W0 d) os:=fun d os=>IE (d0 d os);have c0:=fun d os=>Calls.regrown_of (w:=W0) (d:=d) (os:=os) (Kn _);have d1:∀d os,(Sort.grow (redrawn W0 d) os).cell? ⟨w.heap.size,1,none⟩=some (S0 xs):=fun d os=>cell_regrown p1 d os;have g1:∀d os,(Sort.grow (redrawn W0 d) os).frozen? ⟨w.heap.size,1,none⟩=false:=fun d os=>by rw[(below_regrown W0 d os).frozen (p:=⟨w.heap.size,1,none⟩) (by simp only;omega)];exact pf 1
 have s1:∀d os,(Sort.grow (redrawn W0 d) os).setCell ⟨w.heap.size,1,none⟩ (S0 xs)=Sort.grow (redrawn W0 d) os:=fun d os=>IE (d1 d os);have c1:=fun d os=>Calls.regrown_of (w:=W0) (d:=d) (os:=os) (Ks _);have d2:∀d os,(Sort.grow (redrawn W0 d) os).cell? ⟨w.heap.size,2,none⟩=some (S0 xt):=fun d os=>cell_regrown p2 d os;have g2:∀d os,(Sort.grow (redrawn W0 d) os).frozen? ⟨w.heap.size,2,none⟩=false:=fun d os=>by rw[(below_regrown W0 d os).frozen (p:=⟨w.heap.size,2,none⟩) (by simp only;omega)];exact pf 2
 have s2:∀d os,(Sort.grow (redrawn W0 d) os).setCell ⟨w.heap.size,2,none⟩ (S0 xt)=Sort.grow (redrawn W0 d) os:=fun d os=>IE (d2 d os);have c2:=fun d os=>Calls.regrown_of (w:=W0) (d:=d) (os:=os) (Kt _);refine wp_region_quiet_below (by kernel_rfl) (by kernel_rfl) ?_
 repeat (first|go_big_quiet_step (first|with_reducible exact c0 _ _|with_reducible exact c1 _ _|with_reducible exact c2 _ _)|quiet_step (first|with_reducible exact c0 _ _|with_reducible exact c1 _ _|with_reducible exact c2 _ _))
 refine wpQuiet_nil ?_;intro _ hw';obtain⟨⟨dq,osq⟩,hw''⟩:=hw';subst hw'';have hb1:=below_regrown W0 dq osq;have hB:=GK hB0 hb1;have e0:=(hb1.cell (p:=⟨w.heap.size,0,none⟩) (by simp only;omega)).trans p0;have u0:=(hb1.cell (p:=⟨w.heap.size+1,0,none⟩) (by simp only;omega)).trans r0;have v0:=(hb1.frozen (p:=⟨w.heap.size+1,0,none⟩) (by simp only;omega)).trans (rf 0);have e1:=(hb1.cell (p:=⟨w.heap.size,1,none⟩) (by simp only;omega)).trans p1;have u1:=(hb1.cell (p:=⟨w.heap.size+1,1,none⟩) (by simp only;omega)).trans r1;have v1:=(hb1.frozen (p:=⟨w.heap.size+1,1,none⟩) (by simp only;omega)).trans (rf 1);have e2:=(hb1.cell (p:=⟨w.heap.size,2,none⟩) (by simp only;omega)).trans p2;have u2:=(hb1.cell (p:=⟨w.heap.size+1,2,none⟩) (by simp only;omega)).trans r2;have v2:=(hb1.frozen (p:=⟨w.heap.size+1,2,none⟩) (by simp only;omega)).trans (rf 2);generalize Sort.grow (redrawn W0 dq) osq=w1 at*;clear hb1 hB0 hz0 pf rf p0 r0 p1 r1 p2 r2 d0 g0 s0 c0 Kn d1 g1 s1 c1 Ks d2 g2 s2 c2 Kt;go_wp2_with fail;refine bodyPost_ret (v:=.agg #[S0 xn,S0 xs,S0 xt]) (by simp[results,results145,go_sem,u0,u1,u2]) rfl ⟨rfl,?_⟩;exact(((hB.setCell (by simp) _).setCell (by simp) _).setCell (by simp) _)
theorem AA4(a:Addr)(cap:Nat)(xs:List GV)(w:World)(hl:xs.length*72<=140737488355328)(hc:∀j u,(GL xs)[j]?=some u->w.cell? (a.add j)=some u):
  Calls prog 24 #[.slice (some a) xs.length cap] w fun e w'=>∃v',e=.returned v'/\I5 w' w.heap.size v' xs/\B0 w w':=by
 have q22:∀ (w:World) (a:Option Addr) (n c n' c':Nat),(binOp .eql 46 (.slice a n c) (.slice none n' c')).run prog w=.ok (.bool a.isNone) w:=fun w a n c n' c'=>Lib.run_eql_slice_nil w _ _ a n c n' c' underlying46;have H:=GH hc;clear hc;obtain⟨i0,hi0,hz0,hz1,hz2⟩:=qQ;go_enter func24,ntmps24;go_wp2_with (at_builtin;refine wpList_append_own _ rfl _ _ 46 rfl w.heap.size 59 i0 _ 7 72 underlying46 hi0 hz0 hz1 hz2 rfl (by decide) _ _ _ rfl (World.ownsRow_made w #[] 0 (Nat.le_refl _) (Nat.zero_le _) (by simp)) a xs.length cap (GL xs) rfl ?qc1 ?qc2 ?qc3 ?qc4 ?qc5 ?qc6 ?_)
 case qc1=>exact GX xs
 case qc2=>
  intro j u hj;exact Lib.cell?_alloc_some _ (G9 H j u hj)
 case qc3=>exact JK xs
 case qc4=>simp only[maxLen];omega
 case qc5=>omega
 case qc6=>simp
 intro v' w1 hown hgrow hnil
 go_wp2
 go_ret;refine⟨v',rfl,I5.LD (by first|exact hown|(simp only[List.nil_append,Nat.zero_add]at hown;exact hown)|simpa using hown),?_⟩;exact((Below.refl _ w).alloc (Nat.le_refl _) _).grown hgrow (by simp) (by intro k hk;simp[Value.ownBlock]at hk;omega)
theorem C33(n c:Nat)(w:World):
  Calls prog 24 #[.slice none n c] w fun e w'=>e=.returned (N0)/\w'=w:=by
 have q22:∀ (w:World) (a:Option Addr) (n c n' c':Nat),(binOp .eql 46 (.slice a n c) (.slice none n' c')).run prog w=.ok (.bool a.isNone) w:=fun w a n c n' c'=>Lib.run_eql_slice_nil w _ _ a n c n' c' underlying46;go_enter func24,ntmps24
 go_wp2
 go_ret;exact⟨rfl,rfl⟩
theorem rD(v:Value)(xs:List GV)(w:World)(hv:IV w v xs)(hl:xs.length*72<=140737488355328):
  Calls prog 24 #[v] w fun e w'=>∃v',e=.returned v'/\I5 w' w.heap.size v' xs/\B0 w w':=by
 rcases hv with⟨a,cap,rfl,rfl,_⟩|⟨b,off,cap,rfl,_,_,hb,_,hr⟩
 .cases a with
  |none=>exact(C33 0 cap w).mono fun e w' ⟨he,hw⟩=>⟨_,he,.inl ⟨rfl,rfl⟩,by rw[hw];exact Below.refl _ _⟩
  |some a=>exact AA4 a cap [] w (by simp) (fun j u h=>by simp[GL]at h)
 .exact AA4 ⟨b,off,none⟩ cap xs w hl (fun j u h=>by rw[Addr.add_lit];exact hr j u h)
theorem AA5(x:GV)(w:World)(hp:x.p.length<=140737488355328)(hd:x.d.length<=140737488355328):
  Calls prog 147 #[.agg #[I0 x.z,I0 x.o,I0 x.s,S0 x.p,S0 x.d,I0 x.v,I0 x.w]] w (R0 w (.agg #[I0 x.z,I0 x.o,I0 x.s,S0 x.p,S0 x.d,I0 x.v,I0 x.w])):=by
 obtain⟨xz,xo,xs,xp,xd,xv,xw⟩:=x;simp only at*;have Kp:=fun W=>NW xp W (by omega);have Kd:=fun W=>NW xd W (by omega);go_enter func147,ntmps147;go_wp2_with fail;generalize hW0:(w.alloc (.cells #[I0 xz,I0 xo,I0 xs,S0 xp,S0 xd,I0 xv,I0 xw] 59)).alloc (.cells #[I0 0,I0 0,I0 0,.string ⟨#[]⟩,.string ⟨#[]⟩,I0 0,I0 0] 59)=W0;have hB0:B0 w W0:=by rw[<-hW0];exact GK (GI _ _) (GI _ _)
 have hz0:W0.heap.size=w.heap.size+2:=by rw[<-hW0];simp
 have p0:W0.cell? ⟨w.heap.size,0,none⟩=some (I0 xz):=by rw[<-hW0];simp
 have r0:W0.cell? ⟨w.heap.size+1,0,none⟩=some (I0 0):=by rw[<-hW0];simp
 have p1:W0.cell? ⟨w.heap.size,1,none⟩=some (I0 xo):=by rw[<-hW0];simp
 have r1:W0.cell? ⟨w.heap.size+1,1,none⟩=some (I0 0):=by rw[<-hW0];simp
 have p2:W0.cell? ⟨w.heap.size,2,none⟩=some (I0 xs):=by rw[<-hW0];simp
 have r2:W0.cell? ⟨w.heap.size+1,2,none⟩=some (I0 0):=by rw[<-hW0];simp
 have p3:W0.cell? ⟨w.heap.size,3,none⟩=some (S0 xp):=by rw[<-hW0];simp
 have r3:W0.cell? ⟨w.heap.size+1,3,none⟩=some (.string ⟨#[]⟩):=by rw[<-hW0];simp
 have p4:W0.cell? ⟨w.heap.size,4,none⟩=some (S0 xd):=by rw[<-hW0];simp
 have r4:W0.cell? ⟨w.heap.size+1,4,none⟩=some (.string ⟨#[]⟩):=by rw[<-hW0];simp
 have p5:W0.cell? ⟨w.heap.size,5,none⟩=some (I0 xv):=by rw[<-hW0];simp
 have r5:W0.cell? ⟨w.heap.size+1,5,none⟩=some (I0 0):=by rw[<-hW0];simp
 have p6:W0.cell? ⟨w.heap.size,6,none⟩=some (I0 xw):=by rw[<-hW0];simp
 have r6:W0.cell? ⟨w.heap.size+1,6,none⟩=some (I0 0):=by rw[<-hW0];simp
 have pf:∀j,W0.frozen? ⟨w.heap.size,j,none⟩=false:=by intro j;rw[<-hW0];simp
 have rf:∀j,W0.frozen? ⟨w.heap.size+1,j,none⟩=false:=by intro j;rw[<-hW0];simp
 clear hW0;have d3:∀d os,(Sort.grow (redrawn W0 d) os).cell? ⟨w.heap.size,3,none⟩=some (S0 xp):=fun d os=>cell_regrown p3 d os;have g3:∀d os,(Sort.grow (redrawn W0 d) os).frozen? ⟨w.heap.size,3,none⟩=false:=fun d os=>by rw[(below_regrown W0 d os).frozen (p:=⟨w.heap.size,3,none⟩) (by simp only;omega)];exact pf 3
 have s3:∀d os,(Sort.grow (redrawn W0 d) os).setCell ⟨w.heap.size,3,none⟩ (S0 xp)=Sort.grow (redrawn W0 d) os:=fun d os=>IE (d3 d os);have c3:=fun d os=>Calls.regrown_of (w:=W0) (d:=d) (os:=os) (Kp _);have d4:∀d os,(Sort.grow (redrawn W0 d) os).cell? ⟨w.heap.size,4,none⟩=some (S0 xd):=fun d os=>cell_regrown p4 d os;have g4:∀d os,(Sort.grow (redrawn W0 d) os).frozen? ⟨w.heap.size,4,none⟩=false:=fun d os=>by rw[(below_regrown W0 d os).frozen (p:=⟨w.heap.size,4,none⟩) (by simp only;omega)];exact pf 4
 have s4:∀d os,(Sort.grow (redrawn W0 d) os).setCell ⟨w.heap.size,4,none⟩ (S0 xd)=Sort.grow (redrawn W0 d) os:=fun d os=>IE (d4 d os);have c4:=fun d os=>Calls.regrown_of (w:=W0) (d:=d) (os:=os) (Kd _);refine wp_region_quiet_below (by kernel_rfl) (by kernel_rfl) ?_
 repeat (first|go_big_quiet_step (first|with_reducible exact c3 _ _|with_reducible exact c4 _ _)|quiet_step (first|with_reducible exact c3 _ _|with_reducible exact c4 _ _))
 refine wpQuiet_nil ?_;intro _ hw';obtain⟨⟨dq,osq⟩,hw''⟩:=hw';subst hw'';have hb1:=below_regrown W0 dq osq;have hB:=GK hB0 hb1;have e0:=(hb1.cell (p:=⟨w.heap.size,0,none⟩) (by simp only;omega)).trans p0;have u0:=(hb1.cell (p:=⟨w.heap.size+1,0,none⟩) (by simp only;omega)).trans r0;have v0:=(hb1.frozen (p:=⟨w.heap.size+1,0,none⟩) (by simp only;omega)).trans (rf 0);have e1:=(hb1.cell (p:=⟨w.heap.size,1,none⟩) (by simp only;omega)).trans p1;have u1:=(hb1.cell (p:=⟨w.heap.size+1,1,none⟩) (by simp only;omega)).trans r1;have v1:=(hb1.frozen (p:=⟨w.heap.size+1,1,none⟩) (by simp only;omega)).trans (rf 1);have e2:=(hb1.cell (p:=⟨w.heap.size,2,none⟩) (by simp only;omega)).trans p2;have u2:=(hb1.cell (p:=⟨w.heap.size+1,2,none⟩) (by simp only;omega)).trans r2;have v2:=(hb1.frozen (p:=⟨w.heap.size+1,2,none⟩) (by simp only;omega)).trans (rf 2);have e3:=(hb1.cell (p:=⟨w.heap.size,3,none⟩) (by simp only;omega)).trans p3;have u3:=(hb1.cell (p:=⟨w.heap.size+1,3,none⟩) (by simp only;omega)).trans r3;have v3:=(hb1.frozen (p:=⟨w.heap.size+1,3,none⟩) (by simp only;omega)).trans (rf 3);have e4:=(hb1.cell (p:=⟨w.heap.size,4,none⟩) (by simp only;omega)).trans p4;have u4:=(hb1.cell (p:=⟨w.heap.size+1,4,none⟩) (by simp only;omega)).trans r4;have v4:=(hb1.frozen (p:=⟨w.heap.size+1,4,none⟩) (by simp only;omega)).trans (rf 4);have e5:=(hb1.cell (p:=⟨w.heap.size,5,none⟩) (by simp only;omega)).trans p5;have u5:=(hb1.cell (p:=⟨w.heap.size+1,5,none⟩) (by simp only;omega)).trans r5;have v5:=(hb1.frozen (p:=⟨w.heap.size+1,5,none⟩) (by simp only;omega)).trans (rf 5);have e6:=(hb1.cell (p:=⟨w.heap.size,6,none⟩) (by simp only;omega)).trans p6;have u6:=(hb1.cell (p:=⟨w.heap.size+1,6,none⟩) (by simp only;omega)).trans r6;have v6:=(hb1.frozen (p:=⟨w.heap.size+1,6,none⟩) (by simp only;omega)).trans (rf 6);generalize Sort.grow (redrawn W0 dq) osq=w1 at*;clear hb1 hB0 hz0 pf rf p0 r0 p1 r1 p2 r2 p3 r3 p4 r4 p5 r5 p6 r6 d3 g3 s3 c3 Kp d4 g4 s4 c4 Kd;go_wp2_with fail;refine bodyPost_ret (v:=.agg #[I0 xz,I0 xo,I0 xs,S0 xp,S0 xd,I0 xv,I0 xw]) (by simp[results,results147,go_sem,u0,u1,u2,u3,u4,u5,u6]) rfl ⟨rfl,?_⟩;exact(((((((hB.setCell (by simp) _).setCell (by simp) _).setCell (by simp) _).setCell (by simp) _).setCell (by simp) _).setCell (by simp) _).setCell (by simp) _)
theorem AA6(a:Addr)(cap:Nat)(xs:List Nd)(w:World)(hl:xs.length*88<=140737488355328)(hc:∀j u,(GL xs)[j]?=some u->w.cell? (a.add j)=some u):
  Calls prog 25 #[.slice (some a) xs.length cap] w fun e w'=>∃v',e=.returned v'/\I5 w' w.heap.size v' xs/\B0 w w':=by
 have q22:∀ (w:World) (a:Option Addr) (n c n' c':Nat),(binOp .eql 49 (.slice a n c) (.slice none n' c')).run prog w=.ok (.bool a.isNone) w:=fun w a n c n' c'=>Lib.run_eql_slice_nil w _ _ a n c n' c' underlying49;have H:=GH hc;clear hc;obtain⟨i0,hi0,hz0,hz1,hz2⟩:=AK7;go_enter func25,ntmps25;go_wp2_with (at_builtin;refine wpList_append_own _ rfl _ _ 49 rfl w.heap.size 61 i0 _ 9 88 underlying49 hi0 hz0 hz1 hz2 rfl (by decide) _ _ _ rfl (World.ownsRow_made w #[] 0 (Nat.le_refl _) (Nat.zero_le _) (by simp)) a xs.length cap (GL xs) rfl ?qc1 ?qc2 ?qc3 ?qc4 ?qc5 ?qc6 ?_)
 case qc1=>exact GX xs
 case qc2=>
  intro j u hj;exact Lib.cell?_alloc_some _ (G9 H j u hj)
 case qc3=>exact JK xs
 case qc4=>simp only[maxLen];omega
 case qc5=>omega
 case qc6=>simp
 intro v' w1 hown hgrow hnil
 go_wp2
 go_ret;refine⟨v',rfl,I5.LD (by first|exact hown|(simp only[List.nil_append,Nat.zero_add]at hown;exact hown)|simpa using hown),?_⟩;exact((Below.refl _ w).alloc (Nat.le_refl _) _).grown hgrow (by simp) (by intro k hk;simp[Value.ownBlock]at hk;omega)
theorem C34(n c:Nat)(w:World):
  Calls prog 25 #[.slice none n c] w fun e w'=>e=.returned (N0)/\w'=w:=by
 have q22:∀ (w:World) (a:Option Addr) (n c n' c':Nat),(binOp .eql 49 (.slice a n c) (.slice none n' c')).run prog w=.ok (.bool a.isNone) w:=fun w a n c n' c'=>Lib.run_eql_slice_nil w _ _ a n c n' c' underlying49;go_enter func25,ntmps25
 go_wp2
 go_ret;exact⟨rfl,rfl⟩
theorem B01(v:Value)(xs:List Nd)(w:World)(hv:IV w v xs)(hl:xs.length*88<=140737488355328):
  Calls prog 25 #[v] w fun e w'=>∃v',e=.returned v'/\I5 w' w.heap.size v' xs/\B0 w w':=by
 rcases hv with⟨a,cap,rfl,rfl,_⟩|⟨b,off,cap,rfl,_,_,hb,_,hr⟩
 .cases a with
  |none=>exact(C34 0 cap w).mono fun e w' ⟨he,hw⟩=>⟨_,he,.inl ⟨rfl,rfl⟩,by rw[hw];exact Below.refl _ _⟩
  |some a=>exact AA6 a cap [] w (by simp) (fun j u h=>by simp[GL]at h)
 .exact AA6 ⟨b,off,none⟩ cap xs w hl (fun j u h=>by rw[Addr.add_lit];exact hr j u h)
theorem BJ4(x:Nd)(w:World)(hp:x.p.length<=140737488355328)(hd:x.d.length<=140737488355328):
  Calls prog 149 #[.agg #[S0 x.p,S0 x.d,I0 x.c,I0 x.m,I0 x.q,I0 x.v,I0 x.k,I0 x.o,I0 x.n]] w (R0 w (.agg #[S0 x.p,S0 x.d,I0 x.c,I0 x.m,I0 x.q,I0 x.v,I0 x.k,I0 x.o,I0 x.n])):=by
 obtain⟨xp,xd,xc,xm,xq,xv,xk,xo,xn⟩:=x;simp only at*;have Kp:=fun W=>NW xp W (by omega);have Kd:=fun W=>NW xd W (by omega);go_enter func149,ntmps149;go_wp2_with fail;generalize hW0:(w.alloc (.cells #[S0 xp,S0 xd,I0 xc,I0 xm,I0 xq,I0 xv,I0 xk,I0 xo,I0 xn] 61)).alloc (.cells #[.string ⟨#[]⟩,.string ⟨#[]⟩,I0 0,I0 0,I0 0,I0 0,I0 0,I0 0,I0 0] 61)=W0;have hB0:B0 w W0:=by rw[<-hW0];exact GK (GI _ _) (GI _ _)
 have hz0:W0.heap.size=w.heap.size+2:=by rw[<-hW0];simp
 have p0:W0.cell? ⟨w.heap.size,0,none⟩=some (S0 xp):=by rw[<-hW0];simp
 have r0:W0.cell? ⟨w.heap.size+1,0,none⟩=some (.string ⟨#[]⟩):=by rw[<-hW0];simp
 have p1:W0.cell? ⟨w.heap.size,1,none⟩=some (S0 xd):=by rw[<-hW0];simp
 have r1:W0.cell? ⟨w.heap.size+1,1,none⟩=some (.string ⟨#[]⟩):=by rw[<-hW0];simp
 have p2:W0.cell? ⟨w.heap.size,2,none⟩=some (I0 xc):=by rw[<-hW0];simp
 have r2:W0.cell? ⟨w.heap.size+1,2,none⟩=some (I0 0):=by rw[<-hW0];simp
 have p3:W0.cell? ⟨w.heap.size,3,none⟩=some (I0 xm):=by rw[<-hW0];simp
 have r3:W0.cell? ⟨w.heap.size+1,3,none⟩=some (I0 0):=by rw[<-hW0];simp
 have p4:W0.cell? ⟨w.heap.size,4,none⟩=some (I0 xq):=by rw[<-hW0];simp
 have r4:W0.cell? ⟨w.heap.size+1,4,none⟩=some (I0 0):=by rw[<-hW0];simp
 have p5:W0.cell? ⟨w.heap.size,5,none⟩=some (I0 xv):=by rw[<-hW0];simp
 have r5:W0.cell? ⟨w.heap.size+1,5,none⟩=some (I0 0):=by rw[<-hW0];simp
 have p6:W0.cell? ⟨w.heap.size,6,none⟩=some (I0 xk):=by rw[<-hW0];simp
 have r6:W0.cell? ⟨w.heap.size+1,6,none⟩=some (I0 0):=by rw[<-hW0];simp
 have p7:W0.cell? ⟨w.heap.size,7,none⟩=some (I0 xo):=by rw[<-hW0];simp
 have r7:W0.cell? ⟨w.heap.size+1,7,none⟩=some (I0 0):=by rw[<-hW0];simp
 have p8:W0.cell? ⟨w.heap.size,8,none⟩=some (I0 xn):=by rw[<-hW0];simp
 have r8:W0.cell? ⟨w.heap.size+1,8,none⟩=some (I0 0):=by rw[<-hW0];simp
 have pf:∀j,W0.frozen? ⟨w.heap.size,j,none⟩=false:=by intro j;rw[<-hW0];simp
 have rf:∀j,W0.frozen? ⟨w.heap.size+1,j,none⟩=false:=by intro j;rw[<-hW0];simp
 clear hW0;have d0:∀d os,(Sort.grow (redrawn W0 d) os).cell? ⟨w.heap.size,0,none⟩=some (S0 xp):=fun d os=>cell_regrown p0 d os;have g0:∀d os,(Sort.grow (redrawn W0 d) os).frozen? ⟨w.heap.size,0,none⟩=false:=fun d os=>by rw[(below_regrown W0 d os).frozen (p:=⟨w.heap.size,0,none⟩) (by simp only;omega)];exact pf 0
 have s0:∀d os,(Sort.grow (redrawn W0 d) os).setCell ⟨w.heap.size,0,none⟩ (S0 xp)=Sort.grow (redrawn W0 d) os:=fun d os=>IE (d0 d os);have c0:=fun d os=>Calls.regrown_of (w:=W0) (d:=d) (os:=os) (Kp _);have d1:∀d os,(Sort.grow (redrawn W0 d) os).cell? ⟨w.heap.size,1,none⟩=some (S0 xd):=fun d os=>cell_regrown p1 d os;have g1:∀d os,(Sort.grow (redrawn W0 d) os).frozen? ⟨w.heap.size,1,none⟩=false:=fun d os=>by rw[(below_regrown W0 d os).frozen (p:=⟨w.heap.size,1,none⟩) (by simp only;omega)];exact pf 1
 have s1:∀d os,(Sort.grow (redrawn W0 d) os).setCell ⟨w.heap.size,1,none⟩ (S0 xd)=Sort.grow (redrawn W0 d) os:=fun d os=>IE (d1 d os);have c1:=fun d os=>Calls.regrown_of (w:=W0) (d:=d) (os:=os) (Kd _);refine wp_region_quiet_below (by kernel_rfl) (by kernel_rfl) ?_
 repeat (first|go_big_quiet_step (first|with_reducible exact c0 _ _|with_reducible exact c1 _ _)|quiet_step (first|with_reducible exact c0 _ _|with_reducible exact c1 _ _))
 refine wpQuiet_nil ?_;intro _ hw';obtain⟨⟨dq,osq⟩,hw''⟩:=hw';subst hw'';have hb1:=below_regrown W0 dq osq;have hB:=GK hB0 hb1;have e0:=(hb1.cell (p:=⟨w.heap.size,0,none⟩) (by simp only;omega)).trans p0;have u0:=(hb1.cell (p:=⟨w.heap.size+1,0,none⟩) (by simp only;omega)).trans r0;have v0:=(hb1.frozen (p:=⟨w.heap.size+1,0,none⟩) (by simp only;omega)).trans (rf 0);have e1:=(hb1.cell (p:=⟨w.heap.size,1,none⟩) (by simp only;omega)).trans p1;have u1:=(hb1.cell (p:=⟨w.heap.size+1,1,none⟩) (by simp only;omega)).trans r1;have v1:=(hb1.frozen (p:=⟨w.heap.size+1,1,none⟩) (by simp only;omega)).trans (rf 1);have e2:=(hb1.cell (p:=⟨w.heap.size,2,none⟩) (by simp only;omega)).trans p2;have u2:=(hb1.cell (p:=⟨w.heap.size+1,2,none⟩) (by simp only;omega)).trans r2;have v2:=(hb1.frozen (p:=⟨w.heap.size+1,2,none⟩) (by simp only;omega)).trans (rf 2);have e3:=(hb1.cell (p:=⟨w.heap.size,3,none⟩) (by simp only;omega)).trans p3;have u3:=(hb1.cell (p:=⟨w.heap.size+1,3,none⟩) (by simp only;omega)).trans r3;have v3:=(hb1.frozen (p:=⟨w.heap.size+1,3,none⟩) (by simp only;omega)).trans (rf 3);have e4:=(hb1.cell (p:=⟨w.heap.size,4,none⟩) (by simp only;omega)).trans p4;have u4:=(hb1.cell (p:=⟨w.heap.size+1,4,none⟩) (by simp only;omega)).trans r4;have v4:=(hb1.frozen (p:=⟨w.heap.size+1,4,none⟩) (by simp only;omega)).trans (rf 4);have e5:=(hb1.cell (p:=⟨w.heap.size,5,none⟩) (by simp only;omega)).trans p5;have u5:=(hb1.cell (p:=⟨w.heap.size+1,5,none⟩) (by simp only;omega)).trans r5;have v5:=(hb1.frozen (p:=⟨w.heap.size+1,5,none⟩) (by simp only;omega)).trans (rf 5);have e6:=(hb1.cell (p:=⟨w.heap.size,6,none⟩) (by simp only;omega)).trans p6;have u6:=(hb1.cell (p:=⟨w.heap.size+1,6,none⟩) (by simp only;omega)).trans r6;have v6:=(hb1.frozen (p:=⟨w.heap.size+1,6,none⟩) (by simp only;omega)).trans (rf 6);have e7:=(hb1.cell (p:=⟨w.heap.size,7,none⟩) (by simp only;omega)).trans p7;have u7:=(hb1.cell (p:=⟨w.heap.size+1,7,none⟩) (by simp only;omega)).trans r7;have v7:=(hb1.frozen (p:=⟨w.heap.size+1,7,none⟩) (by simp only;omega)).trans (rf 7);have e8:=(hb1.cell (p:=⟨w.heap.size,8,none⟩) (by simp only;omega)).trans p8;have u8:=(hb1.cell (p:=⟨w.heap.size+1,8,none⟩) (by simp only;omega)).trans r8;have v8:=(hb1.frozen (p:=⟨w.heap.size+1,8,none⟩) (by simp only;omega)).trans (rf 8);generalize Sort.grow (redrawn W0 dq) osq=w1 at*;clear hb1 hB0 hz0 pf rf p0 r0 p1 r1 p2 r2 p3 r3 p4 r4 p5 r5 p6 r6 p7 r7 p8 r8 d0 g0 s0 c0 Kp d1 g1 s1 c1 Kd;go_wp2_with fail;refine bodyPost_ret (v:=.agg #[S0 xp,S0 xd,I0 xc,I0 xm,I0 xq,I0 xv,I0 xk,I0 xo,I0 xn]) (by simp[results,results149,go_sem,u0,u1,u2,u3,u4,u5,u6,u7,u8]) rfl ⟨rfl,?_⟩;exact(((((((((hB.setCell (by simp) _).setCell (by simp) _).setCell (by simp) _).setCell (by simp) _).setCell (by simp) _).setCell (by simp) _).setCell (by simp) _).setCell (by simp) _).setCell (by simp) _)
theorem AA7(a:Addr)(cap:Nat)(xs:List Wa)(w:World)(hl:xs.length*32<=140737488355328)(hc:∀j u,(GL xs)[j]?=some u->w.cell? (a.add j)=some u):
  Calls prog 27 #[.slice (some a) xs.length cap] w fun e w'=>∃v',e=.returned v'/\I5 w' w.heap.size v' xs/\B0 w w':=by
 have q22:∀ (w:World) (a:Option Addr) (n c n' c':Nat),(binOp .eql 53 (.slice a n c) (.slice none n' c')).run prog w=.ok (.bool a.isNone) w:=fun w a n c n' c'=>Lib.run_eql_slice_nil w _ _ a n c n' c' underlying53;have H:=GH hc;clear hc;obtain⟨i0,hi0,hz0,hz1,hz2⟩:=C25;go_enter func27,ntmps27;go_wp2_with (at_builtin;refine wpList_append_own _ rfl _ _ 53 rfl w.heap.size 65 i0 _ 3 32 underlying53 hi0 hz0 hz1 hz2 rfl (by decide) _ _ _ rfl (World.ownsRow_made w #[] 0 (Nat.le_refl _) (Nat.zero_le _) (by simp)) a xs.length cap (GL xs) rfl ?qc1 ?qc2 ?qc3 ?qc4 ?qc5 ?qc6 ?_)
 case qc1=>exact GX xs
 case qc2=>
  intro j u hj;exact Lib.cell?_alloc_some _ (G9 H j u hj)
 case qc3=>exact JK xs
 case qc4=>simp only[maxLen];omega
 case qc5=>omega
 case qc6=>simp
 intro v' w1 hown hgrow hnil
 go_wp2
 go_ret;refine⟨v',rfl,I5.LD (by first|exact hown|(simp only[List.nil_append,Nat.zero_add]at hown;exact hown)|simpa using hown),?_⟩;exact((Below.refl _ w).alloc (Nat.le_refl _) _).grown hgrow (by simp) (by intro k hk;simp[Value.ownBlock]at hk;omega)
theorem C35(n c:Nat)(w:World):
  Calls prog 27 #[.slice none n c] w fun e w'=>e=.returned (N0)/\w'=w:=by
 have q22:∀ (w:World) (a:Option Addr) (n c n' c':Nat),(binOp .eql 53 (.slice a n c) (.slice none n' c')).run prog w=.ok (.bool a.isNone) w:=fun w a n c n' c'=>Lib.run_eql_slice_nil w _ _ a n c n' c' underlying53;go_enter func27,ntmps27
 go_wp2
 go_ret;exact⟨rfl,rfl⟩
theorem B02(v:Value)(xs:List Wa)(w:World)(hv:IV w v xs)(hl:xs.length*32<=140737488355328):
  Calls prog 27 #[v] w fun e w'=>∃v',e=.returned v'/\I5 w' w.heap.size v' xs/\B0 w w':=by
 rcases hv with⟨a,cap,rfl,rfl,_⟩|⟨b,off,cap,rfl,_,_,hb,_,hr⟩
 .cases a with
  |none=>exact(C35 0 cap w).mono fun e w' ⟨he,hw⟩=>⟨_,he,.inl ⟨rfl,rfl⟩,by rw[hw];exact Below.refl _ _⟩
  |some a=>exact AA7 a cap [] w (by simp) (fun j u h=>by simp[GL]at h)
 .exact AA7 ⟨b,off,none⟩ cap xs w hl (fun j u h=>by rw[Addr.add_lit];exact hr j u h)
theorem BJ5(x:Wa)(w:World)(hp:x.p.length<=140737488355328):
  Calls prog 151 #[.agg #[I0 x.s,I0 x.k,S0 x.p]] w (R0 w (.agg #[I0 x.s,I0 x.k,S0 x.p])):=by
 obtain⟨xs,xk,xp⟩:=x;simp only at*;have Kp:=fun W=>NW xp W (by omega);go_enter func151,ntmps151;go_wp2_with fail;generalize hW0:(w.alloc (.cells #[I0 xs,I0 xk,S0 xp] 65)).alloc (.cells #[I0 0,I0 0,.string ⟨#[]⟩] 65)=W0;have hB0:B0 w W0:=by rw[<-hW0];exact GK (GI _ _) (GI _ _)
 have hz0:W0.heap.size=w.heap.size+2:=by rw[<-hW0];simp
 have p0:W0.cell? ⟨w.heap.size,0,none⟩=some (I0 xs):=by rw[<-hW0];simp
 have r0:W0.cell? ⟨w.heap.size+1,0,none⟩=some (I0 0):=by rw[<-hW0];simp
 have p1:W0.cell? ⟨w.heap.size,1,none⟩=some (I0 xk):=by rw[<-hW0];simp
 have r1:W0.cell? ⟨w.heap.size+1,1,none⟩=some (I0 0):=by rw[<-hW0];simp
 have p2:W0.cell? ⟨w.heap.size,2,none⟩=some (S0 xp):=by rw[<-hW0];simp
 have r2:W0.cell? ⟨w.heap.size+1,2,none⟩=some (.string ⟨#[]⟩):=by rw[<-hW0];simp
 have pf:∀j,W0.frozen? ⟨w.heap.size,j,none⟩=false:=by intro j;rw[<-hW0];simp
 have rf:∀j,W0.frozen? ⟨w.heap.size+1,j,none⟩=false:=by intro j;rw[<-hW0];simp
 clear hW0;refine(Kp _).mono ?_;rintro e w1 ⟨rfl,hb1⟩;have c0:=(hb1.cell (p:=⟨w.heap.size,0,none⟩) (by simp only;omega)).trans p0;have d0:=(hb1.cell (p:=⟨w.heap.size+1,0,none⟩) (by simp only;omega)).trans r0;have g0:=(hb1.frozen (p:=⟨w.heap.size+1,0,none⟩) (by simp only;omega)).trans (rf 0);have c1:=(hb1.cell (p:=⟨w.heap.size,1,none⟩) (by simp only;omega)).trans p1;have d1:=(hb1.cell (p:=⟨w.heap.size+1,1,none⟩) (by simp only;omega)).trans r1;have g1:=(hb1.frozen (p:=⟨w.heap.size+1,1,none⟩) (by simp only;omega)).trans (rf 1);have c2:=(hb1.cell (p:=⟨w.heap.size,2,none⟩) (by simp only;omega)).trans p2;have d2:=(hb1.cell (p:=⟨w.heap.size+1,2,none⟩) (by simp only;omega)).trans r2;have g2:=(hb1.frozen (p:=⟨w.heap.size+1,2,none⟩) (by simp only;omega)).trans (rf 2);have f2:=(hb1.frozen (p:=⟨w.heap.size,2,none⟩) (by simp only;omega)).trans (pf 2);have s2:=IE c2;have hB:=GK hB0 hb1;clear hb1 Kp hB0 hz0 pf rf p0 r0 p1 r1 p2 r2;go_wp2_with fail;refine bodyPost_ret (v:=.agg #[I0 xs,I0 xk,S0 xp]) (by simp[results,results151,go_sem,d0,d1,d2]) rfl ⟨rfl,?_⟩;exact(((hB.setCell (by simp) _).setCell (by simp) _).setCell (by simp) _)
theorem B03(v:Value)(xs:List DF)(w:World)(hv:IV w v xs)(hl:xs.length*48<=140737488355328)(hs:∀x∈xs,x.n.length<=140737488355328/\x.s.length<=140737488355328/\x.t.length<=140737488355328):
  Calls prog 144 #[v,.func (.func 145) #[] #[]] w fun e w'=>∃v',e=.returned v'/\I5 w' w.heap.size v' xs/\B0 w w':=by
 have CC:=fun W (hW:B0 w W)=>B00 v xs W (hv.next hW) hl;have HO:Hid (∀x∈xs,∀W,Calls prog 145 #[.agg #[S0 x.n,S0 x.s,S0 x.t]] W (R0 W (.agg #[S0 x.n,S0 x.s,S0 x.t]))):=GH fun x hm W=>by
  have hx:=hs x hm;exact BJ3 x W hx.1 hx.2.1 hx.2.2
 obtain⟨a,c,rfl⟩:=GU hv;clear hv hs;go_enter func144,ntmps144;go_wp2_with fail;refine(CC _ (Below.refl _ _)).mono ?_;rintro e w1 ⟨v',rfl,ho,hb1⟩;have HB1:=GH hb1;clear CC hb1;rcases ho with⟨rfl,rfl⟩|⟨g,cap,rfl,hg,ho⟩
 .go_wp2_with fail
  go_loopg [11] 1 (fun _ s wr=>s=I0 0/\wr=w1)
  case atStart=>exact⟨rfl,rfl⟩
  case round=>
   obtain⟨rfl,rfl⟩:=hrel;go_wp2_with fail;go_ret;exact⟨_,rfl,.inl ⟨rfl,rfl⟩,G9 HB1⟩
 .have HW:=GH ho;have hgl:=ho.lt;clear ho;go_wp2_with fail
  go_loopg [11] xs.length (fun kx s wr=>∃k:Nat,s=I0 k/\k<=xs.length/\xs.length-k<=kx/\Hid (B0 w1 wr))
  case atStart=>exact⟨0,rfl,Nat.zero_le _,by omega,GH (Below.refl _ _)⟩
  case round=>
   obtain⟨k,rfl,hk,hkx,hB⟩:=hrel;by_cases hlt:k<xs.length
   .obtain⟨x,hx⟩:∃x,xs[k]?=some x:=⟨_,List.getElem?_eq_getElem hlt⟩;have o:=(G9 HW).next (G9 hB);have RG:=o.lt;have e0:wr.cell? ⟨g,k*3,none⟩=some (S0 x.n):=by have:=o.row (k*3+0) _ (GZ xs k x hx 0 (by decide));simpa using this
    have f0:=o.frozen (k*3);have e1:wr.cell? ⟨g,k*3+1,none⟩=some (S0 x.s):=by have:=o.row (k*3+1) _ (GZ xs k x hx 1 (by decide));simpa using this
    have f1:=o.frozen (k*3+1);have e2:wr.cell? ⟨g,k*3+2,none⟩=some (S0 x.t):=by have:=o.row (k*3+2) _ (GZ xs k x hx 2 (by decide));simpa using this
    have f2:=o.frozen (k*3+2);have CX:=G9 HO x (List.mem_of_getElem? hx);clear hx o;obtain⟨yn,ys,yt⟩:=x;simp only at e0 e1 e2 CX;go_wp2_with fail;refine(CX _).mono ?_;rintro e w2 ⟨rfl,hb2⟩;have d0:=(hb2.cell (p:=⟨g,k*3,none⟩) RG).trans e0;have g0:=(hb2.frozen (p:=⟨g,k*3,none⟩) RG).trans f0;have s0:=IE d0;have d1:=(hb2.cell (p:=⟨g,k*3+1,none⟩) RG).trans e1;have g1:=(hb2.frozen (p:=⟨g,k*3+1,none⟩) RG).trans f1;have s1:=IE d1;have d2:=(hb2.cell (p:=⟨g,k*3+2,none⟩) RG).trans e2;have g2:=(hb2.frozen (p:=⟨g,k*3+2,none⟩) RG).trans f2;have s2:=IE d2;have hB2:=GH (GK (G9 hB) hb2);clear hb2 CX e0 f0 e1 f1 e2 f2;go_wp2_with fail
    go_roundg (xs.length-(k+1))
    case measure=>omega
    case rel=>exact⟨k+1,rfl,by omega,Nat.le_refl _,hB2⟩
   .go_wp2_with fail;go_ret;exact⟨_,rfl,.inr ⟨g,cap,rfl,hg,(G9 HW).next (G9 hB)⟩,GK (G9 HB1) (G9 hB)⟩
theorem B04(v:Value)(xs:List GV)(w:World)(hv:IV w v xs)(hl:xs.length*72<=140737488355328)(hs:∀x∈xs,x.p.length<=140737488355328/\x.d.length<=140737488355328):
  Calls prog 146 #[v,.func (.func 147) #[] #[]] w fun e w'=>∃v',e=.returned v'/\I5 w' w.heap.size v' xs/\B0 w w':=by
 have CC:=fun W (hW:B0 w W)=>rD v xs W (hv.next hW) hl;have HO:Hid (∀x∈xs,∀W,Calls prog 147 #[.agg #[I0 x.z,I0 x.o,I0 x.s,S0 x.p,S0 x.d,I0 x.v,I0 x.w]] W (R0 W (.agg #[I0 x.z,I0 x.o,I0 x.s,S0 x.p,S0 x.d,I0 x.v,I0 x.w]))):=GH fun x hm W=>by
  have hx:=hs x hm;exact AA5 x W hx.1 hx.2
 obtain⟨a,c,rfl⟩:=GU hv;clear hv hs;go_enter func146,ntmps146;go_wp2_with fail;refine(CC _ (Below.refl _ _)).mono ?_;rintro e w1 ⟨v',rfl,ho,hb1⟩;have HB1:=GH hb1;clear CC hb1;rcases ho with⟨rfl,rfl⟩|⟨g,cap,rfl,hg,ho⟩
 .go_wp2_with fail
  go_loopg [11] 1 (fun _ s wr=>s=I0 0/\wr=w1)
  case atStart=>exact⟨rfl,rfl⟩
  case round=>
   obtain⟨rfl,rfl⟩:=hrel;go_wp2_with fail;go_ret;exact⟨_,rfl,.inl ⟨rfl,rfl⟩,G9 HB1⟩
 .have HW:=GH ho;have hgl:=ho.lt;clear ho;go_wp2_with fail
  go_loopg [11] xs.length (fun kx s wr=>∃k:Nat,s=I0 k/\k<=xs.length/\xs.length-k<=kx/\Hid (B0 w1 wr))
  case atStart=>exact⟨0,rfl,Nat.zero_le _,by omega,GH (Below.refl _ _)⟩
  case round=>
   obtain⟨k,rfl,hk,hkx,hB⟩:=hrel;by_cases hlt:k<xs.length
   .obtain⟨x,hx⟩:∃x,xs[k]?=some x:=⟨_,List.getElem?_eq_getElem hlt⟩;have o:=(G9 HW).next (G9 hB);have RG:=o.lt;have e0:wr.cell? ⟨g,k*7,none⟩=some (I0 x.z):=by have:=o.row (k*7+0) _ (GZ xs k x hx 0 (by decide));simpa using this
    have f0:=o.frozen (k*7);have e1:wr.cell? ⟨g,k*7+1,none⟩=some (I0 x.o):=by have:=o.row (k*7+1) _ (GZ xs k x hx 1 (by decide));simpa using this
    have f1:=o.frozen (k*7+1);have e2:wr.cell? ⟨g,k*7+2,none⟩=some (I0 x.s):=by have:=o.row (k*7+2) _ (GZ xs k x hx 2 (by decide));simpa using this
    have f2:=o.frozen (k*7+2);have e3:wr.cell? ⟨g,k*7+3,none⟩=some (S0 x.p):=by have:=o.row (k*7+3) _ (GZ xs k x hx 3 (by decide));simpa using this
    have f3:=o.frozen (k*7+3);have e4:wr.cell? ⟨g,k*7+4,none⟩=some (S0 x.d):=by have:=o.row (k*7+4) _ (GZ xs k x hx 4 (by decide));simpa using this
    have f4:=o.frozen (k*7+4);have e5:wr.cell? ⟨g,k*7+5,none⟩=some (I0 x.v):=by have:=o.row (k*7+5) _ (GZ xs k x hx 5 (by decide));simpa using this
    have f5:=o.frozen (k*7+5);have e6:wr.cell? ⟨g,k*7+6,none⟩=some (I0 x.w):=by have:=o.row (k*7+6) _ (GZ xs k x hx 6 (by decide));simpa using this
    have f6:=o.frozen (k*7+6);have CX:=G9 HO x (List.mem_of_getElem? hx);clear hx o;obtain⟨yz,yo,ys,yp,yd,yv,yw⟩:=x;simp only at e0 e1 e2 e3 e4 e5 e6 CX;go_wp2_with fail;refine(CX _).mono ?_;rintro e w2 ⟨rfl,hb2⟩;have d0:=(hb2.cell (p:=⟨g,k*7,none⟩) RG).trans e0;have g0:=(hb2.frozen (p:=⟨g,k*7,none⟩) RG).trans f0;have s0:=IE d0;have d1:=(hb2.cell (p:=⟨g,k*7+1,none⟩) RG).trans e1;have g1:=(hb2.frozen (p:=⟨g,k*7+1,none⟩) RG).trans f1;have s1:=IE d1;have d2:=(hb2.cell (p:=⟨g,k*7+2,none⟩) RG).trans e2;have g2:=(hb2.frozen (p:=⟨g,k*7+2,none⟩) RG).trans f2;have s2:=IE d2;have d3:=(hb2.cell (p:=⟨g,k*7+3,none⟩) RG).trans e3;have g3:=(hb2.frozen (p:=⟨g,k*7+3,none⟩) RG).trans f3;have s3:=IE d3;have d4:=(hb2.cell (p:=⟨g,k*7+4,none⟩) RG).trans e4;have g4:=(hb2.frozen (p:=⟨g,k*7+4,none⟩) RG).trans f4;have s4:=IE d4;have d5:=(hb2.cell (p:=⟨g,k*7+5,none⟩) RG).trans e5;have g5:=(hb2.frozen (p:=⟨g,k*7+5,none⟩) RG).trans f5;have s5:=IE d5;have d6:=(hb2.cell (p:=⟨g,k*7+6,none⟩) RG).trans e6;have g6:=(hb2.frozen (p:=⟨g,k*7+6,none⟩) RG).trans f6;have s6:=IE d6;have hB2:=GH (GK (G9 hB) hb2);clear hb2 CX e0 f0 e1 f1 e2 f2 e3 f3 e4 f4 e5 f5 e6 f6;go_wp2_with fail
    go_roundg (xs.length-(k+1))
    case measure=>omega
    case rel=>exact⟨k+1,rfl,by omega,Nat.le_refl _,hB2⟩
   .go_wp2_with fail;go_ret;exact⟨_,rfl,.inr ⟨g,cap,rfl,hg,(G9 HW).next (G9 hB)⟩,GK (G9 HB1) (G9 hB)⟩
theorem B05(v:Value)(xs:List Nd)(w:World)(hv:IV w v xs)(hl:xs.length*88<=140737488355328)(hs:∀x∈xs,x.p.length<=140737488355328/\x.d.length<=140737488355328):
  Calls prog 148 #[v,.func (.func 149) #[] #[]] w fun e w'=>∃v',e=.returned v'/\I5 w' w.heap.size v' xs/\B0 w w':=by
 have CC:=fun W (hW:B0 w W)=>B01 v xs W (hv.next hW) hl;have HO:Hid (∀x∈xs,∀W,Calls prog 149 #[.agg #[S0 x.p,S0 x.d,I0 x.c,I0 x.m,I0 x.q,I0 x.v,I0 x.k,I0 x.o,I0 x.n]] W (R0 W (.agg #[S0 x.p,S0 x.d,I0 x.c,I0 x.m,I0 x.q,I0 x.v,I0 x.k,I0 x.o,I0 x.n]))):=GH fun x hm W=>by
  have hx:=hs x hm;exact BJ4 x W hx.1 hx.2
 obtain⟨a,c,rfl⟩:=GU hv;clear hv hs;go_enter func148,ntmps148;go_wp2_with fail;refine(CC _ (Below.refl _ _)).mono ?_;rintro e w1 ⟨v',rfl,ho,hb1⟩;have HB1:=GH hb1;clear CC hb1;rcases ho with⟨rfl,rfl⟩|⟨g,cap,rfl,hg,ho⟩
 .go_wp2_with fail
  go_loopg [11] 1 (fun _ s wr=>s=I0 0/\wr=w1)
  case atStart=>exact⟨rfl,rfl⟩
  case round=>
   obtain⟨rfl,rfl⟩:=hrel;go_wp2_with fail;go_ret;exact⟨_,rfl,.inl ⟨rfl,rfl⟩,G9 HB1⟩
 .have HW:=GH ho;have hgl:=ho.lt;clear ho;go_wp2_with fail
  go_loopg [11] xs.length (fun kx s wr=>∃k:Nat,s=I0 k/\k<=xs.length/\xs.length-k<=kx/\Hid (B0 w1 wr))
  case atStart=>exact⟨0,rfl,Nat.zero_le _,by omega,GH (Below.refl _ _)⟩
  case round=>
   obtain⟨k,rfl,hk,hkx,hB⟩:=hrel;by_cases hlt:k<xs.length
   .obtain⟨x,hx⟩:∃x,xs[k]?=some x:=⟨_,List.getElem?_eq_getElem hlt⟩;have o:=(G9 HW).next (G9 hB);have RG:=o.lt;have e0:wr.cell? ⟨g,k*9,none⟩=some (S0 x.p):=by have:=o.row (k*9+0) _ (GZ xs k x hx 0 (by decide));simpa using this
    have f0:=o.frozen (k*9);have e1:wr.cell? ⟨g,k*9+1,none⟩=some (S0 x.d):=by have:=o.row (k*9+1) _ (GZ xs k x hx 1 (by decide));simpa using this
    have f1:=o.frozen (k*9+1);have e2:wr.cell? ⟨g,k*9+2,none⟩=some (I0 x.c):=by have:=o.row (k*9+2) _ (GZ xs k x hx 2 (by decide));simpa using this
    have f2:=o.frozen (k*9+2);have e3:wr.cell? ⟨g,k*9+3,none⟩=some (I0 x.m):=by have:=o.row (k*9+3) _ (GZ xs k x hx 3 (by decide));simpa using this
    have f3:=o.frozen (k*9+3);have e4:wr.cell? ⟨g,k*9+4,none⟩=some (I0 x.q):=by have:=o.row (k*9+4) _ (GZ xs k x hx 4 (by decide));simpa using this
    have f4:=o.frozen (k*9+4);have e5:wr.cell? ⟨g,k*9+5,none⟩=some (I0 x.v):=by have:=o.row (k*9+5) _ (GZ xs k x hx 5 (by decide));simpa using this
    have f5:=o.frozen (k*9+5);have e6:wr.cell? ⟨g,k*9+6,none⟩=some (I0 x.k):=by have:=o.row (k*9+6) _ (GZ xs k x hx 6 (by decide));simpa using this
    have f6:=o.frozen (k*9+6);have e7:wr.cell? ⟨g,k*9+7,none⟩=some (I0 x.o):=by have:=o.row (k*9+7) _ (GZ xs k x hx 7 (by decide));simpa using this
    have f7:=o.frozen (k*9+7);have e8:wr.cell? ⟨g,k*9+8,none⟩=some (I0 x.n):=by have:=o.row (k*9+8) _ (GZ xs k x hx 8 (by decide));simpa using this
    have f8:=o.frozen (k*9+8);have CX:=G9 HO x (List.mem_of_getElem? hx);clear hx o;obtain⟨yp,yd,yc,ym,yq,yv,yk,yo,yn⟩:=x;simp only at e0 e1 e2 e3 e4 e5 e6 e7 e8 CX;go_wp2_with fail;refine(CX _).mono ?_;rintro e w2 ⟨rfl,hb2⟩;have d0:=(hb2.cell (p:=⟨g,k*9,none⟩) RG).trans e0;have g0:=(hb2.frozen (p:=⟨g,k*9,none⟩) RG).trans f0;have s0:=IE d0;have d1:=(hb2.cell (p:=⟨g,k*9+1,none⟩) RG).trans e1;have g1:=(hb2.frozen (p:=⟨g,k*9+1,none⟩) RG).trans f1;have s1:=IE d1;have d2:=(hb2.cell (p:=⟨g,k*9+2,none⟩) RG).trans e2;have g2:=(hb2.frozen (p:=⟨g,k*9+2,none⟩) RG).trans f2;have s2:=IE d2;have d3:=(hb2.cell (p:=⟨g,k*9+3,none⟩) RG).trans e3;have g3:=(hb2.frozen (p:=⟨g,k*9+3,none⟩) RG).trans f3;have s3:=IE d3;have d4:=(hb2.cell (p:=⟨g,k*9+4,none⟩) RG).trans e4;have g4:=(hb2.frozen (p:=⟨g,k*9+4,none⟩) RG).trans f4;have s4:=IE d4;have d5:=(hb2.cell (p:=⟨g,k*9+5,none⟩) RG).trans e5;have g5:=(hb2.frozen (p:=⟨g,k*9+5,none⟩) RG).trans f5;have s5:=IE d5;have d6:=(hb2.cell (p:=⟨g,k*9+6,none⟩) RG).trans e6;have g6:=(hb2.frozen (p:=⟨g,k*9+6,none⟩) RG).trans f6;have s6:=IE d6;have d7:=(hb2.cell (p:=⟨g,k*9+7,none⟩) RG).trans e7;have g7:=(hb2.frozen (p:=⟨g,k*9+7,none⟩) RG).trans f7;have s7:=IE d7;have d8:=(hb2.cell (p:=⟨g,k*9+8,none⟩) RG).trans e8;have g8:=(hb2.frozen (p:=⟨g,k*9+8,none⟩) RG).trans f8;have s8:=IE d8;have hB2:=GH (GK (G9 hB) hb2);clear hb2 CX e0 f0 e1 f1 e2 f2 e3 f3 e4 f4 e5 f5 e6 f6 e7 f7 e8 f8;go_wp2_with fail
    go_roundg (xs.length-(k+1))
    case measure=>omega
    case rel=>exact⟨k+1,rfl,by omega,Nat.le_refl _,hB2⟩
   .go_wp2_with fail;go_ret;exact⟨_,rfl,.inr ⟨g,cap,rfl,hg,(G9 HW).next (G9 hB)⟩,GK (G9 HB1) (G9 hB)⟩
theorem B06(v:Value)(xs:List Wa)(w:World)(hv:IV w v xs)(hl:xs.length*32<=140737488355328)(hs:∀x∈xs,x.p.length<=140737488355328):
  Calls prog 150 #[v,.func (.func 151) #[] #[]] w fun e w'=>∃v',e=.returned v'/\I5 w' w.heap.size v' xs/\B0 w w':=by
 have CC:=fun W (hW:B0 w W)=>B02 v xs W (hv.next hW) hl;have HO:Hid (∀x∈xs,∀W,Calls prog 151 #[.agg #[I0 x.s,I0 x.k,S0 x.p]] W (R0 W (.agg #[I0 x.s,I0 x.k,S0 x.p]))):=GH fun x hm W=>by
  have hx:=hs x hm;exact BJ5 x W hx
 obtain⟨a,c,rfl⟩:=GU hv;clear hv hs;go_enter func150,ntmps150;go_wp2_with fail;refine(CC _ (Below.refl _ _)).mono ?_;rintro e w1 ⟨v',rfl,ho,hb1⟩;have HB1:=GH hb1;clear CC hb1;rcases ho with⟨rfl,rfl⟩|⟨g,cap,rfl,hg,ho⟩
 .go_wp2_with fail
  go_loopg [11] 1 (fun _ s wr=>s=I0 0/\wr=w1)
  case atStart=>exact⟨rfl,rfl⟩
  case round=>
   obtain⟨rfl,rfl⟩:=hrel;go_wp2_with fail;go_ret;exact⟨_,rfl,.inl ⟨rfl,rfl⟩,G9 HB1⟩
 .have HW:=GH ho;have hgl:=ho.lt;clear ho;go_wp2_with fail
  go_loopg [11] xs.length (fun kx s wr=>∃k:Nat,s=I0 k/\k<=xs.length/\xs.length-k<=kx/\Hid (B0 w1 wr))
  case atStart=>exact⟨0,rfl,Nat.zero_le _,by omega,GH (Below.refl _ _)⟩
  case round=>
   obtain⟨k,rfl,hk,hkx,hB⟩:=hrel;by_cases hlt:k<xs.length
   .obtain⟨x,hx⟩:∃x,xs[k]?=some x:=⟨_,List.getElem?_eq_getElem hlt⟩;have o:=(G9 HW).next (G9 hB);have RG:=o.lt;have e0:wr.cell? ⟨g,k*3,none⟩=some (I0 x.s):=by have:=o.row (k*3+0) _ (GZ xs k x hx 0 (by decide));simpa using this
    have f0:=o.frozen (k*3);have e1:wr.cell? ⟨g,k*3+1,none⟩=some (I0 x.k):=by have:=o.row (k*3+1) _ (GZ xs k x hx 1 (by decide));simpa using this
    have f1:=o.frozen (k*3+1);have e2:wr.cell? ⟨g,k*3+2,none⟩=some (S0 x.p):=by have:=o.row (k*3+2) _ (GZ xs k x hx 2 (by decide));simpa using this
    have f2:=o.frozen (k*3+2);have CX:=G9 HO x (List.mem_of_getElem? hx);clear hx o;obtain⟨ys,yk,yp⟩:=x;simp only at e0 e1 e2 CX;go_wp2_with fail;refine(CX _).mono ?_;rintro e w2 ⟨rfl,hb2⟩;have d0:=(hb2.cell (p:=⟨g,k*3,none⟩) RG).trans e0;have g0:=(hb2.frozen (p:=⟨g,k*3,none⟩) RG).trans f0;have s0:=IE d0;have d1:=(hb2.cell (p:=⟨g,k*3+1,none⟩) RG).trans e1;have g1:=(hb2.frozen (p:=⟨g,k*3+1,none⟩) RG).trans f1;have s1:=IE d1;have d2:=(hb2.cell (p:=⟨g,k*3+2,none⟩) RG).trans e2;have g2:=(hb2.frozen (p:=⟨g,k*3+2,none⟩) RG).trans f2;have s2:=IE d2;have hB2:=GH (GK (G9 hB) hb2);clear hb2 CX e0 f0 e1 f1 e2 f2;go_wp2_with fail
    go_roundg (xs.length-(k+1))
    case measure=>omega
    case rel=>exact⟨k+1,rfl,by omega,Nat.le_refl _,hB2⟩
   .go_wp2_with fail;go_ret;exact⟨_,rfl,.inr ⟨g,cap,rfl,hg,(G9 HW).next (G9 hB)⟩,GK (G9 HB1) (G9 hB)⟩
def aA(W:World)(k:Nat):Prop:=∃cs t,W.heap[k]?=some (.cells cs t (0,0))/\∀ (j:Nat) (s:ByteArray),cs[j]? ≠some (Value.string s)
theorem aA.set{W:World}{k j:Nat}{u:Value}(h:aA W k)(hu:∀s,u≠ .string s):aA (W.setCell ⟨k,j,none⟩ u) k:=by
 obtain⟨cs,t,h1,h2⟩:=h;refine⟨cs.setIfInBounds j u,t,GY u h1,fun i s hi=>?_⟩;rw[Array.getElem?_setIfInBounds]at hi
 split at hi
 .split at hi
  .exact hu s (Option.some.inj hi)
  .cases hi
 .exact h2 i s hi
theorem aA.no{W:World}{k j:Nat}{s:ByteArray}(h:aA W k):W.cell? ⟨k,j,none⟩≠some (.string s):=by
 obtain⟨cs,t,h1,h2⟩:=h;intro e;simp[World.cell?,h1]at e;exact h2 j s e
theorem II.put{W:World}{b off k j:Nat}{cs:List Value}{u:Value}(h:II W b off cs)(hk:b≠k):II (W.setCell ⟨k,j,none⟩ u) b off cs:=fun i v hi=>by
 rw[World.cell?,Below.heap_setCell W ⟨k,j,none⟩ u b hk];exact h i v hi
theorem TD{W:World}{v:Value}{fs:List DF}(h:IY W v fs){k j:Nat}(hk:aA W k)(u:Value):IY (W.setCell ⟨k,j,none⟩ u) v fs:=by
 rcases h with h|⟨b,off,cap,rfl,h1,h2,h3,h0,h4⟩
 .exact .inl h
 .refine .inr ⟨b,off,cap,rfl,h1,h2,by simpa [World.setCell]using h3,h0,h4.put ?_⟩;rintro rfl;obtain⟨f,r,rfl⟩:=List.exists_cons_of_ne_nil h0;exact hk.no (h4.c0 (i:=0) (f:=f) rfl)
theorem BJ6{W:World}{v:Value}{ts:List GV}(h:NQ W v ts){k j:Nat}(hk:aA W k)(u:Value):NQ (W.setCell ⟨k,j,none⟩ u) v ts:=by
 rcases h with h|⟨b,off,cap,rfl,h1,h2,h3,h0,h4⟩
 .exact .inl h
 .refine .inr ⟨b,off,cap,rfl,h1,h2,by simpa [World.setCell]using h3,h0,h4.put ?_⟩;rintro rfl;obtain⟨f,r,rfl⟩:=List.exists_cons_of_ne_nil h0;exact hk.no (h4.p (i:=0) (t:=f) rfl)
theorem AK8{W:World}{v:Value}{xs:List Nd}(h:IV W v xs){k j:Nat}(hk:aA W k)(u:Value):IV (W.setCell ⟨k,j,none⟩ u) v xs:=by
 rcases h with h|⟨b,off,cap,rfl,h1,h2,h3,h0,h4⟩
 .exact .inl h
 .refine .inr ⟨b,off,cap,rfl,h1,h2,by simpa [World.setCell]using h3,h0,h4.put ?_⟩;rintro rfl;obtain⟨f,r,rfl⟩:=List.exists_cons_of_ne_nil h0;exact hk.no (h4.n0 (i:=0) (x:=f) rfl)
theorem wI{W:World}{v:Value}{xs:List Wa}(h:IV W v xs){k j:Nat}(hk:aA W k)(u:Value):IV (W.setCell ⟨k,j,none⟩ u) v xs:=by
 rcases h with h|⟨b,off,cap,rfl,h1,h2,h3,h0,h4⟩
 .exact .inl h
 .refine .inr ⟨b,off,cap,rfl,h1,h2,by simpa [World.setCell]using h3,h0,h4.put ?_⟩;rintro rfl;obtain⟨f,r,rfl⟩:=List.exists_cons_of_ne_nil h0;exact hk.no (h4.w2 (i:=0) (x:=f) rfl)
def TM(v:Value)(k:Nat):Prop:=∀b off n c,v=.slice (some ⟨b,off,none⟩) n c->b≠k
theorem BJ7{α:Type}[Lay α]{W:World}{v:Value}{xs:List α}(h:IV W v xs){k j:Nat}(hk:TM v k)(u:Value):IV (W.setCell ⟨k,j,none⟩ u) v xs:=by
 rcases h with h|⟨b,off,cap,rfl,h1,h2,h3,h0,h4⟩
 .exact .inl h
 .exact .inr ⟨b,off,cap,rfl,h1,h2,by simpa [World.setCell]using h3,h0,h4.put (hk b off _ cap rfl)⟩
theorem wJ(n c k:Nat):TM (.slice none n c) k:=fun b off n' c' h=>by simp at h
def NY(W:World)(k:Nat)(x0 x1 x2 x3 x4 x5 x6 x7 x8 x9:Value):World:=
 (((((((((W.setCell ⟨k,0,none⟩ x0).setCell ⟨k,1,none⟩ x1).setCell ⟨k,2,none⟩ x2).setCell ⟨k,3,none⟩ x3).setCell ⟨k,4,none⟩ x4).setCell ⟨k,5,none⟩ x5).setCell ⟨k,6,none⟩ x6).setCell ⟨k,7,none⟩ x7).setCell ⟨k,8,none⟩ x8).setCell ⟨k,9,none⟩ x9
theorem JE{w W:World}{k:Nat}(h:B0 w W)(hk:w.heap.size<=k)(x0 x1 x2 x3 x4 x5 x6 x7 x8 x9:Value):B0 w (NY W k x0 x1 x2 x3 x4 x5 x6 x7 x8 x9):=
 (((((((((h.setCell hk x0).setCell hk x1).setCell hk x2).setCell hk x3).setCell hk x4).setCell hk x5).setCell hk x6).setCell hk x7).setCell hk x8).setCell hk x9
def IB(W:World)(k:Nat)(up:Bool)(vd:Value)(id ep:Int)(vl:Value)(dn z:Int)(vn vs vw:Value):Prop:=
 W.heap[k]?=some (.cells #[.bool up,vd,I0 id,I0 ep,vl,I0 dn,I0 z,vn,vs,vw] 55 (0,0))
theorem IB.next{W V:World}{k:Nat}{up:Bool}{id ep dn z:Int}{vd vl vn vs vw:Value}(h:IB W k up vd id ep vl dn z vn vs vw)(hb:B0 W V):IB V k up vd id ep vl dn z vn vs vw:=(hb.block k (by unfold IB at h;exact(Array.getElem?_eq_some_iff.1 h).1)).trans h
theorem IB.lt{W:World}{k:Nat}{up:Bool}{id ep dn z:Int}{vd vl vn vs vw:Value}(h:IB W k up vd id ep vl dn z vn vs vw):k<W.heap.size:=by unfold IB at h;exact(Array.getElem?_eq_some_iff.1 h).1
theorem IB.new(w:World)(up:Bool)(id ep dn z:Int)(vd vl vn vs vw:Value):IB (w.alloc (.cells #[.bool up,vd,I0 id,I0 ep,vl,I0 dn,I0 z,vn,vs,vw] 55)) w.heap.size up vd id ep vl dn z vn vs vw:=heap_alloc_new w _
theorem IB.other{W:World}{k i j:Nat}{u:Value}{up:Bool}{id ep dn z:Int}{vd vl vn vs vw:Value}(h:IB W k up vd id ep vl dn z vn vs vw)(hk:k≠i):IB (W.setCell ⟨i,j,none⟩ u) k up vd id ep vl dn z vn vs vw:=(Below.heap_setCell W ⟨i,j,none⟩ u k hk).trans h
theorem IB.cells{W:World}{k:Nat}{up:Bool}{id ep dn z:Int}{vd vl vn vs vw:Value}(h:IB W k up vd id ep vl dn z vn vs vw):
  W.cell? ⟨k,0,none⟩=some (.bool up)/\W.cell? ⟨k,1,none⟩=some vd/\W.cell? ⟨k,2,none⟩=some (I0 id)/\W.cell? ⟨k,3,none⟩=some (I0 ep)/\W.cell? ⟨k,4,none⟩=some vl/\W.cell? ⟨k,5,none⟩=some (I0 dn)/\W.cell? ⟨k,6,none⟩=some (I0 z)/\W.cell? ⟨k,7,none⟩=some vn/\W.cell? ⟨k,8,none⟩=some vs/\W.cell? ⟨k,9,none⟩=some vw:=by
 unfold IB at h;refine⟨?_,?_,?_,?_,?_,?_,?_,?_,?_,?_⟩<;>simp[World.cell?,h]
theorem IB.H6{W:World}{k:Nat}{up:Bool}{id ep dn z:Int}{vd vl vn vs vw:Value}(h:IB W k up vd id ep vl dn z vn vs vw)(j:Nat):W.frozen? ⟨k,j,none⟩=false:=by
 unfold IB at h;simp[World.frozen?,h]
theorem IB.fK{W:World}{k:Nat}{up:Bool}{id ep dn z:Int}{ad al an ai aw:Option Addr}{nd cd nl cl nn cn ni ci nw cw:Nat}(h:IB W k up (.slice ad nd cd) id ep (.slice al nl cl) dn z (.slice an nn cn) (.slice ai ni ci) (.slice aw nw cw)):aA W k:=by
 refine⟨_,_,h,fun j s hj=>?_⟩;have hm:=Array.mem_of_getElem? hj;simp at hm
theorem rE{W:World}{k:Nat}(hk:aA W k){up:Bool}{id ep dn z:Int}{ad al an ai aw:Option Addr}{nd cd nl cl nn cn ni ci nw cw:Nat}{v:Value}{s:Sv}(hs:∀vd vl vn vs vw,v=.agg #[.bool s.up,vd,I0 s.id,I0 s.ep,vl,I0 s.dn,I0 s.tr.z,vn,vs,vw]->TM vs k)(h:SvV W v s):
  SvV (NY W k (.bool up) (.slice ad nd cd) (I0 id) (I0 ep) (.slice al nl cl) (I0 dn) (I0 z) (.slice an nn cn) (.slice ai ni ci) (.slice aw nw cw)) v s:=by
 have one:∀ {W:World} {j:Nat} {u:Value},(∀t,u≠ .string t)->aA W k->SvV W v s->aA (W.setCell ⟨k,j,none⟩ u) k/\SvV (W.setCell ⟨k,j,none⟩ u) v s:=by
  intro W j u hu hk h;refine⟨hk.set hu,?_⟩;obtain⟨vd,vl,vn,vs,vw,rfl,h1,h2,h3,h4,h5⟩:=h;exact⟨vd,vl,vn,vs,vw,rfl,TD h1 hk u,BJ6 h2 hk u,AK8 h3 hk u,BJ7 h4 (hs _ _ _ _ _ rfl) u,wI h5 hk u⟩
 obtain⟨k0,h0⟩:=one (j:=0) (u:=.bool up) (by simp) hk h;obtain⟨k1,h1⟩:=one (j:=1) (u:=.slice ad nd cd) (by simp) k0 h0;obtain⟨k2,h2⟩:=one (j:=2) (u:=I0 id) (by simp) k1 h1;obtain⟨k3,h3⟩:=one (j:=3) (u:=I0 ep) (by simp) k2 h2;obtain⟨k4,h4⟩:=one (j:=4) (u:=.slice al nl cl) (by simp) k3 h3;obtain⟨k5,h5⟩:=one (j:=5) (u:=I0 dn) (by simp) k4 h4;obtain⟨k6,h6⟩:=one (j:=6) (u:=I0 z) (by simp) k5 h5;obtain⟨k7,h7⟩:=one (j:=7) (u:=.slice an nn cn) (by simp) k6 h6;obtain⟨k8,h8⟩:=one (j:=8) (u:=.slice ai ni ci) (by simp) k7 h7;exact(one (j:=9) (u:=.slice aw nw cw) (by simp) k8 h8).2
theorem VL{α:Type}[Lay α]{W:World}{B k:Nat}{v:Value}{xs:List α}(h:I5 W B v xs)(hk:k<B):TM v k:=by
 intro b off n c e;rcases h with⟨rfl,_⟩|⟨g,cap,rfl,hB,_⟩
 .simp at e
 .simp only[Value.slice.injEq,Option.some.injEq,Addr.mk.injEq]at e;omega
theorem bJ{W:World}{k:Nat}(hk:aA W k){s:Sv}{ad al an ai aw:Option Addr}{nd cd nl cl nn cn ni ci nw cw:Nat}(D:IY W (.slice ad nd cd) s.fs)(L:NQ W (.slice al nl cl) s.ts)(N:IV W (.slice an nn cn) s.tr.ns)(I:IV W (.slice ai ni ci) s.tr.ss)(hI:TM (.slice ai ni ci) k)(X:IV W (.slice aw nw cw) s.ws):
  SvV (NY W k (.bool s.up) (.slice ad nd cd) (I0 s.id) (I0 s.ep) (.slice al nl cl) (I0 s.dn) (I0 s.tr.z) (.slice an nn cn) (.slice ai ni ci) (.slice aw nw cw)) (.agg #[.bool s.up,.slice ad nd cd,I0 s.id,I0 s.ep,.slice al nl cl,I0 s.dn,I0 s.tr.z,.slice an nn cn,.slice ai ni ci,.slice aw nw cw]) s:=
 rE hk (fun vd vl vn vs vw e=>by simp only[Value.agg.injEq,Array.mk.injEq,List.cons.injEq]at e;rw[<-e.2.2.2.2.2.2.2.2.1];exact hI) ⟨_,_,_,_,_,rfl,D,L,N,I,X⟩
structure BX2(s:Sv):Prop where
 d:s.fs.length*48<=140737488355328
 df:mQ s.fs
 l:s.ts.length*72<=140737488355328
 lf:∀x∈s.ts,x.p.length<=140737488355328/\x.d.length<=140737488355328
 n:s.tr.ns.length*88<=140737488355328
 nf:∀x∈s.tr.ns,x.p.length<=140737488355328/\x.d.length<=140737488355328
 si:s.tr.ss.length<=2147483647
 wa:s.ws.length*32<=140737488355328
 wf:∀x∈s.ws,x.p.length<=140737488355328
structure CB(w W:World)(up:Bool)(vd:Value)(id ep:Int)(vl:Value)(dn z:Int)(vn vs vw:Value):Prop where
 below:B0 w W
 s:IB W w.heap.size up vd id ep vl dn z vn vs vw
 r:IB W (w.heap.size+1) false (N0) 0 0 (N0) 0 0 (N0) (N0) (N0)
section
variable {w W V:World} {up:Bool} {id ep dn z:Int} {vd vl vn vs vw:Value}
theorem CB.next(h:CB w W up vd id ep vl dn z vn vs vw)(hb:B0 W V):CB w V up vd id ep vl dn z vn vs vw:=⟨GK h.below hb,h.s.next hb,h.r.next hb⟩
theorem CB.lt(h:CB w W up vd id ep vl dn z vn vs vw):w.heap.size+2<=W.heap.size:=h.r.lt
theorem CB.put(h:CB w W up vd id ep vl dn z vn vs vw)(j:Nat)(u:Value){vd' vl' vn' vs' vw':Value}(e:(#[.bool up,vd,I0 id,I0 ep,vl,I0 dn,I0 z,vn,vs,vw]:Array Value).setIfInBounds j u=#[.bool up,vd',I0 id,I0 ep,vl',I0 dn,I0 z,vn',vs',vw']):CB w (W.setCell ⟨w.heap.size,j,none⟩ u) up vd' id ep vl' dn z vn' vs' vw':=by
 refine⟨h.below.setCell (by simp) u,?_,h.r.other (by omega)⟩;unfold IB;rw[GY u h.s,e]
theorem CB.start(w:World)(up:Bool)(id ep dn z:Int)(vd vl vn vs vw:Value):CB w ((w.alloc (.cells #[.bool up,vd,I0 id,I0 ep,vl,I0 dn,I0 z,vn,vs,vw] 55)).alloc (.cells #[.bool false,N0,I0 0,I0 0,N0,I0 0,I0 0,N0,N0,N0] 55)) up vd id ep vl dn z vn vs vw:=by
 refine⟨GK (GI _ _) (GI _ _),(IB.new w up id ep dn z vd vl vn vs vw).next (GI _ _),?_⟩;have h:=IB.new (w.alloc (.cells #[.bool up,vd,I0 id,I0 ep,vl,I0 dn,I0 z,vn,vs,vw] 55)) false 0 0 0 0 (N0) (N0) (N0) (N0) (N0);rw[show (w.alloc (.cells #[.bool up,vd,I0 id,I0 ep,vl,I0 dn,I0 z,vn,vs,vw] 55)).heap.size=w.heap.size+1 by simp]at h;exact h
end
theorem CJ0{α:Type}[Lay α]{W:World}{B k:Nat}{v:Value}{xs:List α}(h:I5 W B v xs)(hk:k<B):v.ownBlock≠some k:=by
 rcases h with⟨rfl,_⟩|⟨g,cap,rfl,hB,_⟩
 .simp[Value.ownBlock]
 .simp[Value.ownBlock];omega
theorem IZ{α:Type}[Lay α]{W:World}{B k j:Nat}{v u:Value}{xs:List α}(h:I5 W B v xs)(hk:k<B):I5 (W.setCell ⟨k,j,none⟩ u) B v xs:=h.other (CJ0 h hk) u
theorem OM{α:Type}[Lay α]{W:World}{B k:Nat}{v:Value}{xs:List α}(h:I5 W B v xs)(hk:k<B)(x0 x1 x2 x3 x4 x5 x6 x7 x8 x9:Value):I5 (NY W k x0 x1 x2 x3 x4 x5 x6 x7 x8 x9) B v xs:=
 IZ (IZ (IZ (IZ (IZ (IZ (IZ (IZ (IZ (IZ h hk) hk) hk) hk) hk) hk) hk) hk) hk) hk
def CJ2(w:World)(s:Sv)(e:Ending)(w':World):Prop:=
 ∃ad nd cd al cl an cn ai ci aw cw B1 B2,e=.returned (.agg #[.bool s.up,.slice ad nd cd,I0 s.id,I0 s.ep,.slice al s.ts.length cl,I0 s.dn,I0 s.tr.z,.slice an s.tr.ns.length cn,.slice ai s.tr.ss.length ci,.slice aw s.ws.length cw])/\
  w.heap.size<=B1/\B1<=B2/\I5 w' w.heap.size (.slice ad nd cd) s.fs/\(∀k,(Value.slice ad nd cd).ownBlock=some k->k<B1)/\I5 w' B1 (.slice al s.ts.length cl) s.ts/\(∀k,(Value.slice al s.ts.length cl).ownBlock=some k->k<B2)/\
  I5 w' B2 (.slice an s.tr.ns.length cn) s.tr.ns/\I5 w' B2 (.slice ai s.tr.ss.length ci) s.tr.ss/\I5 w' B2 (.slice aw s.ws.length cw) s.ws/\B0 w w'
theorem ZN(s:Sv)(v:Value)(w:World)(hv:SvV w v s)(hf:BX2 s):
  Calls prog 101 #[v] w (CJ2 w s):=by
 obtain⟨ad,nd,cd,al,cl,an,cn,ai,ci,aw,cw,rfl,d1,l1,n1,s1,k1⟩:=hv.five;have CD:=fun W (hW:B0 w W)=>B03 _ s.fs W (OU.2 (d1.next hW)) hf.d hf.df;have CL:=fun W (hW:B0 w W)=>B04 _ s.ts W (MJ.2 (l1.next hW)) hf.l hf.lf;have CN:=fun W (hW:B0 w W)=>B05 _ s.tr.ns W (n1.next hW) hf.n hf.nf;have CI:=fun W (hW:B0 w W)=>dX _ s.tr.ss W (s1.next hW) (hf.si);have CW:=fun W (hW:B0 w W)=>B06 _ s.ws W (k1.next hW) hf.wa hf.wf;have HD:=GH CD;have HL:=GH CL;have HN:=GH CN;have HI:=GH CI;have HW:=GH CW;clear CD CL CN CI CW hv d1 l1 n1 s1 k1 hf;obtain⟨up,fs,id,ep,ts,dn,⟨tz,tns,tss⟩,ws⟩:=s;simp only at*;go_enter func101,ntmps101;go_wp2_with fail;have X0:=CB.start w up id ep dn tz (.slice ad nd cd) (.slice al ts.length cl) (.slice an tns.length cn) (.slice ai tss.length ci) (.slice aw ws.length cw);generalize (w.alloc (.cells #[.bool up,.slice ad nd cd,I0 id,I0 ep,.slice al ts.length cl,I0 dn,I0 tz,.slice an tns.length cn,.slice ai tss.length ci,.slice aw ws.length cw] 55)).alloc (.cells #[.bool false,N0,I0 0,I0 0,N0,I0 0,I0 0,N0,N0,N0] 55)=W0 at*;have HX0:=GH X0;obtain⟨x0,x1,x2,x3,x4,x5,x6,x7,x8,x9⟩:=X0.s.cells;clear X0;refine(G9 HD _ (G9 HX0).below).mono ?_;rintro e w1 ⟨v1,rfl,o1,hb1⟩;obtain⟨a1,c1,rfl,_⟩:=o1.slice;have z1:=(G9 HX0).lt;have X1:=(G9 HX0).next hb1;have Y1:=X1.put 1 (.slice a1 fs.length c1) rfl;obtain⟨y0,y1,y2,y3,y4,y5,y6,y7,y8,y9⟩:=X1.s.cells;have g1:=X1.s.H6 1;have O1:=GH (IZ (j:=1) (u:=.slice a1 fs.length c1) o1 (by omega:w.heap.size<_));have b1:=GH (fun k hk=>I5.low o1 k hk);have S1:=GH (show w.heap.size+1<W0.heap.size by omega);have Z1:=GH (show w.heap.size<=W0.heap.size by omega);have K1:=GH (show W0.heap.size<=(w1.setCell ⟨w.heap.size,1,none⟩ (.slice a1 fs.length c1)).heap.size by have:=hb1.size;simp[World.setCell]at*;omega);have L1:=GH (show w1.heap.size=(w1.setCell ⟨w.heap.size,1,none⟩ (.slice a1 fs.length c1)).heap.size by simp[World.setCell]);clear X1 o1 hb1 z1 HX0 HD x0 x1 x2 x3 x4 x5 x6 x7 x8 x9;have HX1:=GH Y1;obtain⟨x0,x1,x2,x3,x4,x5,x6,x7,x8,x9⟩:=Y1.s.cells;clear Y1;go_wp2_with fail;generalize w1.setCell ⟨w.heap.size,1,none⟩ (.slice a1 fs.length c1)=V1 at*;clear y0 y1 y2 y3 y4 y5 y6 y7 y8 y9 g1;refine(G9 HL _ (G9 HX1).below).mono ?_;rintro e w2 ⟨v2,rfl,o2,hb2⟩;obtain⟨a2,c2,rfl,_⟩:=o2.slice;have z2:=(G9 HX1).lt;have X2:=(G9 HX1).next hb2;have Y2:=X2.put 4 (.slice a2 ts.length c2) rfl;obtain⟨y0,y1,y2,y3,y4,y5,y6,y7,y8,y9⟩:=X2.s.cells;have g2:=X2.s.H6 4;have O2:=GH (IZ (j:=4) (u:=.slice a2 ts.length c2) o2 (by omega:w.heap.size<_));have b2:=GH (fun k hk=>I5.low o2 k hk);have P1:=GH (IZ (j:=4) (u:=.slice a2 ts.length c2) ((G9 O1).next hb2) (Nat.lt_of_succ_lt (G9 S1)));have S2:=GH (show w.heap.size+1<V1.heap.size by omega);have K2:=GH (show V1.heap.size<=(w2.setCell ⟨w.heap.size,4,none⟩ (.slice a2 ts.length c2)).heap.size by have:=hb2.size;simp[World.setCell]at*;omega);have L2:=GH (show w2.heap.size=(w2.setCell ⟨w.heap.size,4,none⟩ (.slice a2 ts.length c2)).heap.size by simp[World.setCell]);clear X2 o2 hb2 z2 HX1 HL x0 x1 x2 x3 x4 x5 x6 x7 x8 x9 O1;have O1:=P1;clear P1;have HX2:=GH Y2;obtain⟨x0,x1,x2,x3,x4,x5,x6,x7,x8,x9⟩:=Y2.s.cells;clear Y2;go_wp2_with fail;generalize w2.setCell ⟨w.heap.size,4,none⟩ (.slice a2 ts.length c2)=V2 at*;clear y0 y1 y2 y3 y4 y5 y6 y7 y8 y9 g2;refine(G9 HN _ (G9 HX2).below).mono ?_;rintro e w3 ⟨v3,rfl,o3,hb3⟩;obtain⟨a3,c3,rfl,_⟩:=o3.slice;have z3:=(G9 HX2).lt;have X3:=(G9 HX2).next hb3;have Y3:=X3.put 7 (.slice a3 tns.length c3) rfl;obtain⟨y0,y1,y2,y3,y4,y5,y6,y7,y8,y9⟩:=X3.s.cells;have g3:=X3.s.H6 7;have O3:=GH (IZ (j:=7) (u:=.slice a3 tns.length c3) o3 (by omega:w.heap.size<_));have P1:=GH (IZ (j:=7) (u:=.slice a3 tns.length c3) ((G9 O1).next hb3) (Nat.lt_of_succ_lt (G9 S1)));have P2:=GH (IZ (j:=7) (u:=.slice a3 tns.length c3) ((G9 O2).next hb3) (Nat.lt_of_succ_lt (G9 S2)));have S3:=GH (show w.heap.size+1<V2.heap.size by omega);have K3:=GH (show V2.heap.size<=(w3.setCell ⟨w.heap.size,7,none⟩ (.slice a3 tns.length c3)).heap.size by have:=hb3.size;simp[World.setCell]at*;omega);have L3:=GH (show w3.heap.size=(w3.setCell ⟨w.heap.size,7,none⟩ (.slice a3 tns.length c3)).heap.size by simp[World.setCell])
 clear X3 o3 hb3 z3 HX2 HN x0 x1 x2 x3 x4 x5 x6 x7 x8 x9 O1 O2;have O1:=P1;have O2:=P2;clear P1 P2;have HX3:=GH Y3;obtain⟨x0,x1,x2,x3,x4,x5,x6,x7,x8,x9⟩:=Y3.s.cells;clear Y3;go_wp2_with fail;generalize w3.setCell ⟨w.heap.size,7,none⟩ (.slice a3 tns.length c3)=V3 at*;clear y0 y1 y2 y3 y4 y5 y6 y7 y8 y9 g3;refine(G9 HI _ (G9 HX3).below).mono ?_;rintro e w4 ⟨v4,rfl,o4,hb4⟩;obtain⟨a4,c4,rfl,_⟩:=o4.slice;have z4:=(G9 HX3).lt;have X4:=(G9 HX3).next hb4;have Y4:=X4.put 8 (.slice a4 tss.length c4) rfl;obtain⟨y0,y1,y2,y3,y4,y5,y6,y7,y8,y9⟩:=X4.s.cells;have g4:=X4.s.H6 8;have O4:=GH (IZ (j:=8) (u:=.slice a4 tss.length c4) o4 (by omega:w.heap.size<_));have P1:=GH (IZ (j:=8) (u:=.slice a4 tss.length c4) ((G9 O1).next hb4) (Nat.lt_of_succ_lt (G9 S1)));have P2:=GH (IZ (j:=8) (u:=.slice a4 tss.length c4) ((G9 O2).next hb4) (Nat.lt_of_succ_lt (G9 S2)));have P3:=GH (IZ (j:=8) (u:=.slice a4 tss.length c4) ((G9 O3).next hb4) (Nat.lt_of_succ_lt (G9 S3)));have S4:=GH (show w.heap.size+1<V3.heap.size by omega);have K4:=GH (show V3.heap.size<=(w4.setCell ⟨w.heap.size,8,none⟩ (.slice a4 tss.length c4)).heap.size by have:=hb4.size;simp[World.setCell]at*;omega);have L4:=GH (show w4.heap.size=(w4.setCell ⟨w.heap.size,8,none⟩ (.slice a4 tss.length c4)).heap.size by simp[World.setCell]);clear X4 o4 hb4 z4 HX3 HI x0 x1 x2 x3 x4 x5 x6 x7 x8 x9 O1 O2 O3;have O1:=P1;have O2:=P2;have O3:=P3;clear P1 P2 P3;have HX4:=GH Y4;obtain⟨x0,x1,x2,x3,x4,x5,x6,x7,x8,x9⟩:=Y4.s.cells;clear Y4;go_wp2_with fail;generalize w4.setCell ⟨w.heap.size,8,none⟩ (.slice a4 tss.length c4)=V4 at*;clear y0 y1 y2 y3 y4 y5 y6 y7 y8 y9 g4;refine(G9 HW _ (G9 HX4).below).mono ?_;rintro e w5 ⟨v5,rfl,o5,hb5⟩;obtain⟨a5,c5,rfl,_⟩:=o5.slice;have z5:=(G9 HX4).lt;have X5:=(G9 HX4).next hb5;have Y5:=X5.put 9 (.slice a5 ws.length c5) rfl;obtain⟨y0,y1,y2,y3,y4,y5,y6,y7,y8,y9⟩:=X5.s.cells;have g5:=X5.s.H6 9;have O5:=GH (IZ (j:=9) (u:=.slice a5 ws.length c5) o5 (by omega:w.heap.size<_));have P1:=GH (IZ (j:=9) (u:=.slice a5 ws.length c5) ((G9 O1).next hb5) (Nat.lt_of_succ_lt (G9 S1)));have P2:=GH (IZ (j:=9) (u:=.slice a5 ws.length c5) ((G9 O2).next hb5) (Nat.lt_of_succ_lt (G9 S2)));have P3:=GH (IZ (j:=9) (u:=.slice a5 ws.length c5) ((G9 O3).next hb5) (Nat.lt_of_succ_lt (G9 S3)));have P4:=GH (IZ (j:=9) (u:=.slice a5 ws.length c5) ((G9 O4).next hb5) (Nat.lt_of_succ_lt (G9 S4)));have S5:=GH (show w.heap.size+1<V4.heap.size by omega);have K5:=GH (show V4.heap.size<=(w5.setCell ⟨w.heap.size,9,none⟩ (.slice a5 ws.length c5)).heap.size by have:=hb5.size;simp[World.setCell]at*;omega);have L5:=GH (show w5.heap.size=(w5.setCell ⟨w.heap.size,9,none⟩ (.slice a5 ws.length c5)).heap.size by simp[World.setCell]);clear X5 o5 hb5 z5 HX4 HW x0 x1 x2 x3 x4 x5 x6 x7 x8 x9 O1 O2 O3 O4;have O1:=P1;have O2:=P2;have O3:=P3;have O4:=P4;clear P1 P2 P3 P4;have HX5:=GH Y5;obtain⟨x0,x1,x2,x3,x4,x5,x6,x7,x8,x9⟩:=Y5.s.cells;obtain⟨r0,r1,r2,r3,r4,r5,r6,r7,r8,r9⟩:=Y5.r.cells;have rf0:=Y5.r.H6 0;have rf1:=Y5.r.H6 1;have rf2:=Y5.r.H6 2;have rf3:=Y5.r.H6 3;have rf4:=Y5.r.H6 4;have rf5:=Y5.r.H6 5;have rf6:=Y5.r.H6 6;have rf7:=Y5.r.H6 7;have rf8:=Y5.r.H6 8;have rf9:=Y5.r.H6 9;have Y5b:=Y5.below;clear Y5;have HF:=GH (JE Y5b (by omega:w.heap.size<=w.heap.size+1) (.bool up) (.slice a1 fs.length c1) (I0 id) (I0 ep) (.slice a2 ts.length c2) (I0 dn) (I0 tz) (.slice a3 tns.length c3) (.slice a4 tss.length c4) (.slice a5 ws.length c5));have Q1:=GH (OM (G9 O1) (G9 S1) (.bool up) (.slice a1 fs.length c1) (I0 id) (I0 ep) (.slice a2 ts.length c2) (I0 dn) (I0 tz) (.slice a3 tns.length c3) (.slice a4 tss.length c4) (.slice a5 ws.length c5));have Q2:=GH (OM (G9 O2) (G9 S2) (.bool up) (.slice a1 fs.length c1) (I0 id) (I0 ep) (.slice a2 ts.length c2) (I0 dn) (I0 tz) (.slice a3 tns.length c3) (.slice a4 tss.length c4) (.slice a5 ws.length c5));have Q3:=GH (OM (G9 O3) (G9 S3) (.bool up) (.slice a1 fs.length c1) (I0 id) (I0 ep) (.slice a2 ts.length c2) (I0 dn) (I0 tz) (.slice a3 tns.length c3) (.slice a4 tss.length c4) (.slice a5 ws.length c5));have Q4:=GH (OM (G9 O4) (G9 S4) (.bool up) (.slice a1 fs.length c1) (I0 id) (I0 ep) (.slice a2 ts.length c2) (I0 dn) (I0 tz) (.slice a3 tns.length c3) (.slice a4 tss.length c4) (.slice a5 ws.length c5))
 have Q5:=GH (OM (G9 O5) (G9 S5) (.bool up) (.slice a1 fs.length c1) (I0 id) (I0 ep) (.slice a2 ts.length c2) (I0 dn) (I0 tz) (.slice a3 tns.length c3) (.slice a4 tss.length c4) (.slice a5 ws.length c5));clear Y5b O1 O2 O3 O4 O5;go_wp2_with fail;refine bodyPost_ret (v:=.agg #[.bool up,.slice a1 fs.length c1,I0 id,I0 ep,.slice a2 ts.length c2,I0 dn,I0 tz,.slice a3 tns.length c3,.slice a4 tss.length c4,.slice a5 ws.length c5]) (by simp[results,results101,go_sem,r0,r1,r2,r3,r4,r5,r6,r7,r8,r9]) rfl ?_;have k1:=G9 K1;have k2:=G9 K2;have k3:=G9 K3;have k4:=G9 K4;have z1:=G9 Z1;exact⟨a1,fs.length,c1,a2,c2,a3,c3,a4,c4,a5,c5,V1.heap.size,V2.heap.size,rfl,by omega,k2,(G9 Q1).lower z1,fun k hk=>(G9 L1) ▸ G9 b1 k hk,G9 Q2,fun k hk=>(G9 L2) ▸ G9 b2 k hk,G9 Q3,(G9 Q4).lower k3,(G9 Q5).lower (Nat.le_trans k3 k4),G9 HF⟩
noncomputable def Z5(fs:List DF):Int:=J6 (gV (WG fs JL).1)
theorem B41(fs:List DF)(name:List UInt8)(h:(WG fs name).2≠0):(WG fs name).1=[]:=by
 rcases jT fs name with⟨E,h'⟩|⟨g,A,f,B,T⟩
 .cases hg:VH fs with
  |false=>rw[jX hg]
  |true=>
   cases hl:A09 fs name with
   |none=>simp[WG,hg,hl]
   |some f=>simp[WG,hg,hl]at h
 .rw[VK g T]at h;exact absurd rfl h
theorem AN3{fs:List DF}(h:(WG fs JL).2≠0):Z5 fs=0:=by
 rw[Z5,B41 fs JL h,vO,VJ]
theorem AN4(v:Value)(fs:List DF)(w:World)(hv:IY w v fs)(hs:mQ fs):
  Calls prog 31 #[.agg #[v]] w (R0 w (I0 (Z5 fs))):=by
 have CR:=fun W (h:IY W v fs)=>(show Calls prog 39 #[.agg #[v],.string ⟨#[101,112,111,99,104]⟩] W _ from BI6 v fs JL W h hs);have hl:=AZ6 fs JL;unfold Z5;generalize WG fs JL=R at*;obtain⟨s,E⟩:=R;simp only at CR hl⊢;have CZ:=fun W=>B40 s W (by omega);have CE:=fun W=>QG (gV s) W;generalize gV s=z at*;generalize jQ s=ze at*;have HV:=GH hv;obtain⟨a,n,c,rfl⟩:=J4 hv;clear hv hs hl;go_enter func31,ntmps31;go_wp2_with fail;refine(CR _ ((G9 HV).next (GI _ _))).mono ?_;rintro e w1 ⟨rfl,hb1⟩;have hB1:=H7 hb1;clear hb1 CR;go_wp2_with fail;refine(CZ _).mono ?_;rintro e w2 ⟨rfl,hb2⟩;have hB2:=GK hB1 hb2;clear hb2 hB1 CZ;go_wp2_with fail;refine(CE _).mono ?_;rintro e w3 ⟨rfl,rfl⟩;go_wp2_with fail;go_ret;exact⟨rfl,hB2⟩
structure CF5(w W:World)(v:Value):Prop where
 below:B0 w W
 d:KN W w.heap.size v
 r:IB W (w.heap.size+1) false (N0) 0 0 (N0) 0 0 (N0) (N0) (N0)
theorem CF5.next{w W V:World}{v:Value}(h:CF5 w W v)(hb:B0 W V):CF5 w V v:=⟨GK h.below hb,h.d.next hb,h.r.next hb⟩
theorem CF5.start(w:World)(v:Value):CF5 w ((w.alloc (.cells #[v] 45)).alloc (.cells #[.bool false,N0,I0 0,I0 0,N0,I0 0,I0 0,N0,N0,N0] 55)) v:=by
 refine⟨GK (GI _ _) (GI _ _),(KN.new w v).next (GI _ _),?_⟩;have h:=IB.new (w.alloc (.cells #[v] 45)) false 0 0 0 0 (N0) (N0) (N0) (N0) (N0);rw[show (w.alloc (.cells #[v] 45)).heap.size=w.heap.size+1 by simp]at h;exact h
def CL2(w:World)(e:Ending)(w':World):Prop:=
 ∃an cn ai ci,e=.returned (.agg #[I0 0,.slice an 1 cn,.slice ai 0 ci])/\Hid (IV w' (.slice an 1 cn) QW.ns)/\Hid (I5 w' w.heap.size (.slice ai 0 ci) QW.ss)/\B0 w w'
theorem xG{w w':World}{e:Ending}(h:B27 w QW e w'):CL2 w e w':=by
 obtain⟨vn,vs,rfl,h1,h2,h3⟩:=h;obtain⟨an,cn,rfl,_⟩:=h1.slice;obtain⟨ai,ci,rfl,_⟩:=h2.slice;exact⟨an,cn,ai,ci,rfl,h1.seq,h2,h3⟩
theorem AC5(v:Value)(fs d:List DF)(ts:List GV)(id:Int)(w:World)(hv:IY w v fs)(hs:mQ fs)(h0:0<=id)(h1:id<3)(G:oM 30 (fun x=>#[x]) fs ts d 0):
  Calls prog 15 #[I0 id,.agg #[v]] w (bH w ⟨true,d,id,Z5 fs,ts,0,QW,[]⟩ 0):=by
 have CE:=fun W (hW:B0 w W)=>AN4 v fs W (hv.next hW) hs;generalize Z5 fs=ep at*;have HV:=GH hv;have HG:=GH G;obtain⟨a,n,c,rfl⟩:=J4 hv;clear hv G hs;go_enter func15,ntmps15;go_upto_region 2 with fail;have X:=GH (CF5.start w (.slice a n c));generalize (w.alloc (.cells #[.slice a n c] 45)).alloc (.cells #[.bool false,N0,I0 0,I0 0,N0,I0 0,I0 0,N0,N0,N0] 55)=W0 at*;go_wp2_with fail;refine(G9 HG _ _ ((G9 HV).next (G9 X).below)).mono ?_;rintro e w1 ⟨al,kl,cl,a1,n1,c1,rfl,HL1,HD1,hb1⟩;have X1:=GH (((G9 X).next hb1).next (GI w1 (.cells #[.slice a1 n1 c1] 45)));have A1:=GH (KN.new w1 (.slice a1 n1 c1));have L1:=GH ((G9 HL1).next (GI w1 (.cells #[.slice a1 n1 c1] 45)));have D1:=GH ((G9 HD1).next (GI w1 (.cells #[.slice a1 n1 c1] 45)));have cd1:=(G9 X1).d.c;clear hb1 X HL1 HD1 HG;go_wp2_with fail;generalize w1.alloc (.cells #[.slice a1 n1 c1] 45)=W1 at*;refine(CE _ (G9 X1).below).mono ?_;rintro e w2 ⟨rfl,hb2⟩;have hal:=GI w2 (.cells #[I0 id,I0 ep,.slice al kl cl,I0 0] 48);have X2:=GH (((G9 X1).next hb2).next hal);have A2:=GH (((G9 A1).next hb2).next hal);have L2:=GH (((G9 L1).next hb2).next hal);have D2:=GH (((G9 D1).next hb2).next hal);have P2:=GH (heap_alloc_new w2 (.cells #[I0 id,I0 ep,.slice al kl cl,I0 0] 48));clear hb2 hal X1 A1 L1 D1 CE cd1 HV;go_upto_region 7 with fail;generalize w1.heap.size=q1 at*;generalize w2.heap.size=q2 at*;generalize w2.alloc (.cells #[I0 id,I0 ep,.slice al kl cl,I0 0] 48)=W2 at*;have keep:∀V,B0 W2 V->V.cell? ⟨q1,0,none⟩=some (.slice a1 n1 c1)/\V.cell? ⟨q2,0,none⟩=some (I0 id)/\V.cell? ⟨q2,1,none⟩=some (I0 ep)/\V.cell? ⟨q2,2,none⟩=some (.slice al kl cl)/\V.cell? ⟨q2,3,none⟩=some (I0 0):=by
  intro V hV;have h2:=G9 P2;have h3:V.heap[q2]?=some (.cells #[I0 id,I0 ep,.slice al kl cl,I0 0] 48):=(hV.block q2 (Array.getElem?_eq_some_iff.1 h2).1).trans h2;refine⟨((G9 A2).next hV).c,?_,?_,?_,?_⟩<;>simp[World.cell?,h3]
 have HK:=GH keep;have HT:=GH (fun W=>(AB5 W).mono fun _ _ h=>xG h);clear keep;obtain⟨k0,k1,k2,k3,k4⟩:=G9 HK _ (Below.refl _ _)
 go_region_with (first
  |(go_at_call 32;refine(G9 HT _).mono ?_;rintro e w3 ⟨an,cn,ai,ci,rfl,ON,OI,hb3⟩;have B3:=GH (IG hb3);have X3:=GH ((G9 X2).next (G9 B3));obtain⟨r0,r1,r2,r3,r4,r5,r6,r7,r8,r9⟩:=(G9 X3).r.cells;have rf0:=(G9 X3).r.H6 0;have rf1:=(G9 X3).r.H6 1;have rf2:=(G9 X3).r.H6 2;have rf3:=(G9 X3).r.H6 3;have rf4:=(G9 X3).r.H6 4;have rf5:=(G9 X3).r.H6 5;have rf6:=(G9 X3).r.H6 6;have rf7:=(G9 X3).r.H6 7;have rf8:=(G9 X3).r.H6 8;have rf9:=(G9 X3).r.H6 9;obtain⟨m0,m1,m2,m3,m4⟩:=G9 HK _ (G9 B3);clear hb3))
 all_goals
  go_wp2_with fail;refine bodyPost_ret (v:=.tuple #[.agg #[.bool true,.slice a1 n1 c1,I0 id,I0 ep,.slice al kl cl,I0 0,I0 0,.slice an 1 cn,.slice ai 0 ci,N0],I0 0]) (by simp[results,results15,go_sem,r0,r1,r2,r3,r4,r5,r6,r7,r8,r9]) rfl ⟨_,rfl,?_,JE (G9 X3).below (by omega) _ _ _ _ _ _ _ _ _ _⟩;exact bJ (s:=⟨true,d,id,ep,ts,0,QW,[]⟩) (G9 X3).r.fK ((G9 D2).next (G9 B3)) ((G9 L2).next (G9 B3)) (G9 ON) (G9 OI).seq (VL (G9 OI) (G9 X2).r.lt) (IV.nil _)
theorem CB.zero{w W:World}{up:Bool}{id ep dn z:Int}{vd vl vn vs vw:Value}(h:CB w W up vd id ep vl dn z vn vs vw):B0 w (NY W (w.heap.size+1) (.bool false) (N0) (I0 0) (I0 0) (N0) (I0 0) (I0 0) (N0) (N0) (N0)):=JE h.below (by omega) _ _ _ _ _ _ _ _ _ _
theorem AN8(s:Sv)(v:Value)(d:List DF)(keep E:Int)(w:World)(hv:SvV w v s)(hE:E≠0)(G:NT 94 (fun x=>#[x,I0 keep]) s.fs d E):
  Calls prog 56 #[v,I0 keep] w (bH w sv0 E):=by
 obtain⟨ad,nd,cd,al,cl,an,cn,ai,ci,aw,cw,rfl,d1,l1,n1,s1,k1⟩:=hv.five;have HD:=GH (fun W (hW:B0 w W)=>G _ W (d1.next hW));clear hv d1 l1 n1 s1 k1 G;obtain⟨up,fs,id,ep,ts,dn,⟨tz,tns,tss⟩,ws⟩:=s;simp only at*;have hne:(E !=0)=true:=by simpa using hE
 clear hE;go_enter func56,ntmps56;go_wp2_with fail;have X0:=CB.start w up id ep dn tz (.slice ad nd cd) (.slice al ts.length cl) (.slice an tns.length cn) (.slice ai tss.length ci) (.slice aw ws.length cw);generalize (w.alloc (.cells #[.bool up,.slice ad nd cd,I0 id,I0 ep,.slice al ts.length cl,I0 dn,I0 tz,.slice an tns.length cn,.slice ai tss.length ci,.slice aw ws.length cw] 55)).alloc (.cells #[.bool false,N0,I0 0,I0 0,N0,I0 0,I0 0,N0,N0,N0] 55)=W0 at*;have HX0:=GH X0;obtain⟨x0,x1,x2,x3,x4,x5,x6,x7,x8,x9⟩:=X0.s.cells;clear X0;refine(G9 HD _ (G9 HX0).below).mono ?_;rintro e w1 ⟨a1,n1,c1,rfl,D1,hb1⟩;have hal:=GI w1 (.cells #[.slice a1 n1 c1] 45);have X1:=GH (((G9 HX0).next hb1).next hal);have A1:=GH (KN.new w1 (.slice a1 n1 c1));have F1:=GH ((G9 D1).next hal);clear hb1 hal HX0 HD D1 x0 x1 x2 x3 x4 x5 x6 x7 x8 x9;go_upto_region 3 with fail;generalize w1.alloc (.cells #[.slice a1 n1 c1] 45)=W1 at*;obtain⟨r0,r1,r2,r3,r4,r5,r6,r7,r8,r9⟩:=(G9 X1).r.cells;have rf0:=(G9 X1).r.H6 0;have rf1:=(G9 X1).r.H6 1;have rf2:=(G9 X1).r.H6 2;have rf3:=(G9 X1).r.H6 3;have rf4:=(G9 X1).r.H6 4;have rf5:=(G9 X1).r.H6 5;have rf6:=(G9 X1).r.H6 6;have rf7:=(G9 X1).r.H6 7;have rf8:=(G9 X1).r.H6 8;have rf9:=(G9 X1).r.H6 9;go_wp2_with fail;exact bodyPost_ret (v:=.tuple #[.agg #[.bool false,N0,I0 0,I0 0,N0,I0 0,I0 0,N0,N0,N0],I0 E]) (by simp[results,results56,go_sem,r0,r1,r2,r3,r4,r5,r6,r7,r8,r9]) rfl (AK1 rfl (G9 X1).zero)
theorem B49(s:Sv)(v:Value)(d:List DF)(keep:Int)(w:World)(hv:SvV w v s)(G:NT 94 (fun x=>#[x,I0 keep]) s.fs d 0):
  Calls prog 56 #[v,I0 keep] w (bH w ⟨false,d,s.id,0,[],0,QW,[]⟩ 0):=by
 obtain⟨ad,nd,cd,al,cl,an,cn,ai,ci,aw,cw,rfl,d1,l1,n1,s1,k1⟩:=hv.five;have HD:=GH (fun W (hW:B0 w W)=>G _ W (d1.next hW));clear hv d1 l1 n1 s1 k1 G;obtain⟨up,fs,id,ep,ts,dn,⟨tz,tns,tss⟩,ws⟩:=s;simp only at*;go_enter func56,ntmps56;go_wp2_with fail;have X0:=CB.start w up id ep dn tz (.slice ad nd cd) (.slice al ts.length cl) (.slice an tns.length cn) (.slice ai tss.length ci) (.slice aw ws.length cw);generalize (w.alloc (.cells #[.bool up,.slice ad nd cd,I0 id,I0 ep,.slice al ts.length cl,I0 dn,I0 tz,.slice an tns.length cn,.slice ai tss.length ci,.slice aw ws.length cw] 55)).alloc (.cells #[.bool false,N0,I0 0,I0 0,N0,I0 0,I0 0,N0,N0,N0] 55)=W0 at*;have HX0:=GH X0;obtain⟨x0,x1,x2,x3,x4,x5,x6,x7,x8,x9⟩:=X0.s.cells;clear X0;refine(G9 HD _ (G9 HX0).below).mono ?_;rintro e w1 ⟨a1,n1,c1,rfl,D1,hb1⟩;have hal:=GI w1 (.cells #[.slice a1 n1 c1] 45);have X1:=GH (((G9 HX0).next hb1).next hal);have A1:=GH (KN.new w1 (.slice a1 n1 c1));have F1:=GH ((G9 D1).next hal);clear hb1 hal HX0 HD D1 x0 x1 x2 x3 x4 x5 x6 x7 x8 x9;go_upto_region 4 with fail;generalize w1.heap.size=q1 at*;generalize w1.alloc (.cells #[.slice a1 n1 c1] 45)=W1 at*;have keep:∀V,B0 W1 V->V.cell? ⟨q1,0,none⟩=some (.slice a1 n1 c1)/\V.cell? ⟨w.heap.size,2,none⟩=some (I0 id):=fun V hV=>⟨((G9 A1).next hV).c,((G9 X1).s.next hV).cells.2.2.1⟩;have HK:=GH keep;have HT:=GH (fun W=>(AB5 W).mono fun _ _ h=>xG h);clear keep;obtain⟨k0,k1⟩:=G9 HK _ (Below.refl _ _)
 go_region_with (first
  |(go_at_call 32;refine(G9 HT _).mono ?_;rintro e w3 ⟨bn,en,bi,ei,rfl,ON,OI,hb3⟩;have B3:=GH (IG hb3);have X3:=GH ((G9 X1).next (G9 B3));obtain⟨r0,r1,r2,r3,r4,r5,r6,r7,r8,r9⟩:=(G9 X3).r.cells;have rf0:=(G9 X3).r.H6 0;have rf1:=(G9 X3).r.H6 1;have rf2:=(G9 X3).r.H6 2;have rf3:=(G9 X3).r.H6 3;have rf4:=(G9 X3).r.H6 4;have rf5:=(G9 X3).r.H6 5;have rf6:=(G9 X3).r.H6 6;have rf7:=(G9 X3).r.H6 7;have rf8:=(G9 X3).r.H6 8;have rf9:=(G9 X3).r.H6 9;obtain⟨m0,m1⟩:=G9 HK _ (G9 B3);clear hb3))
 all_goals
  go_wp2_with fail;refine bodyPost_ret (v:=.tuple #[.agg #[.bool false,.slice a1 n1 c1,I0 id,I0 0,N0,I0 0,I0 0,.slice bn 1 en,.slice bi 0 ei,N0],I0 0]) (by simp[results,results56,go_sem,r0,r1,r2,r3,r4,r5,r6,r7,r8,r9]) rfl ⟨_,rfl,?_,JE (G9 X3).below (by omega) _ _ _ _ _ _ _ _ _ _⟩;exact bJ (s:=⟨false,d,id,0,[],0,QW,[]⟩) (G9 X3).r.fK ((G9 F1).next (G9 B3)) (NQ.nil _) (G9 ON) (G9 OI).seq (VL (G9 OI) (G9 X1).r.lt) (IV.nil _)
end Go.Proofs.YtefephchbjfdfaaGreatDoor
