/-
  Part.
-/
import Derived.Test.YtbaacalmgfkojaaGreatDoorLOF
import Derived.Test.YtbaacalmgfkojaaGreatDoorLOG
import Derived.Test.YtbaacalmgfkojaaGreatDoorLOE
import Derived.Test.YtbaacalmgfkojaaGreatDoorLOH
import Derived.Test.YtbaacalmgfkojaaGreatDoorLOJ
set_option maxRecDepth 20000
set_option maxHeartbeats 8000000
namespace Go.Proofs.YtbaacalmgfkojaaGreatDoor
structure Sv where
 up:Bool
 fs:List DF
 id:Int
 ep:Int
 ts:List GI
 dn:Int
 tr:Tr
 ws:List Wa
def sv0:Sv:=⟨false,[],0,0,[],0,tr0,[]⟩
def JF:List UInt8:=[101,112,111,99,104]
theorem YN:J9 JF=true:=by decide
theorem uD:eY []=0:=(pG (.inl (by decide))).1
theorem UU:IW 0=0:=by decide
theorem ZO(z:Int):(QF z).length<=30:=by
 cases hg:KH z with
 |false=>rw[(A65 hg).1];simp
 |true=>
  have h:=LX.1 hg;rw[(iQ hg).1];have h1:=iO 9 (z/2147483648).toNat (by omega);have h2:=iO 9 (z%2147483648).toNat (by omega);simp only[List.length_append,List.length_cons];omega
end Go.Proofs.YtbaacalmgfkojaaGreatDoor
namespace Go.Proofs.YtbaacalmgfkojaaGreatDoor
open Go.RowKit Go.Proofs.Tryz
def SvV(w:World)(v:Value)(s:Sv):Prop:=∃vd vl vn vs vw,v=.agg #[.bool s.up,vd,I0 s.id,I0 s.ep,vl,I0 s.dn,I0 s.tr.z,vn,vs,vw]/\IK w vd s.fs/\NI w vl s.ts/\IL w vn s.tr.ns/\IL w vs s.tr.ss/\IL w vw s.ws
theorem SvV.next{w w':World}{v:Value}{s:Sv}(h:SvV w v s)(hb:B0 w w'):SvV w' v s:=by
 obtain⟨vd,vl,vn,vs,vw,rfl,h1,h2,h3,h4,h5⟩:=h;exact⟨vd,vl,vn,vs,vw,rfl,h1.next hb,h2.next hb,h3.next hb,h4.next hb,h5.next hb⟩
theorem SvV.alloc{w:World}{v:Value}{s:Sv}(h:SvV w v s)(o:Obj):SvV (w.alloc o) v s:=h.next (G7 _ _)
theorem SvV.five{w:World}{v:Value}{s:Sv}(h:SvV w v s):∃ad nd cd al cl an cn ai ci aw cw,
  v=.agg #[.bool s.up,.slice ad nd cd,I0 s.id,I0 s.ep,.slice al s.ts.length cl,I0 s.dn,I0 s.tr.z,.slice an s.tr.ns.length cn,.slice ai s.tr.ss.length ci,.slice aw s.ws.length cw]/\
  IK w (.slice ad nd cd) s.fs/\NI w (.slice al s.ts.length cl) s.ts/\IL w (.slice an s.tr.ns.length cn) s.tr.ns/\IL w (.slice ai s.tr.ss.length ci) s.tr.ss/\IL w (.slice aw s.ws.length cw) s.ws:=by
 obtain⟨vd,vl,vn,vs,vw,rfl,h1,h2,h3,h4,h5⟩:=h;obtain⟨ad,nd,cd,rfl⟩:=IU h1;obtain⟨al,cl,rfl⟩:=MB h2;obtain⟨an,cn,rfl⟩:=GK h3;obtain⟨ai,ci,rfl⟩:=GK h4;obtain⟨aw,cw,rfl⟩:=GK h5;exact⟨ad,nd,cd,al,cl,an,cn,ai,ci,aw,cw,rfl,h1,h2,h3,h4,h5⟩
def svZ:Value:=.agg #[.bool false,N0,I0 0,I0 0,N0,I0 0,I0 0,N0,N0,N0]
theorem SvV.zero(w:World):SvV w svZ sv0:=⟨_,_,_,_,_,rfl,IK.nil w,NI.nil w,IL.nil w,IL.nil w,IL.nil w⟩
def ZV(w:World)(s:Sv)(E:Int)(e:Ending)(w':World):Prop:=∃v,e=.returned (.tuple #[v,I0 E])/\SvV w' v s/\B0 w w'
theorem AG7{w w':World}{E:Int}{e:Ending}(he:e=.returned (.tuple #[svZ,I0 E]))(hb:B0 w w'):ZV w sv0 E e w':=⟨_,he,SvV.zero w',hb⟩
instance layF:Lay DF:=⟨3,JB,88,fun _=>rfl,fun x u hu=>by simp[JB]at hu;rcases hu with rfl|rfl|rfl<;>rfl⟩
theorem BE3(fs:List DF):G9 fs=H6 fs:=by
 induction fs with
 |nil=>rfl
 |cons f r ih=>rw[JQ,ih];rfl
theorem TA{w:World}{v:Value}{fs:List DF}:IL w v fs↔IK w v fs:=by unfold IL IK;rw[BE3]
theorem N8(s:List UInt8)(w:World)(hs:s.length<=281474976710656):
  Calls prog 42 #[S0 s] w (R0 w (S0 s)):=OJ s w hs
theorem A72(a:Addr)(cap:Nat)(xs:List DF)(w:World)(hl:xs.length*48<=140737488355328)(hc:∀j u,(G9 xs)[j]?=some u->w.cell? (a.add j)=some u):
  Calls prog 20 #[.slice (some a) xs.length cap] w fun e w'=>∃v',e=.returned v'/\GZ w' w.heap.size v' xs/\B0 w w':=by
 have q22:∀ (w:World) (a:Option Addr) (n c n' c':Nat),(binOp .eql 40 (.slice a n c) (.slice none n' c')).run prog w=.ok (.bool a.isNone) w:=fun w a n c n' c'=>Lib.run_eql_slice_nil w _ _ a n c n' c' underlying40;have H:=G6 hc;clear hc;obtain⟨i0,hi0,hz0,hz1,hz2⟩:=U5;go_enter func20,ntmps20;go_wp2_with (at_builtin;refine wpList_append_own _ rfl _ _ 40 rfl w.heap.size 88 i0 _ 3 48 underlying40 hi0 hz0 hz1 hz2 rfl (by decide) _ _ _ rfl (World.ownsRow_made w #[] 0 (Nat.le_refl _) (Nat.zero_le _) (by simp)) a xs.length cap (G9 xs) rfl ?qc1 ?qc2 ?qc3 ?qc4 ?qc5 ?qc6 ?_)
 case qc1=>exact GX xs
 case qc2=>
  intro j u hj;exact Lib.cell?_alloc_some _ (G5 H j u hj)
 case qc3=>exact JL xs
 case qc4=>simp only[maxLen];omega
 case qc5=>omega
 case qc6=>simp
 intro v' w1 hown hgrow hnil
 go_wp2
 go_ret;refine⟨v',rfl,GZ.KY (by first|exact hown|(simp only[List.nil_append,Nat.zero_add]at hown;exact hown)|simpa using hown),?_⟩;exact((Below.refl _ w).alloc (Nat.le_refl _) _).grown hgrow (by simp) (by intro k hk;simp[Value.ownBlock]at hk;omega)
theorem BX4(n c:Nat)(w:World):
  Calls prog 20 #[.slice none n c] w fun e w'=>e=.returned (N0)/\w'=w:=by
 have q22:∀ (w:World) (a:Option Addr) (n c n' c':Nat),(binOp .eql 40 (.slice a n c) (.slice none n' c')).run prog w=.ok (.bool a.isNone) w:=fun w a n c n' c'=>Lib.run_eql_slice_nil w _ _ a n c n' c' underlying40;go_enter func20,ntmps20
 go_wp2
 go_ret;exact⟨rfl,rfl⟩
theorem AV7(v:Value)(xs:List DF)(w:World)(hv:IL w v xs)(hl:xs.length*48<=140737488355328):
  Calls prog 20 #[v] w fun e w'=>∃v',e=.returned v'/\GZ w' w.heap.size v' xs/\B0 w w':=by
 rcases hv with⟨a,cap,rfl,rfl,_⟩|⟨b,off,cap,rfl,_,_,hb,_,hr⟩
 .cases a with
  |none=>exact(BX4 0 cap w).mono fun e w' ⟨he,hw⟩=>⟨_,he,.inl ⟨rfl,rfl⟩,by rw[hw];exact Below.refl _ _⟩
  |some a=>exact A72 a cap [] w (by simp) (fun j u h=>by simp[G9]at h)
 .exact A72 ⟨b,off,none⟩ cap xs w hl (fun j u h=>by rw[Addr.add_lit];exact hr j u h)
theorem BE4(x:DF)(w:World)(hn:x.n.length<=140737488355328)(hs:x.s.length<=140737488355328)(ht:x.t.length<=140737488355328):
  Calls prog 150 #[.agg #[S0 x.n,S0 x.s,S0 x.t]] w (R0 w (.agg #[S0 x.n,S0 x.s,S0 x.t])):=by
 obtain⟨xn,xs,xt⟩:=x;simp only at*;have Kn:=fun W=>N8 xn W (by omega);have Ks:=fun W=>N8 xs W (by omega);have Kt:=fun W=>N8 xt W (by omega);go_enter func150,ntmps150;go_wp2_with fail;generalize hW0:(w.alloc (.cells #[S0 xn,S0 xs,S0 xt] 88)).alloc (.cells #[.string ⟨#[]⟩,.string ⟨#[]⟩,.string ⟨#[]⟩] 88)=W0;have hB0:B0 w W0:=by rw[<-hW0];exact G8 (G7 _ _) (G7 _ _)
 have hz0:W0.heap.size=w.heap.size+2:=by rw[<-hW0];simp
 have p0:W0.cell? ⟨w.heap.size,0,none⟩=some (S0 xn):=by rw[<-hW0];simp
 have r0:W0.cell? ⟨w.heap.size+1,0,none⟩=some (.string ⟨#[]⟩):=by rw[<-hW0];simp
 have p1:W0.cell? ⟨w.heap.size,1,none⟩=some (S0 xs):=by rw[<-hW0];simp
 have r1:W0.cell? ⟨w.heap.size+1,1,none⟩=some (.string ⟨#[]⟩):=by rw[<-hW0];simp
 have p2:W0.cell? ⟨w.heap.size,2,none⟩=some (S0 xt):=by rw[<-hW0];simp
 have r2:W0.cell? ⟨w.heap.size+1,2,none⟩=some (.string ⟨#[]⟩):=by rw[<-hW0];simp
 have pf:∀j,W0.frozen? ⟨w.heap.size,j,none⟩=false:=by intro j;rw[<-hW0];simp
 have rf:∀j,W0.frozen? ⟨w.heap.size+1,j,none⟩=false:=by intro j;rw[<-hW0];simp
 clear hW0;have d0:∀d os,(Sort.grow (redrawn W0 d) os).cell? ⟨w.heap.size,0,none⟩=some (S0 xn):=fun d os=>cell_regrown p0 d os;have g0:∀d os,(Sort.grow (redrawn W0 d) os).frozen? ⟨w.heap.size,0,none⟩=false:=fun d os=>by rw[(below_regrown W0 d os).frozen (p:=⟨w.heap.size,0,none⟩) (by simp only;omega)];exact pf 0
 have s0:∀d os,(Sort.grow (redrawn W0 d) os).setCell ⟨w.heap.size,0,none⟩ (S0 xn)=Sort.grow (redrawn W0 d) os:=fun d os=>I5 (d0 d os);have c0:=fun d os=>Calls.regrown_of (w:=W0) (d:=d) (os:=os) (Kn _);have d1:∀d os,(Sort.grow (redrawn W0 d) os).cell? ⟨w.heap.size,1,none⟩=some (S0 xs):=fun d os=>cell_regrown p1 d os;have g1:∀d os,(Sort.grow (redrawn W0 d) os).frozen? ⟨w.heap.size,1,none⟩=false:=fun d os=>by rw[(below_regrown W0 d os).frozen (p:=⟨w.heap.size,1,none⟩) (by simp only;omega)];exact pf 1
 have s1:∀d os,(Sort.grow (redrawn W0 d) os).setCell ⟨w.heap.size,1,none⟩ (S0 xs)=Sort.grow (redrawn W0 d) os:=fun d os=>I5 (d1 d os);have c1:=fun d os=>Calls.regrown_of (w:=W0) (d:=d) (os:=os) (Ks _);have d2:∀d os,(Sort.grow (redrawn W0 d) os).cell? ⟨w.heap.size,2,none⟩=some (S0 xt):=fun d os=>cell_regrown p2 d os;have g2:∀d os,(Sort.grow (redrawn W0 d) os).frozen? ⟨w.heap.size,2,none⟩=false:=fun d os=>by rw[(below_regrown W0 d os).frozen (p:=⟨w.heap.size,2,none⟩) (by simp only;omega)];exact pf 2
 have s2:∀d os,(Sort.grow (redrawn W0 d) os).setCell ⟨w.heap.size,2,none⟩ (S0 xt)=Sort.grow (redrawn W0 d) os:=fun d os=>I5 (d2 d os);have c2:=fun d os=>Calls.regrown_of (w:=W0) (d:=d) (os:=os) (Kt _);refine wp_region_quiet_below (by kernel_rfl) (by kernel_rfl) ?_
 repeat (first|go_big_quiet_step (first|with_reducible exact c0 _ _|with_reducible exact c1 _ _|with_reducible exact c2 _ _)|quiet_step (first|with_reducible exact c0 _ _|with_reducible exact c1 _ _|with_reducible exact c2 _ _))
 refine wpQuiet_nil ?_;intro _ hw';obtain⟨⟨dq,osq⟩,hw''⟩:=hw';subst hw'';have hb1:=below_regrown W0 dq osq;have hB:=G8 hB0 hb1;have e0:=(hb1.cell (p:=⟨w.heap.size,0,none⟩) (by simp only;omega)).trans p0;have u0:=(hb1.cell (p:=⟨w.heap.size+1,0,none⟩) (by simp only;omega)).trans r0;have v0:=(hb1.frozen (p:=⟨w.heap.size+1,0,none⟩) (by simp only;omega)).trans (rf 0);have e1:=(hb1.cell (p:=⟨w.heap.size,1,none⟩) (by simp only;omega)).trans p1;have u1:=(hb1.cell (p:=⟨w.heap.size+1,1,none⟩) (by simp only;omega)).trans r1;have v1:=(hb1.frozen (p:=⟨w.heap.size+1,1,none⟩) (by simp only;omega)).trans (rf 1);have e2:=(hb1.cell (p:=⟨w.heap.size,2,none⟩) (by simp only;omega)).trans p2;have u2:=(hb1.cell (p:=⟨w.heap.size+1,2,none⟩) (by simp only;omega)).trans r2;have v2:=(hb1.frozen (p:=⟨w.heap.size+1,2,none⟩) (by simp only;omega)).trans (rf 2);generalize Sort.grow (redrawn W0 dq) osq=w1 at*;clear hb1 hB0 hz0 pf rf p0 r0 p1 r1 p2 r2 d0 g0 s0 c0 Kn d1 g1 s1 c1 Ks d2 g2 s2 c2 Kt;go_wp2_with fail;refine bodyPost_ret (v:=.agg #[S0 xn,S0 xs,S0 xt]) (by simp[results,results150,go_sem,u0,u1,u2]) rfl ⟨rfl,?_⟩;exact(((hB.setCell (by simp) _).setCell (by simp) _).setCell (by simp) _)
theorem A73(a:Addr)(cap:Nat)(xs:List GI)(w:World)(hl:xs.length*72<=140737488355328)(hc:∀j u,(G9 xs)[j]?=some u->w.cell? (a.add j)=some u):
  Calls prog 21 #[.slice (some a) xs.length cap] w fun e w'=>∃v',e=.returned v'/\GZ w' w.heap.size v' xs/\B0 w w':=by
 have q22:∀ (w:World) (a:Option Addr) (n c n' c':Nat),(binOp .eql 37 (.slice a n c) (.slice none n' c')).run prog w=.ok (.bool a.isNone) w:=fun w a n c n' c'=>Lib.run_eql_slice_nil w _ _ a n c n' c' underlying37;have H:=G6 hc;clear hc;obtain⟨i0,hi0,hz0,hz1,hz2⟩:=pI;go_enter func21,ntmps21;go_wp2_with (at_builtin;refine wpList_append_own _ rfl _ _ 37 rfl w.heap.size 52 i0 _ 7 72 underlying37 hi0 hz0 hz1 hz2 rfl (by decide) _ _ _ rfl (World.ownsRow_made w #[] 0 (Nat.le_refl _) (Nat.zero_le _) (by simp)) a xs.length cap (G9 xs) rfl ?qc1 ?qc2 ?qc3 ?qc4 ?qc5 ?qc6 ?_)
 case qc1=>exact GX xs
 case qc2=>
  intro j u hj;exact Lib.cell?_alloc_some _ (G5 H j u hj)
 case qc3=>exact JL xs
 case qc4=>simp only[maxLen];omega
 case qc5=>omega
 case qc6=>simp
 intro v' w1 hown hgrow hnil
 go_wp2
 go_ret;refine⟨v',rfl,GZ.KY (by first|exact hown|(simp only[List.nil_append,Nat.zero_add]at hown;exact hown)|simpa using hown),?_⟩;exact((Below.refl _ w).alloc (Nat.le_refl _) _).grown hgrow (by simp) (by intro k hk;simp[Value.ownBlock]at hk;omega)
theorem BX5(n c:Nat)(w:World):
  Calls prog 21 #[.slice none n c] w fun e w'=>e=.returned (N0)/\w'=w:=by
 have q22:∀ (w:World) (a:Option Addr) (n c n' c':Nat),(binOp .eql 37 (.slice a n c) (.slice none n' c')).run prog w=.ok (.bool a.isNone) w:=fun w a n c n' c'=>Lib.run_eql_slice_nil w _ _ a n c n' c' underlying37;go_enter func21,ntmps21
 go_wp2
 go_ret;exact⟨rfl,rfl⟩
theorem pY(v:Value)(xs:List GI)(w:World)(hv:IL w v xs)(hl:xs.length*72<=140737488355328):
  Calls prog 21 #[v] w fun e w'=>∃v',e=.returned v'/\GZ w' w.heap.size v' xs/\B0 w w':=by
 rcases hv with⟨a,cap,rfl,rfl,_⟩|⟨b,off,cap,rfl,_,_,hb,_,hr⟩
 .cases a with
  |none=>exact(BX5 0 cap w).mono fun e w' ⟨he,hw⟩=>⟨_,he,.inl ⟨rfl,rfl⟩,by rw[hw];exact Below.refl _ _⟩
  |some a=>exact A73 a cap [] w (by simp) (fun j u h=>by simp[G9]at h)
 .exact A73 ⟨b,off,none⟩ cap xs w hl (fun j u h=>by rw[Addr.add_lit];exact hr j u h)
theorem A74(x:GI)(w:World)(hp:x.p.length<=140737488355328)(hd:x.d.length<=140737488355328):
  Calls prog 152 #[.agg #[I0 x.z,I0 x.o,I0 x.s,S0 x.p,S0 x.d,I0 x.v,I0 x.w]] w (R0 w (.agg #[I0 x.z,I0 x.o,I0 x.s,S0 x.p,S0 x.d,I0 x.v,I0 x.w])):=by
 obtain⟨xz,xo,xs,xp,xd,xv,xw⟩:=x;simp only at*;have Kp:=fun W=>N8 xp W (by omega);have Kd:=fun W=>N8 xd W (by omega);go_enter func152,ntmps152;go_wp2_with fail;generalize hW0:(w.alloc (.cells #[I0 xz,I0 xo,I0 xs,S0 xp,S0 xd,I0 xv,I0 xw] 52)).alloc (.cells #[I0 0,I0 0,I0 0,.string ⟨#[]⟩,.string ⟨#[]⟩,I0 0,I0 0] 52)=W0;have hB0:B0 w W0:=by rw[<-hW0];exact G8 (G7 _ _) (G7 _ _)
 have hz0:W0.heap.size=w.heap.size+2:=by rw[<-hW0];simp
 have p0:W0.cell? ⟨w.heap.size,0,none⟩=some (I0 xz):=by rw[<-hW0];simp
 have r0:W0.cell? ⟨w.heap.size+1,0,none⟩=some (I0 0):=by rw[<-hW0];simp
 have p1:W0.cell? ⟨w.heap.size,1,none⟩=some (I0 xo):=by rw[<-hW0];simp
 have r1:W0.cell? ⟨w.heap.size+1,1,none⟩=some (I0 0):=by rw[<-hW0];simp
 have p2:W0.cell? ⟨w.heap.size,2,none⟩=some (I0 xs):=by rw[<-hW0];simp
 have r2:W0.cell? ⟨w.heap.size+1,2,none⟩=some (I0 0):=by rw[<-hW0];simp
 have p3:W0.cell? ⟨w.heap.size,3,none⟩=some (S0 xp):=by rw[<-hW0];simp
 have r3:W0.cell? ⟨w.heap.size+1,3,none⟩=some (.string ⟨#[]⟩):=by rw[<-hW0];simp
 have p4:W0.cell? ⟨w.heap.size,4,none⟩=some (S0 xd):=by rw[<-hW0];simp
 have r4:W0.cell? ⟨w.heap.size+1,4,none⟩=some (.string ⟨#[]⟩):=by rw[<-hW0];simp
 have p5:W0.cell? ⟨w.heap.size,5,none⟩=some (I0 xv):=by rw[<-hW0];simp
 have r5:W0.cell? ⟨w.heap.size+1,5,none⟩=some (I0 0):=by rw[<-hW0];simp
 have p6:W0.cell? ⟨w.heap.size,6,none⟩=some (I0 xw):=by rw[<-hW0];simp
 have r6:W0.cell? ⟨w.heap.size+1,6,none⟩=some (I0 0):=by rw[<-hW0];simp
 have pf:∀j,W0.frozen? ⟨w.heap.size,j,none⟩=false:=by intro j;rw[<-hW0];simp
 have rf:∀j,W0.frozen? ⟨w.heap.size+1,j,none⟩=false:=by intro j;rw[<-hW0];simp
 clear hW0;have d3:∀d os,(Sort.grow (redrawn W0 d) os).cell? ⟨w.heap.size,3,none⟩=some (S0 xp):=fun d os=>cell_regrown p3 d os;have g3:∀d os,(Sort.grow (redrawn W0 d) os).frozen? ⟨w.heap.size,3,none⟩=false:=fun d os=>by rw[(below_regrown W0 d os).frozen (p:=⟨w.heap.size,3,none⟩) (by simp only;omega)];exact pf 3
 have s3:∀d os,(Sort.grow (redrawn W0 d) os).setCell ⟨w.heap.size,3,none⟩ (S0 xp)=Sort.grow (redrawn W0 d) os:=fun d os=>I5 (d3 d os);have c3:=fun d os=>Calls.regrown_of (w:=W0) (d:=d) (os:=os) (Kp _);have d4:∀d os,(Sort.grow (redrawn W0 d) os).cell? ⟨w.heap.size,4,none⟩=some (S0 xd):=fun d os=>cell_regrown p4 d os;have g4:∀d os,(Sort.grow (redrawn W0 d) os).frozen? ⟨w.heap.size,4,none⟩=false:=fun d os=>by rw[(below_regrown W0 d os).frozen (p:=⟨w.heap.size,4,none⟩) (by simp only;omega)];exact pf 4
 have s4:∀d os,(Sort.grow (redrawn W0 d) os).setCell ⟨w.heap.size,4,none⟩ (S0 xd)=Sort.grow (redrawn W0 d) os:=fun d os=>I5 (d4 d os);have c4:=fun d os=>Calls.regrown_of (w:=W0) (d:=d) (os:=os) (Kd _);refine wp_region_quiet_below (by kernel_rfl) (by kernel_rfl) ?_
 repeat (first|go_big_quiet_step (first|with_reducible exact c3 _ _|with_reducible exact c4 _ _)|quiet_step (first|with_reducible exact c3 _ _|with_reducible exact c4 _ _))
 refine wpQuiet_nil ?_;intro _ hw';obtain⟨⟨dq,osq⟩,hw''⟩:=hw';subst hw'';have hb1:=below_regrown W0 dq osq;have hB:=G8 hB0 hb1;have e0:=(hb1.cell (p:=⟨w.heap.size,0,none⟩) (by simp only;omega)).trans p0;have u0:=(hb1.cell (p:=⟨w.heap.size+1,0,none⟩) (by simp only;omega)).trans r0;have v0:=(hb1.frozen (p:=⟨w.heap.size+1,0,none⟩) (by simp only;omega)).trans (rf 0);have e1:=(hb1.cell (p:=⟨w.heap.size,1,none⟩) (by simp only;omega)).trans p1;have u1:=(hb1.cell (p:=⟨w.heap.size+1,1,none⟩) (by simp only;omega)).trans r1;have v1:=(hb1.frozen (p:=⟨w.heap.size+1,1,none⟩) (by simp only;omega)).trans (rf 1);have e2:=(hb1.cell (p:=⟨w.heap.size,2,none⟩) (by simp only;omega)).trans p2;have u2:=(hb1.cell (p:=⟨w.heap.size+1,2,none⟩) (by simp only;omega)).trans r2;have v2:=(hb1.frozen (p:=⟨w.heap.size+1,2,none⟩) (by simp only;omega)).trans (rf 2);have e3:=(hb1.cell (p:=⟨w.heap.size,3,none⟩) (by simp only;omega)).trans p3;have u3:=(hb1.cell (p:=⟨w.heap.size+1,3,none⟩) (by simp only;omega)).trans r3;have v3:=(hb1.frozen (p:=⟨w.heap.size+1,3,none⟩) (by simp only;omega)).trans (rf 3);have e4:=(hb1.cell (p:=⟨w.heap.size,4,none⟩) (by simp only;omega)).trans p4;have u4:=(hb1.cell (p:=⟨w.heap.size+1,4,none⟩) (by simp only;omega)).trans r4;have v4:=(hb1.frozen (p:=⟨w.heap.size+1,4,none⟩) (by simp only;omega)).trans (rf 4);have e5:=(hb1.cell (p:=⟨w.heap.size,5,none⟩) (by simp only;omega)).trans p5;have u5:=(hb1.cell (p:=⟨w.heap.size+1,5,none⟩) (by simp only;omega)).trans r5;have v5:=(hb1.frozen (p:=⟨w.heap.size+1,5,none⟩) (by simp only;omega)).trans (rf 5);have e6:=(hb1.cell (p:=⟨w.heap.size,6,none⟩) (by simp only;omega)).trans p6;have u6:=(hb1.cell (p:=⟨w.heap.size+1,6,none⟩) (by simp only;omega)).trans r6;have v6:=(hb1.frozen (p:=⟨w.heap.size+1,6,none⟩) (by simp only;omega)).trans (rf 6);generalize Sort.grow (redrawn W0 dq) osq=w1 at*;clear hb1 hB0 hz0 pf rf p0 r0 p1 r1 p2 r2 p3 r3 p4 r4 p5 r5 p6 r6 d3 g3 s3 c3 Kp d4 g4 s4 c4 Kd;go_wp2_with fail;refine bodyPost_ret (v:=.agg #[I0 xz,I0 xo,I0 xs,S0 xp,S0 xd,I0 xv,I0 xw]) (by simp[results,results152,go_sem,u0,u1,u2,u3,u4,u5,u6]) rfl ⟨rfl,?_⟩;exact(((((((hB.setCell (by simp) _).setCell (by simp) _).setCell (by simp) _).setCell (by simp) _).setCell (by simp) _).setCell (by simp) _).setCell (by simp) _)
theorem A75(a:Addr)(cap:Nat)(xs:List Nd)(w:World)(hl:xs.length*88<=140737488355328)(hc:∀j u,(G9 xs)[j]?=some u->w.cell? (a.add j)=some u):
  Calls prog 22 #[.slice (some a) xs.length cap] w fun e w'=>∃v',e=.returned v'/\GZ w' w.heap.size v' xs/\B0 w w':=by
 have q22:∀ (w:World) (a:Option Addr) (n c n' c':Nat),(binOp .eql 43 (.slice a n c) (.slice none n' c')).run prog w=.ok (.bool a.isNone) w:=fun w a n c n' c'=>Lib.run_eql_slice_nil w _ _ a n c n' c' underlying43;have H:=G6 hc;clear hc;obtain⟨i0,hi0,hz0,hz1,hz2⟩:=AH3;go_enter func22,ntmps22;go_wp2_with (at_builtin;refine wpList_append_own _ rfl _ _ 43 rfl w.heap.size 69 i0 _ 9 88 underlying43 hi0 hz0 hz1 hz2 rfl (by decide) _ _ _ rfl (World.ownsRow_made w #[] 0 (Nat.le_refl _) (Nat.zero_le _) (by simp)) a xs.length cap (G9 xs) rfl ?qc1 ?qc2 ?qc3 ?qc4 ?qc5 ?qc6 ?_)
 case qc1=>exact GX xs
 case qc2=>
  intro j u hj;exact Lib.cell?_alloc_some _ (G5 H j u hj)
 case qc3=>exact JL xs
 case qc4=>simp only[maxLen];omega
 case qc5=>omega
 case qc6=>simp
 intro v' w1 hown hgrow hnil
 go_wp2
 go_ret;refine⟨v',rfl,GZ.KY (by first|exact hown|(simp only[List.nil_append,Nat.zero_add]at hown;exact hown)|simpa using hown),?_⟩;exact((Below.refl _ w).alloc (Nat.le_refl _) _).grown hgrow (by simp) (by intro k hk;simp[Value.ownBlock]at hk;omega)
theorem BX6(n c:Nat)(w:World):
  Calls prog 22 #[.slice none n c] w fun e w'=>e=.returned (N0)/\w'=w:=by
 have q22:∀ (w:World) (a:Option Addr) (n c n' c':Nat),(binOp .eql 43 (.slice a n c) (.slice none n' c')).run prog w=.ok (.bool a.isNone) w:=fun w a n c n' c'=>Lib.run_eql_slice_nil w _ _ a n c n' c' underlying43;go_enter func22,ntmps22
 go_wp2
 go_ret;exact⟨rfl,rfl⟩
theorem AV8(v:Value)(xs:List Nd)(w:World)(hv:IL w v xs)(hl:xs.length*88<=140737488355328):
  Calls prog 22 #[v] w fun e w'=>∃v',e=.returned v'/\GZ w' w.heap.size v' xs/\B0 w w':=by
 rcases hv with⟨a,cap,rfl,rfl,_⟩|⟨b,off,cap,rfl,_,_,hb,_,hr⟩
 .cases a with
  |none=>exact(BX6 0 cap w).mono fun e w' ⟨he,hw⟩=>⟨_,he,.inl ⟨rfl,rfl⟩,by rw[hw];exact Below.refl _ _⟩
  |some a=>exact A75 a cap [] w (by simp) (fun j u h=>by simp[G9]at h)
 .exact A75 ⟨b,off,none⟩ cap xs w hl (fun j u h=>by rw[Addr.add_lit];exact hr j u h)
theorem BE5(x:Nd)(w:World)(hp:x.p.length<=140737488355328)(hd:x.d.length<=140737488355328):
  Calls prog 154 #[.agg #[S0 x.p,S0 x.d,I0 x.c,I0 x.m,I0 x.q,I0 x.v,I0 x.k,I0 x.o,I0 x.n]] w (R0 w (.agg #[S0 x.p,S0 x.d,I0 x.c,I0 x.m,I0 x.q,I0 x.v,I0 x.k,I0 x.o,I0 x.n])):=by
 obtain⟨xp,xd,xc,xm,xq,xv,xk,xo,xn⟩:=x;simp only at*;have Kp:=fun W=>N8 xp W (by omega);have Kd:=fun W=>N8 xd W (by omega);go_enter func154,ntmps154;go_wp2_with fail;generalize hW0:(w.alloc (.cells #[S0 xp,S0 xd,I0 xc,I0 xm,I0 xq,I0 xv,I0 xk,I0 xo,I0 xn] 69)).alloc (.cells #[.string ⟨#[]⟩,.string ⟨#[]⟩,I0 0,I0 0,I0 0,I0 0,I0 0,I0 0,I0 0] 69)=W0;have hB0:B0 w W0:=by rw[<-hW0];exact G8 (G7 _ _) (G7 _ _)
 have hz0:W0.heap.size=w.heap.size+2:=by rw[<-hW0];simp
 have p0:W0.cell? ⟨w.heap.size,0,none⟩=some (S0 xp):=by rw[<-hW0];simp
 have r0:W0.cell? ⟨w.heap.size+1,0,none⟩=some (.string ⟨#[]⟩):=by rw[<-hW0];simp
 have p1:W0.cell? ⟨w.heap.size,1,none⟩=some (S0 xd):=by rw[<-hW0];simp
 have r1:W0.cell? ⟨w.heap.size+1,1,none⟩=some (.string ⟨#[]⟩):=by rw[<-hW0];simp
 have p2:W0.cell? ⟨w.heap.size,2,none⟩=some (I0 xc):=by rw[<-hW0];simp
 have r2:W0.cell? ⟨w.heap.size+1,2,none⟩=some (I0 0):=by rw[<-hW0];simp
 have p3:W0.cell? ⟨w.heap.size,3,none⟩=some (I0 xm):=by rw[<-hW0];simp
 have r3:W0.cell? ⟨w.heap.size+1,3,none⟩=some (I0 0):=by rw[<-hW0];simp
 have p4:W0.cell? ⟨w.heap.size,4,none⟩=some (I0 xq):=by rw[<-hW0];simp
 have r4:W0.cell? ⟨w.heap.size+1,4,none⟩=some (I0 0):=by rw[<-hW0];simp
 have p5:W0.cell? ⟨w.heap.size,5,none⟩=some (I0 xv):=by rw[<-hW0];simp
 have r5:W0.cell? ⟨w.heap.size+1,5,none⟩=some (I0 0):=by rw[<-hW0];simp
 have p6:W0.cell? ⟨w.heap.size,6,none⟩=some (I0 xk):=by rw[<-hW0];simp
 have r6:W0.cell? ⟨w.heap.size+1,6,none⟩=some (I0 0):=by rw[<-hW0];simp
 have p7:W0.cell? ⟨w.heap.size,7,none⟩=some (I0 xo):=by rw[<-hW0];simp
 have r7:W0.cell? ⟨w.heap.size+1,7,none⟩=some (I0 0):=by rw[<-hW0];simp
 have p8:W0.cell? ⟨w.heap.size,8,none⟩=some (I0 xn):=by rw[<-hW0];simp
 have r8:W0.cell? ⟨w.heap.size+1,8,none⟩=some (I0 0):=by rw[<-hW0];simp
 have pf:∀j,W0.frozen? ⟨w.heap.size,j,none⟩=false:=by intro j;rw[<-hW0];simp
 have rf:∀j,W0.frozen? ⟨w.heap.size+1,j,none⟩=false:=by intro j;rw[<-hW0];simp
 clear hW0;have d0:∀d os,(Sort.grow (redrawn W0 d) os).cell? ⟨w.heap.size,0,none⟩=some (S0 xp):=fun d os=>cell_regrown p0 d os;have g0:∀d os,(Sort.grow (redrawn W0 d) os).frozen? ⟨w.heap.size,0,none⟩=false:=fun d os=>by rw[(below_regrown W0 d os).frozen (p:=⟨w.heap.size,0,none⟩) (by simp only;omega)];exact pf 0
 have s0:∀d os,(Sort.grow (redrawn W0 d) os).setCell ⟨w.heap.size,0,none⟩ (S0 xp)=Sort.grow (redrawn W0 d) os:=fun d os=>I5 (d0 d os);have c0:=fun d os=>Calls.regrown_of (w:=W0) (d:=d) (os:=os) (Kp _);have d1:∀d os,(Sort.grow (redrawn W0 d) os).cell? ⟨w.heap.size,1,none⟩=some (S0 xd):=fun d os=>cell_regrown p1 d os;have g1:∀d os,(Sort.grow (redrawn W0 d) os).frozen? ⟨w.heap.size,1,none⟩=false:=fun d os=>by rw[(below_regrown W0 d os).frozen (p:=⟨w.heap.size,1,none⟩) (by simp only;omega)];exact pf 1
 have s1:∀d os,(Sort.grow (redrawn W0 d) os).setCell ⟨w.heap.size,1,none⟩ (S0 xd)=Sort.grow (redrawn W0 d) os:=fun d os=>I5 (d1 d os);have c1:=fun d os=>Calls.regrown_of (w:=W0) (d:=d) (os:=os) (Kd _);refine wp_region_quiet_below (by kernel_rfl) (by kernel_rfl) ?_
 repeat (first|go_big_quiet_step (first|with_reducible exact c0 _ _|with_reducible exact c1 _ _)|quiet_step (first|with_reducible exact c0 _ _|with_reducible exact c1 _ _))
 refine wpQuiet_nil ?_;intro _ hw';obtain⟨⟨dq,osq⟩,hw''⟩:=hw';subst hw'';have hb1:=below_regrown W0 dq osq;have hB:=G8 hB0 hb1;have e0:=(hb1.cell (p:=⟨w.heap.size,0,none⟩) (by simp only;omega)).trans p0;have u0:=(hb1.cell (p:=⟨w.heap.size+1,0,none⟩) (by simp only;omega)).trans r0;have v0:=(hb1.frozen (p:=⟨w.heap.size+1,0,none⟩) (by simp only;omega)).trans (rf 0);have e1:=(hb1.cell (p:=⟨w.heap.size,1,none⟩) (by simp only;omega)).trans p1;have u1:=(hb1.cell (p:=⟨w.heap.size+1,1,none⟩) (by simp only;omega)).trans r1;have v1:=(hb1.frozen (p:=⟨w.heap.size+1,1,none⟩) (by simp only;omega)).trans (rf 1);have e2:=(hb1.cell (p:=⟨w.heap.size,2,none⟩) (by simp only;omega)).trans p2;have u2:=(hb1.cell (p:=⟨w.heap.size+1,2,none⟩) (by simp only;omega)).trans r2;have v2:=(hb1.frozen (p:=⟨w.heap.size+1,2,none⟩) (by simp only;omega)).trans (rf 2);have e3:=(hb1.cell (p:=⟨w.heap.size,3,none⟩) (by simp only;omega)).trans p3;have u3:=(hb1.cell (p:=⟨w.heap.size+1,3,none⟩) (by simp only;omega)).trans r3;have v3:=(hb1.frozen (p:=⟨w.heap.size+1,3,none⟩) (by simp only;omega)).trans (rf 3);have e4:=(hb1.cell (p:=⟨w.heap.size,4,none⟩) (by simp only;omega)).trans p4;have u4:=(hb1.cell (p:=⟨w.heap.size+1,4,none⟩) (by simp only;omega)).trans r4;have v4:=(hb1.frozen (p:=⟨w.heap.size+1,4,none⟩) (by simp only;omega)).trans (rf 4);have e5:=(hb1.cell (p:=⟨w.heap.size,5,none⟩) (by simp only;omega)).trans p5;have u5:=(hb1.cell (p:=⟨w.heap.size+1,5,none⟩) (by simp only;omega)).trans r5;have v5:=(hb1.frozen (p:=⟨w.heap.size+1,5,none⟩) (by simp only;omega)).trans (rf 5);have e6:=(hb1.cell (p:=⟨w.heap.size,6,none⟩) (by simp only;omega)).trans p6;have u6:=(hb1.cell (p:=⟨w.heap.size+1,6,none⟩) (by simp only;omega)).trans r6;have v6:=(hb1.frozen (p:=⟨w.heap.size+1,6,none⟩) (by simp only;omega)).trans (rf 6);have e7:=(hb1.cell (p:=⟨w.heap.size,7,none⟩) (by simp only;omega)).trans p7;have u7:=(hb1.cell (p:=⟨w.heap.size+1,7,none⟩) (by simp only;omega)).trans r7;have v7:=(hb1.frozen (p:=⟨w.heap.size+1,7,none⟩) (by simp only;omega)).trans (rf 7);have e8:=(hb1.cell (p:=⟨w.heap.size,8,none⟩) (by simp only;omega)).trans p8;have u8:=(hb1.cell (p:=⟨w.heap.size+1,8,none⟩) (by simp only;omega)).trans r8;have v8:=(hb1.frozen (p:=⟨w.heap.size+1,8,none⟩) (by simp only;omega)).trans (rf 8);generalize Sort.grow (redrawn W0 dq) osq=w1 at*;clear hb1 hB0 hz0 pf rf p0 r0 p1 r1 p2 r2 p3 r3 p4 r4 p5 r5 p6 r6 p7 r7 p8 r8 d0 g0 s0 c0 Kp d1 g1 s1 c1 Kd;go_wp2_with fail;refine bodyPost_ret (v:=.agg #[S0 xp,S0 xd,I0 xc,I0 xm,I0 xq,I0 xv,I0 xk,I0 xo,I0 xn]) (by simp[results,results154,go_sem,u0,u1,u2,u3,u4,u5,u6,u7,u8]) rfl ⟨rfl,?_⟩;exact(((((((((hB.setCell (by simp) _).setCell (by simp) _).setCell (by simp) _).setCell (by simp) _).setCell (by simp) _).setCell (by simp) _).setCell (by simp) _).setCell (by simp) _).setCell (by simp) _)
theorem A76(a:Addr)(cap:Nat)(xs:List Wa)(w:World)(hl:xs.length*32<=140737488355328)(hc:∀j u,(G9 xs)[j]?=some u->w.cell? (a.add j)=some u):
  Calls prog 24 #[.slice (some a) xs.length cap] w fun e w'=>∃v',e=.returned v'/\GZ w' w.heap.size v' xs/\B0 w w':=by
 have q22:∀ (w:World) (a:Option Addr) (n c n' c':Nat),(binOp .eql 47 (.slice a n c) (.slice none n' c')).run prog w=.ok (.bool a.isNone) w:=fun w a n c n' c'=>Lib.run_eql_slice_nil w _ _ a n c n' c' underlying47;have H:=G6 hc;clear hc;obtain⟨i0,hi0,hz0,hz1,hz2⟩:=BW7;go_enter func24,ntmps24;go_wp2_with (at_builtin;refine wpList_append_own _ rfl _ _ 47 rfl w.heap.size 94 i0 _ 3 32 underlying47 hi0 hz0 hz1 hz2 rfl (by decide) _ _ _ rfl (World.ownsRow_made w #[] 0 (Nat.le_refl _) (Nat.zero_le _) (by simp)) a xs.length cap (G9 xs) rfl ?qc1 ?qc2 ?qc3 ?qc4 ?qc5 ?qc6 ?_)
 case qc1=>exact GX xs
 case qc2=>
  intro j u hj;exact Lib.cell?_alloc_some _ (G5 H j u hj)
 case qc3=>exact JL xs
 case qc4=>simp only[maxLen];omega
 case qc5=>omega
 case qc6=>simp
 intro v' w1 hown hgrow hnil
 go_wp2
 go_ret;refine⟨v',rfl,GZ.KY (by first|exact hown|(simp only[List.nil_append,Nat.zero_add]at hown;exact hown)|simpa using hown),?_⟩;exact((Below.refl _ w).alloc (Nat.le_refl _) _).grown hgrow (by simp) (by intro k hk;simp[Value.ownBlock]at hk;omega)
theorem BX7(n c:Nat)(w:World):
  Calls prog 24 #[.slice none n c] w fun e w'=>e=.returned (N0)/\w'=w:=by
 have q22:∀ (w:World) (a:Option Addr) (n c n' c':Nat),(binOp .eql 47 (.slice a n c) (.slice none n' c')).run prog w=.ok (.bool a.isNone) w:=fun w a n c n' c'=>Lib.run_eql_slice_nil w _ _ a n c n' c' underlying47;go_enter func24,ntmps24
 go_wp2
 go_ret;exact⟨rfl,rfl⟩
theorem AV9(v:Value)(xs:List Wa)(w:World)(hv:IL w v xs)(hl:xs.length*32<=140737488355328):
  Calls prog 24 #[v] w fun e w'=>∃v',e=.returned v'/\GZ w' w.heap.size v' xs/\B0 w w':=by
 rcases hv with⟨a,cap,rfl,rfl,_⟩|⟨b,off,cap,rfl,_,_,hb,_,hr⟩
 .cases a with
  |none=>exact(BX7 0 cap w).mono fun e w' ⟨he,hw⟩=>⟨_,he,.inl ⟨rfl,rfl⟩,by rw[hw];exact Below.refl _ _⟩
  |some a=>exact A76 a cap [] w (by simp) (fun j u h=>by simp[G9]at h)
 .exact A76 ⟨b,off,none⟩ cap xs w hl (fun j u h=>by rw[Addr.add_lit];exact hr j u h)
theorem BE6(x:Wa)(w:World)(hp:x.p.length<=140737488355328):
  Calls prog 156 #[.agg #[I0 x.s,I0 x.k,S0 x.p]] w (R0 w (.agg #[I0 x.s,I0 x.k,S0 x.p])):=by
 obtain⟨xs,xk,xp⟩:=x;simp only at*;have Kp:=fun W=>N8 xp W (by omega);go_enter func156,ntmps156;go_wp2_with fail;generalize hW0:(w.alloc (.cells #[I0 xs,I0 xk,S0 xp] 94)).alloc (.cells #[I0 0,I0 0,.string ⟨#[]⟩] 94)=W0;have hB0:B0 w W0:=by rw[<-hW0];exact G8 (G7 _ _) (G7 _ _)
 have hz0:W0.heap.size=w.heap.size+2:=by rw[<-hW0];simp
 have p0:W0.cell? ⟨w.heap.size,0,none⟩=some (I0 xs):=by rw[<-hW0];simp
 have r0:W0.cell? ⟨w.heap.size+1,0,none⟩=some (I0 0):=by rw[<-hW0];simp
 have p1:W0.cell? ⟨w.heap.size,1,none⟩=some (I0 xk):=by rw[<-hW0];simp
 have r1:W0.cell? ⟨w.heap.size+1,1,none⟩=some (I0 0):=by rw[<-hW0];simp
 have p2:W0.cell? ⟨w.heap.size,2,none⟩=some (S0 xp):=by rw[<-hW0];simp
 have r2:W0.cell? ⟨w.heap.size+1,2,none⟩=some (.string ⟨#[]⟩):=by rw[<-hW0];simp
 have pf:∀j,W0.frozen? ⟨w.heap.size,j,none⟩=false:=by intro j;rw[<-hW0];simp
 have rf:∀j,W0.frozen? ⟨w.heap.size+1,j,none⟩=false:=by intro j;rw[<-hW0];simp
 clear hW0;refine(Kp _).mono ?_;rintro e w1 ⟨rfl,hb1⟩;have c0:=(hb1.cell (p:=⟨w.heap.size,0,none⟩) (by simp only;omega)).trans p0;have d0:=(hb1.cell (p:=⟨w.heap.size+1,0,none⟩) (by simp only;omega)).trans r0;have g0:=(hb1.frozen (p:=⟨w.heap.size+1,0,none⟩) (by simp only;omega)).trans (rf 0);have c1:=(hb1.cell (p:=⟨w.heap.size,1,none⟩) (by simp only;omega)).trans p1;have d1:=(hb1.cell (p:=⟨w.heap.size+1,1,none⟩) (by simp only;omega)).trans r1;have g1:=(hb1.frozen (p:=⟨w.heap.size+1,1,none⟩) (by simp only;omega)).trans (rf 1);have c2:=(hb1.cell (p:=⟨w.heap.size,2,none⟩) (by simp only;omega)).trans p2;have d2:=(hb1.cell (p:=⟨w.heap.size+1,2,none⟩) (by simp only;omega)).trans r2;have g2:=(hb1.frozen (p:=⟨w.heap.size+1,2,none⟩) (by simp only;omega)).trans (rf 2);have f2:=(hb1.frozen (p:=⟨w.heap.size,2,none⟩) (by simp only;omega)).trans (pf 2);have s2:=I5 c2;have hB:=G8 hB0 hb1;clear hb1 Kp hB0 hz0 pf rf p0 r0 p1 r1 p2 r2;go_wp2_with fail;refine bodyPost_ret (v:=.agg #[I0 xs,I0 xk,S0 xp]) (by simp[results,results156,go_sem,d0,d1,d2]) rfl ⟨rfl,?_⟩;exact(((hB.setCell (by simp) _).setCell (by simp) _).setCell (by simp) _)
theorem AW4(v:Value)(xs:List DF)(w:World)(hv:IL w v xs)(hl:xs.length*48<=140737488355328)(hs:∀x∈xs,x.n.length<=140737488355328/\x.s.length<=140737488355328/\x.t.length<=140737488355328):
  Calls prog 149 #[v,.func (.func 150) #[] #[]] w fun e w'=>∃v',e=.returned v'/\GZ w' w.heap.size v' xs/\B0 w w':=by
 have CC:=fun W (hW:B0 w W)=>AV7 v xs W (hv.next hW) hl;have HO:Hid (∀x∈xs,∀W,Calls prog 150 #[.agg #[S0 x.n,S0 x.s,S0 x.t]] W (R0 W (.agg #[S0 x.n,S0 x.s,S0 x.t]))):=G6 fun x hm W=>by
  have hx:=hs x hm;exact BE4 x W hx.1 hx.2.1 hx.2.2
 obtain⟨a,c,rfl⟩:=GK hv;clear hv hs;go_enter func149,ntmps149;go_wp2_with fail;refine(CC _ (Below.refl _ _)).mono ?_;rintro e w1 ⟨v',rfl,ho,hb1⟩;have HB1:=G6 hb1;clear CC hb1;rcases ho with⟨rfl,rfl⟩|⟨g,cap,rfl,hg,ho⟩
 .go_wp2_with fail
  go_loopg [11] 1 (fun _ s wr=>s=I0 0/\wr=w1)
  case atStart=>exact⟨rfl,rfl⟩
  case round=>
   obtain⟨rfl,rfl⟩:=hrel;go_wp2_with fail;go_ret;exact⟨_,rfl,.inl ⟨rfl,rfl⟩,G5 HB1⟩
 .have HW:=G6 ho;have hgl:=ho.lt;clear ho;go_wp2_with fail
  go_loopg [11] xs.length (fun kx s wr=>∃k:Nat,s=I0 k/\k<=xs.length/\xs.length-k<=kx/\Hid (B0 w1 wr))
  case atStart=>exact⟨0,rfl,Nat.zero_le _,by omega,G6 (Below.refl _ _)⟩
  case round=>
   obtain⟨k,rfl,hk,hkx,hB⟩:=hrel;by_cases hlt:k<xs.length
   .obtain⟨x,hx⟩:∃x,xs[k]?=some x:=⟨_,List.getElem?_eq_getElem hlt⟩;have o:=(G5 HW).next (G5 hB);have QI:=o.lt;have e0:wr.cell? ⟨g,k*3,none⟩=some (S0 x.n):=by have:=o.row (k*3+0) _ (GV xs k x hx 0 (by decide));simpa using this
    have f0:=o.frozen (k*3);have e1:wr.cell? ⟨g,k*3+1,none⟩=some (S0 x.s):=by have:=o.row (k*3+1) _ (GV xs k x hx 1 (by decide));simpa using this
    have f1:=o.frozen (k*3+1);have e2:wr.cell? ⟨g,k*3+2,none⟩=some (S0 x.t):=by have:=o.row (k*3+2) _ (GV xs k x hx 2 (by decide));simpa using this
    have f2:=o.frozen (k*3+2);have CX:=G5 HO x (List.mem_of_getElem? hx);clear hx o;obtain⟨yn,ys,yt⟩:=x;simp only at e0 e1 e2 CX;go_wp2_with fail;refine(CX _).mono ?_;rintro e w2 ⟨rfl,hb2⟩;have d0:=(hb2.cell (p:=⟨g,k*3,none⟩) QI).trans e0;have g0:=(hb2.frozen (p:=⟨g,k*3,none⟩) QI).trans f0;have s0:=I5 d0;have d1:=(hb2.cell (p:=⟨g,k*3+1,none⟩) QI).trans e1;have g1:=(hb2.frozen (p:=⟨g,k*3+1,none⟩) QI).trans f1;have s1:=I5 d1;have d2:=(hb2.cell (p:=⟨g,k*3+2,none⟩) QI).trans e2;have g2:=(hb2.frozen (p:=⟨g,k*3+2,none⟩) QI).trans f2;have s2:=I5 d2;have hB2:=G6 (G8 (G5 hB) hb2);clear hb2 CX e0 f0 e1 f1 e2 f2;go_wp2_with fail
    go_roundg (xs.length-(k+1))
    case measure=>omega
    case rel=>exact⟨k+1,rfl,by omega,Nat.le_refl _,hB2⟩
   .go_wp2_with fail;go_ret;exact⟨_,rfl,.inr ⟨g,cap,rfl,hg,(G5 HW).next (G5 hB)⟩,G8 (G5 HB1) (G5 hB)⟩
theorem AW5(v:Value)(xs:List GI)(w:World)(hv:IL w v xs)(hl:xs.length*72<=140737488355328)(hs:∀x∈xs,x.p.length<=140737488355328/\x.d.length<=140737488355328):
  Calls prog 151 #[v,.func (.func 152) #[] #[]] w fun e w'=>∃v',e=.returned v'/\GZ w' w.heap.size v' xs/\B0 w w':=by
 have CC:=fun W (hW:B0 w W)=>pY v xs W (hv.next hW) hl;have HO:Hid (∀x∈xs,∀W,Calls prog 152 #[.agg #[I0 x.z,I0 x.o,I0 x.s,S0 x.p,S0 x.d,I0 x.v,I0 x.w]] W (R0 W (.agg #[I0 x.z,I0 x.o,I0 x.s,S0 x.p,S0 x.d,I0 x.v,I0 x.w]))):=G6 fun x hm W=>by
  have hx:=hs x hm;exact A74 x W hx.1 hx.2
 obtain⟨a,c,rfl⟩:=GK hv;clear hv hs;go_enter func151,ntmps151;go_wp2_with fail;refine(CC _ (Below.refl _ _)).mono ?_;rintro e w1 ⟨v',rfl,ho,hb1⟩;have HB1:=G6 hb1;clear CC hb1;rcases ho with⟨rfl,rfl⟩|⟨g,cap,rfl,hg,ho⟩
 .go_wp2_with fail
  go_loopg [11] 1 (fun _ s wr=>s=I0 0/\wr=w1)
  case atStart=>exact⟨rfl,rfl⟩
  case round=>
   obtain⟨rfl,rfl⟩:=hrel;go_wp2_with fail;go_ret;exact⟨_,rfl,.inl ⟨rfl,rfl⟩,G5 HB1⟩
 .have HW:=G6 ho;have hgl:=ho.lt;clear ho;go_wp2_with fail
  go_loopg [11] xs.length (fun kx s wr=>∃k:Nat,s=I0 k/\k<=xs.length/\xs.length-k<=kx/\Hid (B0 w1 wr))
  case atStart=>exact⟨0,rfl,Nat.zero_le _,by omega,G6 (Below.refl _ _)⟩
  case round=>
   obtain⟨k,rfl,hk,hkx,hB⟩:=hrel;by_cases hlt:k<xs.length
   .obtain⟨x,hx⟩:∃x,xs[k]?=some x:=⟨_,List.getElem?_eq_getElem hlt⟩;have o:=(G5 HW).next (G5 hB);have QI:=o.lt;have e0:wr.cell? ⟨g,k*7,none⟩=some (I0 x.z):=by have:=o.row (k*7+0) _ (GV xs k x hx 0 (by decide));simpa using this
    have f0:=o.frozen (k*7);have e1:wr.cell? ⟨g,k*7+1,none⟩=some (I0 x.o):=by have:=o.row (k*7+1) _ (GV xs k x hx 1 (by decide));simpa using this
    have f1:=o.frozen (k*7+1);have e2:wr.cell? ⟨g,k*7+2,none⟩=some (I0 x.s):=by have:=o.row (k*7+2) _ (GV xs k x hx 2 (by decide));simpa using this
    have f2:=o.frozen (k*7+2);have e3:wr.cell? ⟨g,k*7+3,none⟩=some (S0 x.p):=by have:=o.row (k*7+3) _ (GV xs k x hx 3 (by decide));simpa using this
    have f3:=o.frozen (k*7+3);have e4:wr.cell? ⟨g,k*7+4,none⟩=some (S0 x.d):=by have:=o.row (k*7+4) _ (GV xs k x hx 4 (by decide));simpa using this
    have f4:=o.frozen (k*7+4);have e5:wr.cell? ⟨g,k*7+5,none⟩=some (I0 x.v):=by have:=o.row (k*7+5) _ (GV xs k x hx 5 (by decide));simpa using this
    have f5:=o.frozen (k*7+5);have e6:wr.cell? ⟨g,k*7+6,none⟩=some (I0 x.w):=by have:=o.row (k*7+6) _ (GV xs k x hx 6 (by decide));simpa using this
    have f6:=o.frozen (k*7+6);have CX:=G5 HO x (List.mem_of_getElem? hx);clear hx o;obtain⟨yz,yo,ys,yp,yd,yv,yw⟩:=x;simp only at e0 e1 e2 e3 e4 e5 e6 CX;go_wp2_with fail;refine(CX _).mono ?_;rintro e w2 ⟨rfl,hb2⟩;have d0:=(hb2.cell (p:=⟨g,k*7,none⟩) QI).trans e0;have g0:=(hb2.frozen (p:=⟨g,k*7,none⟩) QI).trans f0;have s0:=I5 d0;have d1:=(hb2.cell (p:=⟨g,k*7+1,none⟩) QI).trans e1;have g1:=(hb2.frozen (p:=⟨g,k*7+1,none⟩) QI).trans f1;have s1:=I5 d1;have d2:=(hb2.cell (p:=⟨g,k*7+2,none⟩) QI).trans e2;have g2:=(hb2.frozen (p:=⟨g,k*7+2,none⟩) QI).trans f2;have s2:=I5 d2;have d3:=(hb2.cell (p:=⟨g,k*7+3,none⟩) QI).trans e3;have g3:=(hb2.frozen (p:=⟨g,k*7+3,none⟩) QI).trans f3;have s3:=I5 d3;have d4:=(hb2.cell (p:=⟨g,k*7+4,none⟩) QI).trans e4;have g4:=(hb2.frozen (p:=⟨g,k*7+4,none⟩) QI).trans f4;have s4:=I5 d4;have d5:=(hb2.cell (p:=⟨g,k*7+5,none⟩) QI).trans e5;have g5:=(hb2.frozen (p:=⟨g,k*7+5,none⟩) QI).trans f5;have s5:=I5 d5;have d6:=(hb2.cell (p:=⟨g,k*7+6,none⟩) QI).trans e6;have g6:=(hb2.frozen (p:=⟨g,k*7+6,none⟩) QI).trans f6;have s6:=I5 d6;have hB2:=G6 (G8 (G5 hB) hb2);clear hb2 CX e0 f0 e1 f1 e2 f2 e3 f3 e4 f4 e5 f5 e6 f6;go_wp2_with fail
    go_roundg (xs.length-(k+1))
    case measure=>omega
    case rel=>exact⟨k+1,rfl,by omega,Nat.le_refl _,hB2⟩
   .go_wp2_with fail;go_ret;exact⟨_,rfl,.inr ⟨g,cap,rfl,hg,(G5 HW).next (G5 hB)⟩,G8 (G5 HB1) (G5 hB)⟩
theorem AW6(v:Value)(xs:List Nd)(w:World)(hv:IL w v xs)(hl:xs.length*88<=140737488355328)(hs:∀x∈xs,x.p.length<=140737488355328/\x.d.length<=140737488355328):
  Calls prog 153 #[v,.func (.func 154) #[] #[]] w fun e w'=>∃v',e=.returned v'/\GZ w' w.heap.size v' xs/\B0 w w':=by
 have CC:=fun W (hW:B0 w W)=>AV8 v xs W (hv.next hW) hl;have HO:Hid (∀x∈xs,∀W,Calls prog 154 #[.agg #[S0 x.p,S0 x.d,I0 x.c,I0 x.m,I0 x.q,I0 x.v,I0 x.k,I0 x.o,I0 x.n]] W (R0 W (.agg #[S0 x.p,S0 x.d,I0 x.c,I0 x.m,I0 x.q,I0 x.v,I0 x.k,I0 x.o,I0 x.n]))):=G6 fun x hm W=>by
  have hx:=hs x hm;exact BE5 x W hx.1 hx.2
 obtain⟨a,c,rfl⟩:=GK hv;clear hv hs;go_enter func153,ntmps153;go_wp2_with fail;refine(CC _ (Below.refl _ _)).mono ?_;rintro e w1 ⟨v',rfl,ho,hb1⟩;have HB1:=G6 hb1;clear CC hb1;rcases ho with⟨rfl,rfl⟩|⟨g,cap,rfl,hg,ho⟩
 .go_wp2_with fail
  go_loopg [11] 1 (fun _ s wr=>s=I0 0/\wr=w1)
  case atStart=>exact⟨rfl,rfl⟩
  case round=>
   obtain⟨rfl,rfl⟩:=hrel;go_wp2_with fail;go_ret;exact⟨_,rfl,.inl ⟨rfl,rfl⟩,G5 HB1⟩
 .have HW:=G6 ho;have hgl:=ho.lt;clear ho;go_wp2_with fail
  go_loopg [11] xs.length (fun kx s wr=>∃k:Nat,s=I0 k/\k<=xs.length/\xs.length-k<=kx/\Hid (B0 w1 wr))
  case atStart=>exact⟨0,rfl,Nat.zero_le _,by omega,G6 (Below.refl _ _)⟩
  case round=>
   obtain⟨k,rfl,hk,hkx,hB⟩:=hrel;by_cases hlt:k<xs.length
   .obtain⟨x,hx⟩:∃x,xs[k]?=some x:=⟨_,List.getElem?_eq_getElem hlt⟩;have o:=(G5 HW).next (G5 hB);have QI:=o.lt;have e0:wr.cell? ⟨g,k*9,none⟩=some (S0 x.p):=by have:=o.row (k*9+0) _ (GV xs k x hx 0 (by decide));simpa using this
    have f0:=o.frozen (k*9);have e1:wr.cell? ⟨g,k*9+1,none⟩=some (S0 x.d):=by have:=o.row (k*9+1) _ (GV xs k x hx 1 (by decide));simpa using this
    have f1:=o.frozen (k*9+1);have e2:wr.cell? ⟨g,k*9+2,none⟩=some (I0 x.c):=by have:=o.row (k*9+2) _ (GV xs k x hx 2 (by decide));simpa using this
    have f2:=o.frozen (k*9+2);have e3:wr.cell? ⟨g,k*9+3,none⟩=some (I0 x.m):=by have:=o.row (k*9+3) _ (GV xs k x hx 3 (by decide));simpa using this
    have f3:=o.frozen (k*9+3);have e4:wr.cell? ⟨g,k*9+4,none⟩=some (I0 x.q):=by have:=o.row (k*9+4) _ (GV xs k x hx 4 (by decide));simpa using this
    have f4:=o.frozen (k*9+4);have e5:wr.cell? ⟨g,k*9+5,none⟩=some (I0 x.v):=by have:=o.row (k*9+5) _ (GV xs k x hx 5 (by decide));simpa using this
    have f5:=o.frozen (k*9+5);have e6:wr.cell? ⟨g,k*9+6,none⟩=some (I0 x.k):=by have:=o.row (k*9+6) _ (GV xs k x hx 6 (by decide));simpa using this
    have f6:=o.frozen (k*9+6);have e7:wr.cell? ⟨g,k*9+7,none⟩=some (I0 x.o):=by have:=o.row (k*9+7) _ (GV xs k x hx 7 (by decide));simpa using this
    have f7:=o.frozen (k*9+7);have e8:wr.cell? ⟨g,k*9+8,none⟩=some (I0 x.n):=by have:=o.row (k*9+8) _ (GV xs k x hx 8 (by decide));simpa using this
    have f8:=o.frozen (k*9+8);have CX:=G5 HO x (List.mem_of_getElem? hx);clear hx o;obtain⟨yp,yd,yc,ym,yq,yv,yk,yo,yn⟩:=x;simp only at e0 e1 e2 e3 e4 e5 e6 e7 e8 CX;go_wp2_with fail;refine(CX _).mono ?_;rintro e w2 ⟨rfl,hb2⟩;have d0:=(hb2.cell (p:=⟨g,k*9,none⟩) QI).trans e0;have g0:=(hb2.frozen (p:=⟨g,k*9,none⟩) QI).trans f0;have s0:=I5 d0;have d1:=(hb2.cell (p:=⟨g,k*9+1,none⟩) QI).trans e1;have g1:=(hb2.frozen (p:=⟨g,k*9+1,none⟩) QI).trans f1;have s1:=I5 d1;have d2:=(hb2.cell (p:=⟨g,k*9+2,none⟩) QI).trans e2;have g2:=(hb2.frozen (p:=⟨g,k*9+2,none⟩) QI).trans f2;have s2:=I5 d2;have d3:=(hb2.cell (p:=⟨g,k*9+3,none⟩) QI).trans e3;have g3:=(hb2.frozen (p:=⟨g,k*9+3,none⟩) QI).trans f3;have s3:=I5 d3;have d4:=(hb2.cell (p:=⟨g,k*9+4,none⟩) QI).trans e4;have g4:=(hb2.frozen (p:=⟨g,k*9+4,none⟩) QI).trans f4;have s4:=I5 d4;have d5:=(hb2.cell (p:=⟨g,k*9+5,none⟩) QI).trans e5;have g5:=(hb2.frozen (p:=⟨g,k*9+5,none⟩) QI).trans f5;have s5:=I5 d5;have d6:=(hb2.cell (p:=⟨g,k*9+6,none⟩) QI).trans e6;have g6:=(hb2.frozen (p:=⟨g,k*9+6,none⟩) QI).trans f6;have s6:=I5 d6;have d7:=(hb2.cell (p:=⟨g,k*9+7,none⟩) QI).trans e7;have g7:=(hb2.frozen (p:=⟨g,k*9+7,none⟩) QI).trans f7;have s7:=I5 d7;have d8:=(hb2.cell (p:=⟨g,k*9+8,none⟩) QI).trans e8;have g8:=(hb2.frozen (p:=⟨g,k*9+8,none⟩) QI).trans f8;have s8:=I5 d8;have hB2:=G6 (G8 (G5 hB) hb2);clear hb2 CX e0 f0 e1 f1 e2 f2 e3 f3 e4 f4 e5 f5 e6 f6 e7 f7 e8 f8;go_wp2_with fail
    go_roundg (xs.length-(k+1))
    case measure=>omega
    case rel=>exact⟨k+1,rfl,by omega,Nat.le_refl _,hB2⟩
   .go_wp2_with fail;go_ret;exact⟨_,rfl,.inr ⟨g,cap,rfl,hg,(G5 HW).next (G5 hB)⟩,G8 (G5 HB1) (G5 hB)⟩
theorem AW7(v:Value)(xs:List Wa)(w:World)(hv:IL w v xs)(hl:xs.length*32<=140737488355328)(hs:∀x∈xs,x.p.length<=140737488355328):
  Calls prog 155 #[v,.func (.func 156) #[] #[]] w fun e w'=>∃v',e=.returned v'/\GZ w' w.heap.size v' xs/\B0 w w':=by
 have CC:=fun W (hW:B0 w W)=>AV9 v xs W (hv.next hW) hl;have HO:Hid (∀x∈xs,∀W,Calls prog 156 #[.agg #[I0 x.s,I0 x.k,S0 x.p]] W (R0 W (.agg #[I0 x.s,I0 x.k,S0 x.p]))):=G6 fun x hm W=>by
  have hx:=hs x hm;exact BE6 x W hx
 obtain⟨a,c,rfl⟩:=GK hv;clear hv hs;go_enter func155,ntmps155;go_wp2_with fail;refine(CC _ (Below.refl _ _)).mono ?_;rintro e w1 ⟨v',rfl,ho,hb1⟩;have HB1:=G6 hb1;clear CC hb1;rcases ho with⟨rfl,rfl⟩|⟨g,cap,rfl,hg,ho⟩
 .go_wp2_with fail
  go_loopg [11] 1 (fun _ s wr=>s=I0 0/\wr=w1)
  case atStart=>exact⟨rfl,rfl⟩
  case round=>
   obtain⟨rfl,rfl⟩:=hrel;go_wp2_with fail;go_ret;exact⟨_,rfl,.inl ⟨rfl,rfl⟩,G5 HB1⟩
 .have HW:=G6 ho;have hgl:=ho.lt;clear ho;go_wp2_with fail
  go_loopg [11] xs.length (fun kx s wr=>∃k:Nat,s=I0 k/\k<=xs.length/\xs.length-k<=kx/\Hid (B0 w1 wr))
  case atStart=>exact⟨0,rfl,Nat.zero_le _,by omega,G6 (Below.refl _ _)⟩
  case round=>
   obtain⟨k,rfl,hk,hkx,hB⟩:=hrel;by_cases hlt:k<xs.length
   .obtain⟨x,hx⟩:∃x,xs[k]?=some x:=⟨_,List.getElem?_eq_getElem hlt⟩;have o:=(G5 HW).next (G5 hB);have QI:=o.lt;have e0:wr.cell? ⟨g,k*3,none⟩=some (I0 x.s):=by have:=o.row (k*3+0) _ (GV xs k x hx 0 (by decide));simpa using this
    have f0:=o.frozen (k*3);have e1:wr.cell? ⟨g,k*3+1,none⟩=some (I0 x.k):=by have:=o.row (k*3+1) _ (GV xs k x hx 1 (by decide));simpa using this
    have f1:=o.frozen (k*3+1);have e2:wr.cell? ⟨g,k*3+2,none⟩=some (S0 x.p):=by have:=o.row (k*3+2) _ (GV xs k x hx 2 (by decide));simpa using this
    have f2:=o.frozen (k*3+2);have CX:=G5 HO x (List.mem_of_getElem? hx);clear hx o;obtain⟨ys,yk,yp⟩:=x;simp only at e0 e1 e2 CX;go_wp2_with fail;refine(CX _).mono ?_;rintro e w2 ⟨rfl,hb2⟩;have d0:=(hb2.cell (p:=⟨g,k*3,none⟩) QI).trans e0;have g0:=(hb2.frozen (p:=⟨g,k*3,none⟩) QI).trans f0;have s0:=I5 d0;have d1:=(hb2.cell (p:=⟨g,k*3+1,none⟩) QI).trans e1;have g1:=(hb2.frozen (p:=⟨g,k*3+1,none⟩) QI).trans f1;have s1:=I5 d1;have d2:=(hb2.cell (p:=⟨g,k*3+2,none⟩) QI).trans e2;have g2:=(hb2.frozen (p:=⟨g,k*3+2,none⟩) QI).trans f2;have s2:=I5 d2;have hB2:=G6 (G8 (G5 hB) hb2);clear hb2 CX e0 f0 e1 f1 e2 f2;go_wp2_with fail
    go_roundg (xs.length-(k+1))
    case measure=>omega
    case rel=>exact⟨k+1,rfl,by omega,Nat.le_refl _,hB2⟩
   .go_wp2_with fail;go_ret;exact⟨_,rfl,.inr ⟨g,cap,rfl,hg,(G5 HW).next (G5 hB)⟩,G8 (G5 HB1) (G5 hB)⟩
def bC(W:World)(k:Nat):Prop:=∃cs t,W.heap[k]?=some (.cells cs t (0,0))/\∀ (j:Nat) (s:ByteArray),cs[j]? ≠some (Value.string s)
theorem bC.set{W:World}{k j:Nat}{u:Value}(h:bC W k)(hu:∀s,u≠ .string s):bC (W.setCell ⟨k,j,none⟩ u) k:=by
 obtain⟨cs,t,h1,h2⟩:=h;refine⟨cs.setIfInBounds j u,t,GL u h1,fun i s hi=>?_⟩;rw[Array.getElem?_setIfInBounds]at hi
 split at hi
 .split at hi
  .exact hu s (Option.some.inj hi)
  .cases hi
 .exact h2 i s hi
theorem bC.no{W:World}{k j:Nat}{s:ByteArray}(h:bC W k):W.cell? ⟨k,j,none⟩≠some (.string s):=by
 obtain⟨cs,t,h1,h2⟩:=h;intro e;simp[World.cell?,h1]at e;exact h2 j s e
theorem IB.put{W:World}{b off k j:Nat}{cs:List Value}{u:Value}(h:IB W b off cs)(hk:b≠k):IB (W.setCell ⟨k,j,none⟩ u) b off cs:=fun i v hi=>by
 rw[World.cell?,Below.heap_setCell W ⟨k,j,none⟩ u b hk];exact h i v hi
theorem RY{W:World}{v:Value}{fs:List DF}(h:IK W v fs){k j:Nat}(hk:bC W k)(u:Value):IK (W.setCell ⟨k,j,none⟩ u) v fs:=by
 rcases h with h|⟨b,off,cap,rfl,h1,h2,h3,h0,h4⟩
 .exact .inl h
 .refine .inr ⟨b,off,cap,rfl,h1,h2,by simpa [World.setCell]using h3,h0,h4.put ?_⟩;rintro rfl;obtain⟨f,r,rfl⟩:=List.exists_cons_of_ne_nil h0;exact hk.no (h4.c0 (i:=0) (f:=f) rfl)
theorem BE7{W:World}{v:Value}{ts:List GI}(h:NI W v ts){k j:Nat}(hk:bC W k)(u:Value):NI (W.setCell ⟨k,j,none⟩ u) v ts:=by
 rcases h with h|⟨b,off,cap,rfl,h1,h2,h3,h0,h4⟩
 .exact .inl h
 .refine .inr ⟨b,off,cap,rfl,h1,h2,by simpa [World.setCell]using h3,h0,h4.put ?_⟩;rintro rfl;obtain⟨f,r,rfl⟩:=List.exists_cons_of_ne_nil h0;exact hk.no (h4.p (i:=0) (t:=f) rfl)
theorem AH4{W:World}{v:Value}{xs:List Nd}(h:IL W v xs){k j:Nat}(hk:bC W k)(u:Value):IL (W.setCell ⟨k,j,none⟩ u) v xs:=by
 rcases h with h|⟨b,off,cap,rfl,h1,h2,h3,h0,h4⟩
 .exact .inl h
 .refine .inr ⟨b,off,cap,rfl,h1,h2,by simpa [World.setCell]using h3,h0,h4.put ?_⟩;rintro rfl;obtain⟨f,r,rfl⟩:=List.exists_cons_of_ne_nil h0;exact hk.no (h4.n0 (i:=0) (x:=f) rfl)
theorem uU{W:World}{v:Value}{xs:List Wa}(h:IL W v xs){k j:Nat}(hk:bC W k)(u:Value):IL (W.setCell ⟨k,j,none⟩ u) v xs:=by
 rcases h with h|⟨b,off,cap,rfl,h1,h2,h3,h0,h4⟩
 .exact .inl h
 .refine .inr ⟨b,off,cap,rfl,h1,h2,by simpa [World.setCell]using h3,h0,h4.put ?_⟩;rintro rfl;obtain⟨f,r,rfl⟩:=List.exists_cons_of_ne_nil h0;exact hk.no (h4.w2 (i:=0) (x:=f) rfl)
def UJ(v:Value)(k:Nat):Prop:=∀b off n c,v=.slice (some ⟨b,off,none⟩) n c->b≠k
theorem BE8{α:Type}[Lay α]{W:World}{v:Value}{xs:List α}(h:IL W v xs){k j:Nat}(hk:UJ v k)(u:Value):IL (W.setCell ⟨k,j,none⟩ u) v xs:=by
 rcases h with h|⟨b,off,cap,rfl,h1,h2,h3,h0,h4⟩
 .exact .inl h
 .exact .inr ⟨b,off,cap,rfl,h1,h2,by simpa [World.setCell]using h3,h0,h4.put (hk b off _ cap rfl)⟩
theorem uV(n c k:Nat):UJ (.slice none n c) k:=fun b off n' c' h=>by simp at h
def OY(W:World)(k:Nat)(x0 x1 x2 x3 x4 x5 x6 x7 x8 x9:Value):World:=
 (((((((((W.setCell ⟨k,0,none⟩ x0).setCell ⟨k,1,none⟩ x1).setCell ⟨k,2,none⟩ x2).setCell ⟨k,3,none⟩ x3).setCell ⟨k,4,none⟩ x4).setCell ⟨k,5,none⟩ x5).setCell ⟨k,6,none⟩ x6).setCell ⟨k,7,none⟩ x7).setCell ⟨k,8,none⟩ x8).setCell ⟨k,9,none⟩ x9
theorem JJ{w W:World}{k:Nat}(h:B0 w W)(hk:w.heap.size<=k)(x0 x1 x2 x3 x4 x5 x6 x7 x8 x9:Value):B0 w (OY W k x0 x1 x2 x3 x4 x5 x6 x7 x8 x9):=
 (((((((((h.setCell hk x0).setCell hk x1).setCell hk x2).setCell hk x3).setCell hk x4).setCell hk x5).setCell hk x6).setCell hk x7).setCell hk x8).setCell hk x9
def IC(W:World)(k:Nat)(up:Bool)(vd:Value)(id ep:Int)(vl:Value)(dn z:Int)(vn vs vw:Value):Prop:=
 W.heap[k]?=some (.cells #[.bool up,vd,I0 id,I0 ep,vl,I0 dn,I0 z,vn,vs,vw] 49 (0,0))
theorem IC.next{W V:World}{k:Nat}{up:Bool}{id ep dn z:Int}{vd vl vn vs vw:Value}(h:IC W k up vd id ep vl dn z vn vs vw)(hb:B0 W V):IC V k up vd id ep vl dn z vn vs vw:=(hb.block k (by unfold IC at h;exact(Array.getElem?_eq_some_iff.1 h).1)).trans h
theorem IC.lt{W:World}{k:Nat}{up:Bool}{id ep dn z:Int}{vd vl vn vs vw:Value}(h:IC W k up vd id ep vl dn z vn vs vw):k<W.heap.size:=by unfold IC at h;exact(Array.getElem?_eq_some_iff.1 h).1
theorem IC.new(w:World)(up:Bool)(id ep dn z:Int)(vd vl vn vs vw:Value):IC (w.alloc (.cells #[.bool up,vd,I0 id,I0 ep,vl,I0 dn,I0 z,vn,vs,vw] 49)) w.heap.size up vd id ep vl dn z vn vs vw:=heap_alloc_new w _
theorem IC.other{W:World}{k i j:Nat}{u:Value}{up:Bool}{id ep dn z:Int}{vd vl vn vs vw:Value}(h:IC W k up vd id ep vl dn z vn vs vw)(hk:k≠i):IC (W.setCell ⟨i,j,none⟩ u) k up vd id ep vl dn z vn vs vw:=(Below.heap_setCell W ⟨i,j,none⟩ u k hk).trans h
theorem IC.cells{W:World}{k:Nat}{up:Bool}{id ep dn z:Int}{vd vl vn vs vw:Value}(h:IC W k up vd id ep vl dn z vn vs vw):
  W.cell? ⟨k,0,none⟩=some (.bool up)/\W.cell? ⟨k,1,none⟩=some vd/\W.cell? ⟨k,2,none⟩=some (I0 id)/\W.cell? ⟨k,3,none⟩=some (I0 ep)/\W.cell? ⟨k,4,none⟩=some vl/\W.cell? ⟨k,5,none⟩=some (I0 dn)/\W.cell? ⟨k,6,none⟩=some (I0 z)/\W.cell? ⟨k,7,none⟩=some vn/\W.cell? ⟨k,8,none⟩=some vs/\W.cell? ⟨k,9,none⟩=some vw:=by
 unfold IC at h;refine⟨?_,?_,?_,?_,?_,?_,?_,?_,?_,?_⟩<;>simp[World.cell?,h]
theorem IC.GN{W:World}{k:Nat}{up:Bool}{id ep dn z:Int}{vd vl vn vs vw:Value}(h:IC W k up vd id ep vl dn z vn vs vw)(j:Nat):W.frozen? ⟨k,j,none⟩=false:=by
 unfold IC at h;simp[World.frozen?,h]
theorem IC.fA{W:World}{k:Nat}{up:Bool}{id ep dn z:Int}{ad al an ai aw:Option Addr}{nd cd nl cl nn cn ni ci nw cw:Nat}(h:IC W k up (.slice ad nd cd) id ep (.slice al nl cl) dn z (.slice an nn cn) (.slice ai ni ci) (.slice aw nw cw)):bC W k:=by
 refine⟨_,_,h,fun j s hj=>?_⟩;have hm:=Array.mem_of_getElem? hj;simp at hm
theorem qA{W:World}{k:Nat}(hk:bC W k){up:Bool}{id ep dn z:Int}{ad al an ai aw:Option Addr}{nd cd nl cl nn cn ni ci nw cw:Nat}{v:Value}{s:Sv}(hs:∀vd vl vn vs vw,v=.agg #[.bool s.up,vd,I0 s.id,I0 s.ep,vl,I0 s.dn,I0 s.tr.z,vn,vs,vw]->UJ vs k)(h:SvV W v s):
  SvV (OY W k (.bool up) (.slice ad nd cd) (I0 id) (I0 ep) (.slice al nl cl) (I0 dn) (I0 z) (.slice an nn cn) (.slice ai ni ci) (.slice aw nw cw)) v s:=by
 have one:∀ {W:World} {j:Nat} {u:Value},(∀t,u≠ .string t)->bC W k->SvV W v s->bC (W.setCell ⟨k,j,none⟩ u) k/\SvV (W.setCell ⟨k,j,none⟩ u) v s:=by
  intro W j u hu hk h;refine⟨hk.set hu,?_⟩;obtain⟨vd,vl,vn,vs,vw,rfl,h1,h2,h3,h4,h5⟩:=h;exact⟨vd,vl,vn,vs,vw,rfl,RY h1 hk u,BE7 h2 hk u,AH4 h3 hk u,BE8 h4 (hs _ _ _ _ _ rfl) u,uU h5 hk u⟩
 obtain⟨k0,h0⟩:=one (j:=0) (u:=.bool up) (by simp) hk h;obtain⟨k1,h1⟩:=one (j:=1) (u:=.slice ad nd cd) (by simp) k0 h0;obtain⟨k2,h2⟩:=one (j:=2) (u:=I0 id) (by simp) k1 h1;obtain⟨k3,h3⟩:=one (j:=3) (u:=I0 ep) (by simp) k2 h2;obtain⟨k4,h4⟩:=one (j:=4) (u:=.slice al nl cl) (by simp) k3 h3;obtain⟨k5,h5⟩:=one (j:=5) (u:=I0 dn) (by simp) k4 h4;obtain⟨k6,h6⟩:=one (j:=6) (u:=I0 z) (by simp) k5 h5;obtain⟨k7,h7⟩:=one (j:=7) (u:=.slice an nn cn) (by simp) k6 h6;obtain⟨k8,h8⟩:=one (j:=8) (u:=.slice ai ni ci) (by simp) k7 h7;exact(one (j:=9) (u:=.slice aw nw cw) (by simp) k8 h8).2
theorem XQ{α:Type}[Lay α]{W:World}{B k:Nat}{v:Value}{xs:List α}(h:GZ W B v xs)(hk:k<B):UJ v k:=by
 intro b off n c e;rcases h with⟨rfl,_⟩|⟨g,cap,rfl,hB,_⟩
 .simp at e
 .simp only[Value.slice.injEq,Option.some.injEq,Addr.mk.injEq]at e;omega
theorem ZX{W:World}{k:Nat}(hk:bC W k){s:Sv}{ad al an ai aw:Option Addr}{nd cd nl cl nn cn ni ci nw cw:Nat}(D:IK W (.slice ad nd cd) s.fs)(L:NI W (.slice al nl cl) s.ts)(N:IL W (.slice an nn cn) s.tr.ns)(I:IL W (.slice ai ni ci) s.tr.ss)(hI:UJ (.slice ai ni ci) k)(X:IL W (.slice aw nw cw) s.ws):
  SvV (OY W k (.bool s.up) (.slice ad nd cd) (I0 s.id) (I0 s.ep) (.slice al nl cl) (I0 s.dn) (I0 s.tr.z) (.slice an nn cn) (.slice ai ni ci) (.slice aw nw cw)) (.agg #[.bool s.up,.slice ad nd cd,I0 s.id,I0 s.ep,.slice al nl cl,I0 s.dn,I0 s.tr.z,.slice an nn cn,.slice ai ni ci,.slice aw nw cw]) s:=
 qA hk (fun vd vl vn vs vw e=>by simp only[Value.agg.injEq,Array.mk.injEq,List.cons.injEq]at e;rw[<-e.2.2.2.2.2.2.2.2.1];exact hI) ⟨_,_,_,_,_,rfl,D,L,N,I,X⟩
end Go.Proofs.YtbaacalmgfkojaaGreatDoor
