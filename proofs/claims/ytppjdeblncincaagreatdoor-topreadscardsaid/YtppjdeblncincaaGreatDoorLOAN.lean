/-
  Part.
-/
import Derived.Test.YtppjdeblncincaaGreatDoorLOG
set_option maxRecDepth 20000
set_option maxHeartbeats 8000000
namespace Go.Proofs.YtppjdeblncincaaGreatDoor
open Go.RowKit Go.Proofs.Tryz
variable{ws:List Wa}{x:Wa}
theorem A64{w:World}{ops:Array Oper}{o:Oper}{a:Act}{K:Act->World->Prop}{Q:Exit->Act->World->Prop}{E:Prop}(hgd:Region.wanted o (yielded ops a.tmps)=true)(s x:Operand)
  (ho:o.op=.call {callee:=.builtin .append,args:=#[s,x],argTypes:=#[38,38]})
  (v:Value) (ns:List Wa) (hs:a.eval s=v) (hown:GZ w 0 v ns)
  (q:Nat) (hx:a.eval x=.slice (some ⟨q,0,none⟩) 1 1) (t:Wa) (hnews:JQ w q t) (hl:(ns.length+1)*32<=140737488355328)
  (h:∀a' c' w',GZ w' 0 (.slice a' (ns.length+1) c') (ns++[t])->w.grownBy w' v.ownBlock->((Value.slice a' (ns.length+1) c').ownBlock=v.ownBlock\/(Value.slice a' (ns.length+1) c').ownBlock=some w.heap.size)->K (a.put o.dst (.slice a' (ns.length+1) c')) w'):
  if Region.wanted o (yielded ops a.tmps)=true then Oper.wp prog o a w K Q else E:=by
 rw[if_pos hgd];obtain⟨i0,hi0,hz0,hz1,hz2⟩:=C30;obtain⟨v',w',hr,h2,h3,_,h5⟩:=run_append_own_at (P:=prog) w 0 38 o.type 83 i0 _ 3 32 underlying38 hi0 hz0 hz1 hz2 rfl (by decide) v ns.length (GI ns) hown.row ⟨q,0,none⟩ 1 1 (A93 t) rfl (RP hnews) (Lay.one t) (by simp only[maxLen];omega) hl (Nat.zero_le _);have h2':GZ w' 0 v' (ns++[t]):=GZ.L9 (by rw[List.length_append,JH];exact h2);obtain⟨a',c',rfl,_⟩:=h2'.slice;have hlen:(ns++[t]).length=ns.length+1:=by simp
 rw[hlen]at h2' hr h5;unfold Oper.wp execOp;simp only[ho,resolve,invoke,builtin,Sem.run_bind,Sem.run_pure,Result.andThen_ok,List.map_toArray,List.map_cons,List.map_nil,hs,hx,hr];exact h a' c' w' h2' h3 h5
theorem BU6(h:tN x≠0):bW ws x=tN x/\oU ws x=[]:=by
 have e:bW ws x=tN x:=by rw[bW,if_pos h]
 exact⟨e,by rw[oU,e,if_pos h]⟩
theorem BU7(h:tN x=0)(hh:xJ ws x=true):bW ws x=0/\oU ws x=ws:=by
 have e:bW ws x=0:=by rw[bW,if_neg (by simp[h]),if_pos hh]
 exact⟨e,by rw[oU,e,if_neg (by simp),if_pos hh]⟩
theorem BC3(h:tN x=0)(hh:xJ ws x=false)(hf:400<=ws.length):bW ws x=6/\oU ws x=[]:=by
 have e:bW ws x=6:=by rw[bW,if_neg (by simp[h]),if_neg (by simp[hh]),if_pos hf]
 exact⟨e,by rw[oU,e,if_pos (by decide)]⟩
theorem BU8(h:tN x=0)(hh:xJ ws x=false)(hf:¬400<=ws.length):bW ws x=0/\oU ws x=ws++[x]:=by
 have e:bW ws x=0:=by rw[bW,if_neg (by simp[h]),if_neg (by simp[hh]),if_neg hf]
 exact⟨e,by rw[oU,e,if_neg (by simp),if_neg (by simp[hh])]⟩
theorem CE3{w:World}{ws:List Wa}{x:Wa}(g3:Nat)(w4 w5:World)(a5:Option Addr)(c5:Nat)(hg:w.heap.size<=g3)(hb:B0 w w4)(ho:GZ w5 0 (.slice a5 (ws.length+1) c5) (ws++[x]))(hg5:(w4.alloc (.cells #[I0 x.s,I0 x.k,S0 x.p] 83)).grownBy w5 (Value.slice (some ⟨g3,0,none⟩) ws.length (ws.length+1)).ownBlock)
  (hl:(Value.slice a5 (ws.length+1) c5).ownBlock=(Value.slice (some ⟨g3,0,none⟩) ws.length (ws.length+1)).ownBlock\/(Value.slice a5 (ws.length+1) c5).ownBlock=some (w4.alloc (.cells #[I0 x.s,I0 x.k,S0 x.p] 83)).heap.size):
  GZ w5 w.heap.size (.slice a5 (ws.length+1) c5) (ws++[x])/\B0 w w5:=by
 have hB:=GH hb (G9 w4 (.cells #[I0 x.s,I0 x.k,S0 x.p] 83));refine⟨kJ ho (fun j hj=>?_),hB.grown hg5 hB.size (fun j hj=>by cases hj;exact hg)⟩;rcases hl with h|h
 .rw[h]at hj;cases hj;exact hg
 .rw[h]at hj;cases hj;exact hB.size
theorem CE4(v:Value)(ws:List Wa)(x:Wa)(w:World)(hv:IL w v ws)(hs:mV ws)(hx:x.p.length<=140737488355328)(hl:ws.length*32<=140737488351232):
  Calls prog 60 #[v,waV x] w fun r w'=>∃vl,r=.returned (.tuple #[vl,I0 (bW ws x)])/\GZ w' w.heap.size vl (oU ws x)/\B0 w w':=by
 have CA:=fun W=>BP4 x W;have CC:=G8 (fun W (hW:B0 w W)=>ZO v ws W (hv.next hW) hs hl);have CK:=G8 (fun W (hW:B0 w W)=>BP3 v ws x W (hv.next hW) (by omega));have CO:=fun W=>AB2 x W hx;obtain⟨va,vc,rfl⟩:=GK hv;have HBX:Hid (∀W,Below (w.heap.size+1) (w.alloc (.cells #[I0 x.s,I0 x.k,S0 x.p] 83)) W->(W.cell? ⟨w.heap.size,0,none⟩=some (I0 x.s)/\W.cell? ⟨w.heap.size,1,none⟩=some (I0 x.k)/\W.cell? ⟨w.heap.size,2,none⟩=some (S0 x.p))/\B0 w W/\w.heap.size<W.heap.size):=G8 (fun W h=>⟨CL8 h,(G9 _ _).trans (h.mono (Nat.le_succ _)),by have:=h.size;simp at this;omega⟩);clear hv hs hx;unfold waV at CA CK CO;unfold waV;by_cases ha:tN x=0
 .rw[ha]at CA
  cases hh:xJ ws x
  .rw[hh]at CK;by_cases hf:400<=ws.length
   .obtain⟨e1,e2⟩:=BC3 ha hh hf;rw[e1,e2];have hfi:(400:Int)<=(ws.length:Int):=by omega
    clear ha hh e1 e2;go_enter func60,ntmps60;go_wp2_with fail;refine(CA _).mono ?_;rintro e w1 ⟨rfl,hb1⟩;rw[show (w.alloc (.cells #[I0 x.s,I0 x.k,S0 x.p] 83)).heap.size=w.heap.size+1 by simp]at hb1;obtain⟨⟨c0,c1,c2⟩,hB1,hz1⟩:=G7 HBX w1 hb1;have HB1:=G8 hB1;clear hb1 hB1;go_wp2_with fail;refine(G7 CK w1 (G7 HB1)).mono ?_;rintro e w2 ⟨rfl,hb2⟩;have HB2:=G8 (GH (G7 HB1) hb2);clear hb2;go_wp2_with fail
    go_ret2
    exact⟨_,rfl,.inl ⟨rfl,rfl⟩,G7 HB2⟩
   .obtain⟨e1,e2⟩:=BU8 ha hh hf;rw[e1,e2];have hfi:¬ ((400:Int)<=(ws.length:Int)):=by omega
    have hfd:decide ((400:Int)<=(ws.length:Int))=false:=by simp;omega
    clear ha hh e1 e2;go_enter func60,ntmps60;go_wp2_with fail;refine(CA _).mono ?_;rintro e w1 ⟨rfl,hb1⟩;rw[show (w.alloc (.cells #[I0 x.s,I0 x.k,S0 x.p] 83)).heap.size=w.heap.size+1 by simp]at hb1;obtain⟨⟨c0,c1,c2⟩,hB1,hz1⟩:=G7 HBX w1 hb1;have HB1:=G8 hB1;have HC1:=G8 hb1;clear hb1 hB1;go_wp2_with fail;refine(G7 CK w1 (G7 HB1)).mono ?_;rintro e w2 ⟨rfl,hb2⟩;have hC2:=(G7 HC1).trans (hb2.mono (by omega));obtain⟨⟨m0,m1,m2⟩,hB2,hz2⟩:=G7 HBX w2 hC2;have HB2:=G8 hB2;have HC2:=G8 hC2;have K1:Hid (∀w3,B0 w2 w3->(w3.cell? ⟨w.heap.size,0,none⟩=some (I0 x.s)/\w3.cell? ⟨w.heap.size,1,none⟩=some (I0 x.k)/\w3.cell? ⟨w.heap.size,2,none⟩=some (S0 x.p))/\B0 w w3):=G8 (fun w3 hb3=>by
     obtain⟨h1,h2,_⟩:=G7 HBX w3 ((G7 HC2).trans (hb3.mono (by omega)));exact⟨h1,h2⟩)
    have CC2:=G8 (fun W (hW:B0 w2 W)=>G7 CC W (GH (G7 HB2) hW));have hBs:=(G7 HB2).size;have HK5:=G8 (@CE3 w ws x);clear hb2 hB2 hC2 c0 c1 c2;go_wp2_with fail
    go_region_law (first
     |(refine A64 (by kernel_rfl) _ _ (by rfl) (.slice (some ⟨g3,0,none⟩) ws.length (ws.length+1)) ws (by rfl) (G7 HO4) w4.heap.size (by rfl) x (AB3 w4 x) (by omega) ?_;intro a5 c5 w5 ho5 hg5 hl5;obtain⟨o5,b5⟩:=G7 HK5 g3 w4 w5 a5 c5 hg3 (G7 HB4) ho5 hg5 hl5;have HO5:=G8 o5;have HB5:=G8 b5;clear o5 b5;clear ho5 hg5 hl5)
     |(go_simp;refine(G7 CC2 _ (by first|exact Below.refl _ _|exact(Below.refl _ _).drew)).mono ?_;rintro e w3 ⟨g3,rfl,hg3',ho3,hb3⟩;have hg3:w.heap.size<=g3:=Nat.le_trans hBs hg3';have HB23:Hid (B0 w2 w3):=(by first|exact hb3|exact IB hb3);obtain⟨⟨p0,p1,p2⟩,hB3⟩:=G7 K1 w3 (G7 HB23);have HB3:=G8 hB3;have HO3:=G8 ho3;clear hb3 hB3 ho3 hg3')
     |(go_simp;refine(CO _).mono ?_;rintro e w4 ⟨rfl,hb4⟩;have HB4:=G8 (GH (G7 HB3) hb4);have HO4:Hid (GZ (w4.alloc (.cells #[I0 x.s,I0 x.k,S0 x.p] 83)) 0 (.slice (some ⟨g3,0,none⟩) ws.length (ws.length+1)) ws):=G8 (.inr ⟨g3,_,rfl,Nat.zero_le _,((G7 HO3).next hb4).next (G9 _ _)⟩);clear hb4))
    all_goals go_wp2_with fail
    all_goals go_ret2
    all_goals exact⟨_,rfl,G7 HO5,G7 HB5⟩
  .rw[hh]at CK;obtain⟨e1,e2⟩:=BU7 ha hh;rw[e1,e2];clear ha hh e1 e2;go_enter func60,ntmps60;go_wp2_with fail;refine(CA _).mono ?_;rintro e w1 ⟨rfl,hb1⟩;rw[show (w.alloc (.cells #[I0 x.s,I0 x.k,S0 x.p] 83)).heap.size=w.heap.size+1 by simp]at hb1;obtain⟨⟨c0,c1,c2⟩,hB1,hz1⟩:=G7 HBX w1 hb1;have HB1:=G8 hB1;clear hb1 hB1;go_wp2_with fail;refine(G7 CK w1 (G7 HB1)).mono ?_;rintro e w2 ⟨rfl,hb2⟩;have HB2:=G8 (GH (G7 HB1) hb2);clear hb2;go_wp2_with fail;refine(G7 CC w2 (G7 HB2)).mono ?_;rintro e w3 ⟨g,rfl,hg,ho,hb3⟩;have HB3:=G8 (GH (G7 HB2) hb3);have hBs:=(G7 HB2).size;clear hb3;go_wp2_with fail
   go_ret2
   exact⟨_,rfl,.inr ⟨g,_,rfl,by omega,ho⟩,G7 HB3⟩
 .obtain⟨e1,e2⟩:=BU6 (ws:=ws) ha;rw[e1,e2];generalize tN x=r at CA ha⊢;have hrb:(r==0)=false:=by simpa using ha
  clear e1 e2;go_enter func60,ntmps60;go_wp2_with fail;refine(CA _).mono ?_;rintro e w1 ⟨rfl,hb1⟩;have HB1:=G8 (GX hb1);clear hb1;go_wp2_with fail
  go_ret2
  exact⟨_,rfl,.inl ⟨rfl,rfl⟩,G7 HB1⟩
