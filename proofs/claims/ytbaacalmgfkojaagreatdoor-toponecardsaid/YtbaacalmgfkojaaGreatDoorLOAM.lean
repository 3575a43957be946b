/-
  Part.
-/
import Derived.Test.YtbaacalmgfkojaaGreatDoorLOH
set_option maxRecDepth 20000
set_option maxHeartbeats 8000000
namespace Go.Proofs.YtbaacalmgfkojaaGreatDoor
open Go.RowKit Go.Proofs.Tryz
variable{ws:List Wa}{x:Wa}
theorem A37{w:World}{ops:Array Oper}{o:Oper}{a:Act}{K:Act->World->Prop}{Q:Exit->Act->World->Prop}{E:Prop}(hgd:Region.wanted o (yielded ops a.tmps)=true)(s x:Operand)
  (ho:o.op=.call {callee:=.builtin .append,args:=#[s,x],argTypes:=#[47,47]})
  (v:Value) (ns:List Wa) (hs:a.eval s=v) (hown:GZ w 0 v ns)
  (q:Nat) (hx:a.eval x=.slice (some ⟨q,0,none⟩) 1 1) (t:Wa) (hnews:JM w q t) (hl:(ns.length+1)*32<=140737488355328)
  (h:∀a' c' w',GZ w' 0 (.slice a' (ns.length+1) c') (ns++[t])->w.grownBy w' v.ownBlock->((Value.slice a' (ns.length+1) c').ownBlock=v.ownBlock\/(Value.slice a' (ns.length+1) c').ownBlock=some w.heap.size)->K (a.put o.dst (.slice a' (ns.length+1) c')) w'):
  if Region.wanted o (yielded ops a.tmps)=true then Oper.wp prog o a w K Q else E:=by
 rw[if_pos hgd];obtain⟨i0,hi0,hz0,hz1,hz2⟩:=BW7;obtain⟨v',w',hr,h2,h3,_,h5⟩:=run_append_own_at (P:=prog) w 0 47 o.type 94 i0 _ 3 32 underlying47 hi0 hz0 hz1 hz2 rfl (by decide) v ns.length (G9 ns) hown.row ⟨q,0,none⟩ 1 1 (A66 t) rfl (QX hnews) (Lay.one t) (by simp only[maxLen];omega) hl (Nat.zero_le _);have h2':GZ w' 0 v' (ns++[t]):=GZ.KY (by rw[List.length_append,JE];exact h2);obtain⟨a',c',rfl,_⟩:=h2'.slice;have hlen:(ns++[t]).length=ns.length+1:=by simp
 rw[hlen]at h2' hr h5;unfold Oper.wp execOp;simp only[ho,resolve,invoke,builtin,Sem.run_bind,Sem.run_pure,Result.andThen_ok,List.map_toArray,List.map_cons,List.map_nil,hs,hx,hr];exact h a' c' w' h2' h3 h5
theorem BO7(h:rX x≠0):aJ ws x=rX x/\nM ws x=[]:=by
 have e:aJ ws x=rX x:=by rw[aJ,if_pos h]
 exact⟨e,by rw[nM,e,if_pos h]⟩
theorem BO8(h:rX x=0)(hh:wC ws x=true):aJ ws x=0/\nM ws x=ws:=by
 have e:aJ ws x=0:=by rw[aJ,if_neg (by simp[h]),if_pos hh]
 exact⟨e,by rw[nM,e,if_neg (by simp),if_pos hh]⟩
theorem B77(h:rX x=0)(hh:wC ws x=false)(hf:400<=ws.length):aJ ws x=6/\nM ws x=[]:=by
 have e:aJ ws x=6:=by rw[aJ,if_neg (by simp[h]),if_neg (by simp[hh]),if_pos hf]
 exact⟨e,by rw[nM,e,if_pos (by decide)]⟩
theorem BO9(h:rX x=0)(hh:wC ws x=false)(hf:¬400<=ws.length):aJ ws x=0/\nM ws x=ws++[x]:=by
 have e:aJ ws x=0:=by rw[aJ,if_neg (by simp[h]),if_neg (by simp[hh]),if_neg hf]
 exact⟨e,by rw[nM,e,if_neg (by simp),if_neg (by simp[hh])]⟩
theorem C70{w:World}{ws:List Wa}{x:Wa}(g3:Nat)(w4 w5:World)(a5:Option Addr)(c5:Nat)(hg:w.heap.size<=g3)(hb:B0 w w4)(ho:GZ w5 0 (.slice a5 (ws.length+1) c5) (ws++[x]))(hg5:(w4.alloc (.cells #[I0 x.s,I0 x.k,S0 x.p] 94)).grownBy w5 (Value.slice (some ⟨g3,0,none⟩) ws.length (ws.length+1)).ownBlock)
  (hl:(Value.slice a5 (ws.length+1) c5).ownBlock=(Value.slice (some ⟨g3,0,none⟩) ws.length (ws.length+1)).ownBlock\/(Value.slice a5 (ws.length+1) c5).ownBlock=some (w4.alloc (.cells #[I0 x.s,I0 x.k,S0 x.p] 94)).heap.size):
  GZ w5 w.heap.size (.slice a5 (ws.length+1) c5) (ws++[x])/\B0 w w5:=by
 have hB:=G8 hb (G7 w4 (.cells #[I0 x.s,I0 x.k,S0 x.p] 94));refine⟨jH ho (fun j hj=>?_),hB.grown hg5 hB.size (fun j hj=>by cases hj;exact hg)⟩;rcases hl with h|h
 .rw[h]at hj;cases hj;exact hg
 .rw[h]at hj;cases hj;exact hB.size
theorem C71(v:Value)(ws:List Wa)(x:Wa)(w:World)(hv:IL w v ws)(hs:kZ ws)(hx:x.p.length<=140737488355328)(hl:ws.length*32<=140737488351232):
  Calls prog 69 #[v,waV x] w fun r w'=>∃vl,r=.returned (.tuple #[vl,I0 (aJ ws x)])/\GZ w' w.heap.size vl (nM ws x)/\B0 w w':=by
 have CA:=fun W=>BK0 x W;have CC:=G6 (fun W (hW:B0 w W)=>YS v ws W (hv.next hW) hs hl);have CK:=G6 (fun W (hW:B0 w W)=>BJ9 v ws x W (hv.next hW) (by omega));have CO:=fun W=>A85 x W hx;obtain⟨va,vc,rfl⟩:=GK hv;have HBX:Hid (∀W,Below (w.heap.size+1) (w.alloc (.cells #[I0 x.s,I0 x.k,S0 x.p] 94)) W->(W.cell? ⟨w.heap.size,0,none⟩=some (I0 x.s)/\W.cell? ⟨w.heap.size,1,none⟩=some (I0 x.k)/\W.cell? ⟨w.heap.size,2,none⟩=some (S0 x.p))/\B0 w W/\w.heap.size<W.heap.size):=G6 (fun W h=>⟨CF1 h,(G7 _ _).trans (h.mono (Nat.le_succ _)),by have:=h.size;simp at this;omega⟩);clear hv hs hx;unfold waV at CA CK CO;unfold waV;by_cases ha:rX x=0
 .rw[ha]at CA
  cases hh:wC ws x
  .rw[hh]at CK;by_cases hf:400<=ws.length
   .obtain⟨e1,e2⟩:=B77 ha hh hf;rw[e1,e2];have hfi:(400:Int)<=(ws.length:Int):=by omega
    clear ha hh e1 e2;go_enter func69,ntmps69;go_wp2_with fail;refine(CA _).mono ?_;rintro e w1 ⟨rfl,hb1⟩;rw[show (w.alloc (.cells #[I0 x.s,I0 x.k,S0 x.p] 94)).heap.size=w.heap.size+1 by simp]at hb1;obtain⟨⟨c0,c1,c2⟩,hB1,hz1⟩:=G5 HBX w1 hb1;have HB1:=G6 hB1;clear hb1 hB1;go_wp2_with fail;refine(G5 CK w1 (G5 HB1)).mono ?_;rintro e w2 ⟨rfl,hb2⟩;have HB2:=G6 (G8 (G5 HB1) hb2);clear hb2;go_wp2_with fail
    go_ret2
    exact⟨_,rfl,.inl ⟨rfl,rfl⟩,G5 HB2⟩
   .obtain⟨e1,e2⟩:=BO9 ha hh hf;rw[e1,e2];have hfi:¬ ((400:Int)<=(ws.length:Int)):=by omega
    have hfd:decide ((400:Int)<=(ws.length:Int))=false:=by simp;omega
    clear ha hh e1 e2;go_enter func69,ntmps69;go_wp2_with fail;refine(CA _).mono ?_;rintro e w1 ⟨rfl,hb1⟩;rw[show (w.alloc (.cells #[I0 x.s,I0 x.k,S0 x.p] 94)).heap.size=w.heap.size+1 by simp]at hb1;obtain⟨⟨c0,c1,c2⟩,hB1,hz1⟩:=G5 HBX w1 hb1;have HB1:=G6 hB1;have HC1:=G6 hb1;clear hb1 hB1;go_wp2_with fail;refine(G5 CK w1 (G5 HB1)).mono ?_;rintro e w2 ⟨rfl,hb2⟩;have hC2:=(G5 HC1).trans (hb2.mono (by omega));obtain⟨⟨m0,m1,m2⟩,hB2,hz2⟩:=G5 HBX w2 hC2;have HB2:=G6 hB2;have HC2:=G6 hC2;have K1:Hid (∀w3,B0 w2 w3->(w3.cell? ⟨w.heap.size,0,none⟩=some (I0 x.s)/\w3.cell? ⟨w.heap.size,1,none⟩=some (I0 x.k)/\w3.cell? ⟨w.heap.size,2,none⟩=some (S0 x.p))/\B0 w w3):=G6 (fun w3 hb3=>by
     obtain⟨h1,h2,_⟩:=G5 HBX w3 ((G5 HC2).trans (hb3.mono (by omega)));exact⟨h1,h2⟩)
    have CC2:=G6 (fun W (hW:B0 w2 W)=>G5 CC W (G8 (G5 HB2) hW));have hBs:=(G5 HB2).size;have HK5:=G6 (@C70 w ws x);clear hb2 hB2 hC2 c0 c1 c2;go_wp2_with fail
    go_region_law (first
     |(refine A37 (by kernel_rfl) _ _ (by rfl) (.slice (some ⟨g3,0,none⟩) ws.length (ws.length+1)) ws (by rfl) (G5 HO4) w4.heap.size (by rfl) x (A86 w4 x) (by omega) ?_;intro a5 c5 w5 ho5 hg5 hl5;obtain⟨o5,b5⟩:=G5 HK5 g3 w4 w5 a5 c5 hg3 (G5 HB4) ho5 hg5 hl5;have HO5:=G6 o5;have HB5:=G6 b5;clear o5 b5;clear ho5 hg5 hl5)
     |(go_simp;refine(G5 CC2 _ (by first|exact Below.refl _ _|exact(Below.refl _ _).drew)).mono ?_;rintro e w3 ⟨g3,rfl,hg3',ho3,hb3⟩;have hg3:w.heap.size<=g3:=Nat.le_trans hBs hg3';have HB23:Hid (B0 w2 w3):=(by first|exact hb3|exact I8 hb3);obtain⟨⟨p0,p1,p2⟩,hB3⟩:=G5 K1 w3 (G5 HB23);have HB3:=G6 hB3;have HO3:=G6 ho3;clear hb3 hB3 ho3 hg3')
     |(go_simp;refine(CO _).mono ?_;rintro e w4 ⟨rfl,hb4⟩;have HB4:=G6 (G8 (G5 HB3) hb4);have HO4:Hid (GZ (w4.alloc (.cells #[I0 x.s,I0 x.k,S0 x.p] 94)) 0 (.slice (some ⟨g3,0,none⟩) ws.length (ws.length+1)) ws):=G6 (.inr ⟨g3,_,rfl,Nat.zero_le _,((G5 HO3).next hb4).next (G7 _ _)⟩);clear hb4))
    all_goals go_wp2_with fail
    all_goals go_ret2
    all_goals exact⟨_,rfl,G5 HO5,G5 HB5⟩
  .rw[hh]at CK;obtain⟨e1,e2⟩:=BO8 ha hh;rw[e1,e2];clear ha hh e1 e2;go_enter func69,ntmps69;go_wp2_with fail;refine(CA _).mono ?_;rintro e w1 ⟨rfl,hb1⟩;rw[show (w.alloc (.cells #[I0 x.s,I0 x.k,S0 x.p] 94)).heap.size=w.heap.size+1 by simp]at hb1;obtain⟨⟨c0,c1,c2⟩,hB1,hz1⟩:=G5 HBX w1 hb1;have HB1:=G6 hB1;clear hb1 hB1;go_wp2_with fail;refine(G5 CK w1 (G5 HB1)).mono ?_;rintro e w2 ⟨rfl,hb2⟩;have HB2:=G6 (G8 (G5 HB1) hb2);clear hb2;go_wp2_with fail;refine(G5 CC w2 (G5 HB2)).mono ?_;rintro e w3 ⟨g,rfl,hg,ho,hb3⟩;have HB3:=G6 (G8 (G5 HB2) hb3);have hBs:=(G5 HB2).size;clear hb3;go_wp2_with fail
   go_ret2
   exact⟨_,rfl,.inr ⟨g,_,rfl,by omega,ho⟩,G5 HB3⟩
 .obtain⟨e1,e2⟩:=BO7 (ws:=ws) ha;rw[e1,e2];generalize rX x=r at CA ha⊢;have hrb:(r==0)=false:=by simpa using ha
  clear e1 e2;go_enter func69,ntmps69;go_wp2_with fail;refine(CA _).mono ?_;rintro e w1 ⟨rfl,hb1⟩;have HB1:=G6 (GU hb1);clear hb1;go_wp2_with fail
  go_ret2
  exact⟨_,rfl,.inl ⟨rfl,rfl⟩,G5 HB1⟩
