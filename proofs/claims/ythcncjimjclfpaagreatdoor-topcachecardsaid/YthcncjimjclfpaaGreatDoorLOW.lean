/-
  Part.
-/
import Derived.Test.YthcncjimjclfpaaGreatDoorLOU
import Derived.Test.YthcncjimjclfpaaGreatDoorLOV
set_option maxRecDepth 20000
set_option maxHeartbeats 8000000
namespace Go.Proofs.YthcncjimjclfpaaGreatDoor
open Go.RowKit Go.Proofs.Tryz
open _root_.Nat renaming le_refl->A8,le_trans->BM
open _root_.Array renaming getElem?_eq_some_iff->AB
open _root_.List renaming length_append->AO,getElem?_eq_some_iff->AU,mem_of_getElem?->AZ,take_of_length_le->BL,mem_cons->BO,append_assoc->BQ,mem_append->BU,take_append_drop->DN,mem_filter->EH,length_nil->ES,mem_map->EU
open Go.World renaming cell?->AV,frozen?->F7
open Go.Value renaming slice->FQ
open Go renaming World->FU,Value->FV,Calls->FW
open _root_.Option renaming none->FX,some->FZ
variable{e s:Int}{x:GI}{i k g o:Nat}{q:Ps}{l:List UInt8}{F:Nat->Prop}{seen:Array Nat}{key v:FV}{W V w:FU}{p:Pw}
theorem rY(e:Int):(YK e).s.length+(YK e).t.length<=1048576:=by
 have:=aI (L9 e 0);simp only[YK,ES];omega
theorem ZI{s t:List UInt8}(h:s.length+t.length<=1048576):LV (epD e++[⟨NW,s,t⟩]):=by
 unfold epD
 split
 .exact bD h
 .exact TM (rY e) h
theorem iO(e:Int)(s t:List UInt8):There (epD e++[⟨NW,s,t⟩]) (epD e) ⟨NW,s,t⟩ [] NW:=by
 unfold epD
 split
 .exact⟨rfl,rfl,by simp,by simp⟩
 .exact kY _ _ _ _
theorem BQ4(e:Int)(s t:List UInt8)(k:Nat):(epD e++[(⟨NW,s,t⟩:DF)]).map (WV k)=epD e++[⟨NW,s++t.take k,[]⟩]:=by
 unfold epD
 split
 .simp[WV]
 .simp[WV,YK]
theorem BQ5{s t:List UInt8}(he:zIn e=true)(h:s.length+t.length<=1048576):YS (epD e++[⟨NW,s,t⟩])=e:=by
 by_cases h0:e=0
 .subst h0;rw[AD8,List.nil_append];unfold YS;rw[jZ (bD h) (eY s t)];show IZ (gQ [])=0;rw[vJ,V9]
 .rw[A45 h0];have h1:=PK.1 he;have hm:L9 e 0=e*2147483648:=by rw[(U1 he (by decide)).1];omega
  have hz:KL (L9 e 0)=true:=by rw[hm];exact LZ.2 ⟨by omega,by omega⟩
  unfold YS;show IZ (gQ (VW [⟨JH,QK (L9 e 0),[]⟩,⟨NW,s,t⟩] JH).1)=e;rw[VA (TM (by have:=aI (L9 e 0);simp;omega) h) (bH _ _ _ _)];simp only[List.append_nil];rw[(AY8 hz).1,MB hz,hm];omega
section
variable {i:Nat} {q:Ps}
theorem LX.small(ok:LX 300 q):(I9 q.m).length<=146100/\q.m.length<=300:=by
 have:=ok.len;exact⟨rW ok.log (by omega),by omega⟩
theorem UL(m:List GI)(a:Nat):(I9 (m.take a)).length+(I9 (m.drop a)).length=(I9 m).length:=by
 conv=>rhs;rw[<-DN a m,LM,AO]
theorem XK(h:gdE x=0):x.p.length<=200/\x.d.length<=256:=⟨BX0 (gX h).2.2.2,(gX h).2.2.1⟩
theorem LX.zin(ok:LX 300 q):zIn q.e=true:=PK.2 ⟨ok.e0,by have:=ok.e1;omega⟩
theorem LX.fits(ok:LX 300 q)(hu:q.up=true):BY0 (svP i q):=by
 obtain⟨h1,h2⟩:=ok.small;have h3:=UL q.m q.a;have g:=ok.play.good ok.dn;have gd:LV (epD q.e++[⟨NW,I9 (q.m.take q.a),I9 (q.m.drop q.a)⟩]):=ZI (by omega);have hw:=ok.wl;rw[IY hu];refine⟨?_,JV gd,by show q.m.length*72<=_;omega,fun x hx=>?_,by show (NI q.m q.dn).ns.length*88<=_;have:=g.nod.few;omega,g.wf.CK9,TI g.ses,by show q.ws.length*32<=_;omega,fun x hx=>?_⟩
 .simp only[epD]
  split<;>simp
 .have:=XK (ok.log.good x hx);omega
 .have:=MN (ok.wk x hx).2.2.2;omega
theorem xX(hu:q.up=true)(k:Nat):svP i (MQ q k)=⟨false,((svP i q).fs).map (WV k),(svP i q).id,0,[],0,QH,[]⟩:=by
 rw[IY hu,TN (p:=MQ q k) rfl];simp only[BQ4];rw[xW,<-BQ,<-LM];have e:q.m.take (q.a+whole (q.m.drop q.a) k)=q.m.take q.a++(q.m.drop q.a).take (whole (q.m.drop q.a) k):=by rw[List.take_add]
 simp only[MQ,e]
theorem BQ6(ok:LX 300 q)(hu:q.up=true){ke:Int}(hk:0<=ke)(v:FV)(w:FU)(hv:SvV w v (svP i q)):FW prog 69 #[v,I0 ke] w (aS w (svP i (MQ q ke.toNat)) 0):=by
 obtain⟨h1,h2⟩:=ok.small;have h3:=UL q.m q.a;have gd:LV (svP i q).fs:=by rw[IY hu];exact ZI (by omega)
 have G:NC 103 (fun x=>#[x,I0 ke]) (svP i q).fs ((svP i q).fs.map (WV ke.toNat)) 0:=by
  have:=MP (f:=103) (args:=fun x=>#[x,I0 ((ke.toNat:Nat):Int)]) fun v W hv=>B01 v (svP i q).fs ke.toNat W hv (JV gd) gd;rwa[Int.toNat_of_nonneg hk]at this
 rw[xX hu];exact B55 (svP i q) v _ ke w hv G
theorem A48(ok:LX 300 q)(hu:q.up=true){ke:Int}(hk:ke<0)(v:FV)(w:FU)(hv:SvV w v (svP i q)):FW prog 69 #[v,I0 ke] w (aS w sv0 3):=by
 obtain⟨h1,h2⟩:=ok.small;have h3:=UL q.m q.a;have gd:LV (svP i q).fs:=by rw[IY hu];exact ZI (by omega)
 exact AO5 (svP i q) v [] ke 3 w hv (by decide) (vV fun v W hv=>BJ5 v (svP i q).fs ke W hv (JV gd) (.inr hk))
theorem C90(ok:LX 300 q)(hu:q.up=false)(hi:i<3)(v:FV)(w:FU)(hv:IU w v (svP i q).fs):FW prog 31 #[I0 i,.agg #[v]] w (aS w (svP i (upP q)) 0):=by
 obtain⟨h1,h2⟩:=ok.small;obtain⟨_,_,_,hs,hq⟩:=ok.down hu;have hl:(I9 q.m++q.q).length+([]:List UInt8).length<=1048576:=by simp;omega
 rw[TN hu]at hv;have gd:LV (epD q.e++[⟨NW,I9 q.m++q.q,[]⟩]):=ZI hl;have R:YT (epD q.e++[⟨NW,I9 q.m++q.q,[]⟩]) q.m (epD q.e) []:=⟨gd,ok.log,.inr ⟨_,q.q,iO _ _ _,by simpa using hs⟩⟩;have:=AD0 v _ _ q.m i w hv (JV gd) (by omega) (by omega) (kW R);rw[BQ5 ok.zin hl]at this;rw[IY (p:=upP q) rfl];simpa [upP,OW,XG,show I9 []=[]from rfl]using this
theorem C91(sure:Bool)(ok:LX 299 q)(hu:q.up=true)(hg:gdE x=0)(hz:J3 q.m<x.z)(v:FV)(w:FU)(hv:SvV w v (svP i q)):FW prog 94 #[v,J7 x,.bool sure] w fun e w'=>eU w (svP i (TD x sure q)) 0 e w'/\FrT w e:=by
 have ok':=ok.more (show (299:Int)<=300 by omega);obtain⟨h1,h2⟩:=ok'.small;have h3:=UL q.m q.a;have hr:=jB hg;have hx:=XK hg;have ha:=ok.a;have g0:LV (epD q.e++[⟨NW,I9 (q.m.take q.a),I9 (q.m.drop q.a)⟩]):=ZI (by omega);have g1:LV (epD q.e++[⟨NW,I9 (q.m.take q.a),I9 (q.m.drop q.a)++QV x⟩]):=ZI (by simp;omega);have W1:∀v W,IU W v (epD q.e++[⟨NW,I9 (q.m.take q.a),I9 (q.m.drop q.a)⟩])->FW prog 55 #[.agg #[v],S0 NW,S0 (QV x)] W fun e w'=>∃v',e=.returned (.tuple #[.agg #[v'],I0 0])/\Y7 w' W.heap.size v' (epD q.e++[⟨NW,I9 (q.m.take q.a),I9 (q.m.drop q.a)++QV x⟩])/\B0 W w':=fun v W hv=>
  jX v _ (epD q.e) [] _ NW (QV x) W hv (JV g0) g0 (iO _ _ _) (by simp only;omega)
 have S1:∀v W,IU W v (epD q.e++[⟨NW,I9 (q.m.take q.a),I9 (q.m.drop q.a)++QV x⟩])->FW prog 146 #[.agg #[v],S0 NW] W fun e w'=>∃v',e=.returned (.tuple #[.agg #[v'],I0 0])/\Y7 w' W.heap.size v' (epD q.e++[⟨NW,I9 (q.m.take q.a)++(I9 (q.m.drop q.a)++QV x),[]⟩])/\B0 W w':=fun v W hv=>
  Y9 v _ (epD q.e) [] _ NW W hv (JV g1) g1 (iO _ _ _)
 have T:CW7 (svP i q) x sure 0 (svP i (TD x sure q)):=by
  rw[IY hu];refine .inr (.inr ⟨by show ¬x.z<=J3 q.m;omega,rfl,?_⟩)
  cases sure with
  |true=>
   refine⟨_,?_,oO _ _ _ x 0 hg (MP W1) (eP S1)⟩;rw[IY (p:=TD x true q) hu];simp only[TD,if_true,bG q.m x ok.dn];rw[BL (by simp),List.drop_of_length_le (by simp),<-BQ,<-LM,DN,<-PL];rfl
  |false=>
   refine⟨_,?_,AO6 _ _ x hg (eP W1)⟩;rw[IY (p:=TD x false q) hu];simp only[TD,Bool.false_eq_true,if_false,bG q.m x ok.dn];rw[List.take_append_of_le_length ha,List.drop_append_of_le_length ha,PL]
 exact A33 (svP i q) _ v x sure 0 w hv (ok'.fits hu) T (by omega) (by omega) (by rw[IY hu];show q.m.length<=_;omega)
theorem B78(ok:LX 300 q)(hu:q.up=true):Chn (svP i q) (q.m.drop q.dn) (q.m.length-q.dn):=by
 have e:∀j,(csP (svP i q) (q.m.drop q.dn) j).1.tr=NI q.m (q.dn+j):=fun j=>by
  unfold csP NI;rw[B64,IY hu,List.take_add,List.foldl_append];rfl
 refine⟨by simp,fun j x hj hx=>?_,fun x hx=>?_⟩
 .rw[e];rw[List.getElem?_drop]at hx;exact ok.play _ x hx
 .have:=(AU.1 hx).1;simp at this
theorem B79(ok:LX 300 q)(hu:q.up=true):BN9 (svP i q) (q.m.drop q.dn):=by
 have hw:=ok.wl;rw[IY hu];refine⟨(ok.play.good ok.dn).wf,fun x hx=>?_,by show q.ws.length*32<=_;omega,fun x hx=>?_,fun x hx=>?_⟩
 .have:=MN (ok.wk x hx).2.2.2;omega
 .have:=XK (ok.log.good x (List.mem_of_mem_drop hx));omega
 .have:=XK (ok.log.good x (List.mem_of_mem_drop hx));omega
theorem B80(ok:LX 300 q)(hu:q.up=true):(YF i q).1.up=true/\(YF i q).1.fs=(svP i q).fs/\(YF i q).1.id=i/\(YF i q).1.ep=q.e/\(YF i q).1.ts=q.m/\(YF i q).1.tr=NI q.m q.m.length:=by
 obtain⟨_,b1,b2,b3,b4,b5,_⟩:=BY2 (B79 (i:=i) ok hu) (B78 ok hu) _ (A8 _);have hd:=ok.dn;refine⟨?_,b2,?_,?_,?_,?_⟩
 .show (csP _ _ _).1.up=true;rw[b1,IY hu]
 .show (csP _ _ _).1.id=_;rw[b3,IY hu]
 .show (csP _ _ _).1.ep=_;rw[b4,IY hu]
 .show (csP _ _ _).1.ts=_;rw[b5,IY hu]
 .show (csP _ _ _).1.tr=_;unfold csP;rw[B64,IY hu];show (List.take _ _).foldl ZO (NI q.m q.dn)=_;unfold NI;rw[<-List.foldl_append,<-List.take_add,show q.dn+(q.m.length-q.dn)=q.m.length by omega]
theorem B81(ok:LX 300 q)(hu:q.up=true)(v:FV)(w:FU)(hv:SvV w v (svP i q)):FW prog 95 #[v,I0 q.m.length] w fun e w'=>kV w (svP i (fZ i q)) (YF i q).2 0 e w'/\FrS w e:=by
 have hd:=ok.dn;obtain⟨c1,c2,c3,c4,c5,c6⟩:=B80 (i:=i) ok hu;refine(xG (svP i q) v q.dn q.m.length (q.m.length-q.dn) (q.m.drop q.dn) w hv (ok.fits hu) (by rw[IY hu]) hd (by rw[IY hu];exact A8 _) (by rw[IY hu];show _=List.take _ (List.drop q.dn q.m);rw[BL (by simp)]) (B78 ok hu) (B79 ok hu)).mono fun e w' H=>?_;have:=H.1 (by simp);have e:svP i (fZ i q)=⟨(csP (svP i q) (q.m.drop q.dn) (q.m.length-q.dn)).1.up,(csP (svP i q) (q.m.drop q.dn) (q.m.length-q.dn)).1.fs,(csP (svP i q) (q.m.drop q.dn) (q.m.length-q.dn)).1.id,(csP (svP i q) (q.m.drop q.dn) (q.m.length-q.dn)).1.ep,(csP (svP i q) (q.m.drop q.dn) (q.m.length-q.dn)).1.ts,(q.m.length:Int),(csP (svP i q) (q.m.drop q.dn) (q.m.length-q.dn)).1.tr,(csP (svP i q) (q.m.drop q.dn) (q.m.length-q.dn)).1.ws⟩:=by
  show _=(⟨(YF i q).1.up,(YF i q).1.fs,(YF i q).1.id,(YF i q).1.ep,(YF i q).1.ts,(q.m.length:Int),(YF i q).1.tr,(YF i q).1.ws⟩:Sv);rw[c1,c2,c3,c4,c5,c6,IY (p:=fZ i q) hu,IY hu];rfl
 rw[e];exact this
end
theorem BQ7{m:List GI}{t:GI}(e:Int)(h:Logs (m++[t]))(hl:m.length<=300):YU 155 (fun x=>#[x,J7 t,.bool true]) [YK e,OW m] [YK e,OW (m++[t])] 0:=by
 have hg:=(Logs.at (a:=m) (b:=[]) h).1;have hx:=rY e;have h1:=rW h.left hl;have h2:=jB hg;have g0:LV [YK e,OW m]:=TM hx (by simp;omega);have g1:LV [YK e,⟨NW,I9 m,QV t⟩]:=TM hx (by omega);refine oO [YK e,OW m] [YK e,⟨NW,I9 m,QV t⟩] [YK e,OW (m++[t])] t 0 hg (MP fun v W hv=>?_) (eP fun v W hv=>?_)
 .have:=jX v [YK e,OW m] [YK e] [] (OW m) NW (QV t) W hv (JV g0) g0 (kY _ _ _ _) (by simp only[OW,ES];omega);simpa [OW]using this
 .have:=Y9 v [YK e,⟨NW,I9 m,QV t⟩] [YK e] [] ⟨NW,I9 m,QV t⟩ NW W hv (JV g1) g1 (kY _ _ _ _);simpa [OW,PL]using this
theorem CN2{m:List GI}{e0:Int}(he:zIn e=true)(hm:(I9 m).length<=1048576):kU 109 (fun x=>#[x,I0 e]) (epD e0++[OW m]) [YK e,OW m] 0:=by
 by_cases h0:e0=0
 .subst h0;rw[AD8];exact C82 he hm
 .rw[A45 h0];have hx:=aI (L9 e 0);have g0:LV [YK e0,OW m]:=TM (rY e0) (by simpa using hm);have gl:LV [OW m]:=bD (by simpa using hm);have g1:LV [⟨JH,[],QK (L9 e 0)⟩,OW m]:=TM (by simp;omega) (by simpa using hm);refine A36 [YK e0,OW m] [OW m] [⟨JH,[],QK (L9 e 0)⟩,OW m] [YK e,OW m] e 0 (U1 he (by decide)).2 (MP fun v W hv=>?_) (MP fun v W hv=>?_) (MP fun v W hv=>?_)
  .exact vP v [YK e0,OW m] [] [OW m] (YK e0) JH W hv (JV g0) g0 (bH _ _ _ _)
  .exact aQ v [OW m] [] [OW m] JH (QK (L9 e 0)) W hv (JV gl) gl Z7 (by simp) (eY (I9 m) []) (by omega)
  .have:=Y9 v _ [] [OW m] ⟨JH,[],QK (L9 e 0)⟩ JH W hv (JV g1) g1 (bH [] (QK (L9 e 0)) (I9 m) []);simpa [YK]using this
theorem B82{a b:List GI}(ha:Logs a)(hp:∀x∈a,0<x.z){z:Int}(hz:CW9 b (KY a b) z):TB z a=a.take (KY a b):=by
 rcases hz with⟨h0,rfl⟩|⟨x,h0,hx,rfl⟩
 .rw[h0,List.take_zero]
  cases a with
  |nil=>rfl
  |cons t r=>
   have:=hp t (by simp);unfold TB;rw[List.takeWhile_cons_of_neg (by simp;omega)]
 .obtain⟨x',y',h1,h2,h3⟩:=kL a b (KY a b-1) (by omega);rw[hx]at h2
  cases h2
  rw[<-h3,C83 ha h1,show KY a b-1+1=KY a b by omega]
theorem CN3(a b:List GI):∃z,CW9 b (KY a b) z:=by
 by_cases h0:KY a b=0
 .exact⟨-1,.inl ⟨h0,rfl⟩⟩
 .obtain⟨x,y,_,h2,_⟩:=kL a b (KY a b-1) (by omega);exact⟨y.z,.inr ⟨y,by omega,h2,rfl⟩⟩
theorem AE2{a b:List GI}(h:∀x∈a,∀y∈b,x.z=y.z->x=y):a.take (KY a b)=b.take (KY a b):=by
 obtain⟨k1,k2⟩:=VE a b
 apply List.ext_getElem?
 intro i;by_cases hi:i<KY a b
 .obtain⟨x,y,h1,h2,h3⟩:=kL a b i hi;rw[List.getElem?_take_of_lt hi,List.getElem?_take_of_lt hi,h1,h2,h x (AZ h1) y (AZ h2) h3]
 .rw[List.getElem?_eq_none (by simp;omega),List.getElem?_eq_none (by simp;omega)]
theorem B83{b:Ps}(ok:LX 300 q)(hu:q.up=true)(okb:LX 300 b)(he:1<=e/\e<=300)(hd:q.dn<=KY q.m b.m)(h1:∀x∈q.m,∀y∈b.m,x.z=y.z->x=y)(v vl:FV)(w:FU)(hv:SvV w v (svP i q))(hvl:NV w vl b.m)(ht:ZG w):
  FW prog 73 #[v,vl,I0 e] w (eU w (svP i (pF e b.m q)) 0):=by
 obtain⟨r1,r2⟩:=ok.small;obtain⟨b1,b2⟩:=okb.small;have r3:=UL q.m q.a;obtain⟨z,hz⟩:=CN3 q.m b.m;have hzi:zIn e=true:=PK.2 ⟨by omega,by omega⟩;have hs:=AE2 h1;obtain⟨k1,k2⟩:=VE q.m b.m;have hts:(svP i q).ts=q.m:=by rw[IY hu]
 have G:NC 108 (fun g=>#[g,I0 z]) (svP i q).fs (epD q.e++[OW (q.m.take (KY q.m b.m))]) 0:=by
  have R:YT (epD q.e++[⟨NW,I9 (q.m.take q.a),I9 (q.m.drop q.a)⟩]) q.m (epD q.e) []:=⟨ZI (by omega),ok.log,.inr ⟨_,[],iO _ _ _,by
   have:=uN ok.log;rw[<-LM,DN];exact this⟩⟩
  have:=BP6 R z;rw[B82 ok.log ok.pos hz]at this;rw[IY hu];exact this
 have hlk:Logs (q.m.take (KY q.m b.m)):=ok.log.take _;have hrk:(I9 (q.m.take (KY q.m b.m))).length<=146100:=rW hlk (by simp;omega);have R:=CN2 (e0:=q.e) hzi (show (I9 (q.m.take (KY q.m b.m))).length<=1048576 by omega);have gd:LV [YK e,OW (q.m.take (KY q.m b.m))]:=TM (rY e) (by simp;omega);have hbb:b.m=b.m.take (KY q.m b.m)++b.m.drop (KY q.m b.m):=(DN _ _).symm;have step:∀j x,(b.m.drop (KY q.m b.m))[j]?=FZ x->CM8 ⟨true,[YK e,OW (q.m.take (KY q.m b.m)++(b.m.drop (KY q.m b.m)).take j)],i,e,q.m.take (KY q.m b.m)++(b.m.drop (KY q.m b.m)).take j,q.dn,NI q.m q.dn,q.ws⟩ x ⟨true,[YK e,OW (q.m.take (KY q.m b.m)++(b.m.drop (KY q.m b.m)).take (j+1))],i,e,q.m.take (KY q.m b.m)++(b.m.drop (KY q.m b.m)).take (j+1),q.dn,NI q.m q.dn,q.ws⟩:=by
  intro j x hx;have e1:b.m=(q.m.take (KY q.m b.m)++(b.m.drop (KY q.m b.m)).take j)++x::(b.m.drop (KY q.m b.m)).drop (j+1):=by
   rw[hs,BQ,<-BP7 hx];exact hbb
  have e2:q.m.take (KY q.m b.m)++(b.m.drop (KY q.m b.m)).take (j+1)=(q.m.take (KY q.m b.m)++(b.m.drop (KY q.m b.m)).take j)++[x]:=by rw[PO hx,BQ]
  have hL:=okb.log;rw[e1]at hL;have hg:=hL.good x (by simp);have hL1:Logs ((q.m.take (KY q.m b.m)++(b.m.drop (KY q.m b.m)).take j)++[x]):=by
   have:Logs (((q.m.take (KY q.m b.m)++(b.m.drop (KY q.m b.m)).take j)++[x])++(b.m.drop (KY q.m b.m)).drop (j+1)):=by simpa using hL
   exact this.left
  have hx2:=XK hg;have hlen:(q.m.take (KY q.m b.m)++(b.m.drop (KY q.m b.m)).take j).length<=300:=by
   have:=congrArg List.length e1;rw[AO]at this;omega
  have hlast:¬x.z<=J3 (q.m.take (KY q.m b.m)++(b.m.drop (KY q.m b.m)).take j):=by
   intro hle;by_cases hn:q.m.take (KY q.m b.m)++(b.m.drop (KY q.m b.m)).take j=[]
   .rw[hn,WG]at hle;have:=okb.pos x (List.mem_of_mem_drop (AZ hx));omega
   .obtain⟨y,hy,hyz⟩:=ZV hn;have:=(List.pairwise_append.1 hL1.rise).2.2 y hy x (by simp);omega
  refine⟨hlast,by omega,by omega,BM hlen (by decide),[YK e,OW ((q.m.take (KY q.m b.m)++(b.m.drop (KY q.m b.m)).take j)++[x])],by rw[e2],BQ7 e hL1 hlen⟩
 have main:=B66 (svP i q) v vl b.m e w hv hvl (ok.fits hu) (by omega) ht (by rw[hts,IY hu];show ¬ ((KY q.m b.m:Nat):Int)<(q.dn:Int);omega) z _ _ (by rw[hts];exact hz) G R gd (fun j=>⟨true,[YK e,OW (q.m.take (KY q.m b.m)++(b.m.drop (KY q.m b.m)).take j)],i,e,q.m.take (KY q.m b.m)++(b.m.drop (KY q.m b.m)).take j,q.dn,NI q.m q.dn,q.ws⟩) (by rw[hts,IY hu];simp) (by rw[hts];exact step);rw[hts]at main;have e3:svP i (pF e b.m q)=⟨true,[YK e,OW (q.m.take (KY q.m b.m)++(b.m.drop (KY q.m b.m)).take (b.m.drop (KY q.m b.m)).length)],i,e,q.m.take (KY q.m b.m)++(b.m.drop (KY q.m b.m)).take (b.m.drop (KY q.m b.m)).length,q.dn,NI q.m q.dn,q.ws⟩:=by
  have et:NI q.m q.dn=NI b.m q.dn:=by
   rw[<-XJ q.m hd,<-XJ b.m hd,hs]
  rw[List.take_length,hs,DN,et,IY (p:=pF e b.m q) rfl];simp[pF,A45 (show e≠0 by omega),OW,I9]
 rw[e3];exact main
theorem xY{b:Ps}(ok:LX 300 q)(hu:q.up=true)(okb:LX 300 b)(hd:KY q.m b.m<q.dn)(v vl:FV)(w:FU)(hv:SvV w v (svP i q))(hvl:NV w vl b.m):
  FW prog 73 #[v,vl,I0 e] w (oP w 13):=by
 obtain⟨b1,b2⟩:=okb.small;exact AO8 (svP i q) v vl b.m e w hv hvl (ok.fits hu) (by omega) (by rw[IY hu];show ((KY q.m b.m:Nat):Int)<(q.dn:Int);omega)
theorem bK{ns ms:List Nd}(ha:nO ns)(hb:nO ms)(h1:∀n∈ns,n.p=l->∃m∈ms,m.p=l/\m.d=n.d)(h2:∀m∈ms,m.p=l->∃n∈ns,n.p=l):(JD ms l).map Nd.d=(JD ns l).map Nd.d:=by
 cases e:JD ns l with
 |some n=>
  obtain⟨hn,hp⟩:=PS e;obtain⟨m,hm,hq,hd⟩:=h1 n hn hp;have:=V6 hb hm;rw[hq]at this;rw[this];simp[hd]
 |none=>
  cases f:JD ms l with
  |none=>rfl
  |some m=>
   obtain⟨hm,hp⟩:=PS f;obtain⟨n,hn,hq⟩:=h2 m hm hp;have:=V6 ha hn;rw[hq,e]at this
   cases this
theorem AE7{k:Int}{q:List UInt8}(h:iE ⟨s,1,l⟩ ⟨k,q⟩=false)(hk:k=1\/k=2\/k=3):l≠q:=by
 rintro rfl;rcases hk with rfl|rfl|rfl<;>simp[iE]at h
theorem BR3{t:Tr}(ha:VU t x=0)(hv:∀e∈VO t x,iE ⟨s,1,l⟩ e=false):(JD (ZO t x).ns l).map Nd.d=(JD t.ns l).map Nd.d:=by
 have gT:=(XZ ha).1;obtain⟨h1,h2,_⟩:=aC ha;obtain⟨g,hgd,_⟩:=OD h1;have hN:(ZO t x).ns=WM t x:=by rw[ZO,if_pos ha]
 rw[VO,if_pos ha]at hv;by_cases o2:x.o=2
 .have hC:WM t x=QJ x.z t.ns (N8 t.ns x.s):=by rw[WM,if_pos o2]
  rw[iC,if_pos o2]at hv;have hl:l∉N8 t.ns x.s:=fun hm=>AE7 (hv ⟨2,l⟩ (List.mem_flatMap.2 ⟨l,hm,by simp⟩)) (by omega) rfl;refine bK g.nod.asc gT.nod.asc (fun n hn hp=>?_) (fun m hm hp=>?_)
  .obtain⟨m,hm,e1,_,e2,_⟩:=jI (z:=x.z) (N8 t.ns x.s) t.ns n hn (by rw[hp];exact hl);exact⟨m,by rw[hN,hC];exact hm,by rw[e1,hp],e2⟩
  .rw[hN,hC]at hm;obtain⟨n,hn,e1,_⟩:=jH _ _ _ hm;exact⟨n,hn,by rw[e1,hp]⟩
 by_cases o3:x.o=3
 .obtain⟨_,_,_,⟨A,B,G⟩,_,hns,_⟩:=AP7 ha o3;rw[iC,if_neg o2,if_pos o3]at hv;have hl:l≠x.p:=AE7 (hv ⟨1,x.p⟩ (by simp)) (by omega);refine bK g.nod.asc gT.nod.asc (fun n hn hp=>?_) (fun m hm hp=>?_)
  .have hmi:n∈CF6 t.ns (tZ x):=by
    rw[G.ins (x:=tZ x)];rw[G.eq]at hn;rcases BU.1 hn with h|h
    .exact BU.2 (.inl h)
    .exact BU.2 (.inr (List.mem_cons_of_mem _ h))
   exact⟨_,by rw[hns,MV];exact EU.2 ⟨n,hmi,rfl⟩,by rw[TG];exact hp,A87 _ _ _ _⟩
  .rw[hns,MV]at hm;obtain⟨n,hn,rfl⟩:=EU.1 hm;rw[TG]at hp;rw[G.ins (x:=tZ x)]at hn;rcases BU.1 hn with h|h
   .exact⟨n,by rw[G.eq];exact BU.2 (.inl h),hp⟩
   .rcases BO.1 h with rfl|h
    .exact absurd hp.symm hl
    .exact⟨n,by rw[G.eq];exact BU.2 (.inr h),hp⟩
 by_cases o4:x.o=4
 .have hC:WM t x=rmN x.z t.ns x.p:=by rw[WM,if_neg o2,if_neg o3,if_pos o4]
  rw[iC,if_neg o2,if_neg o3,if_pos o4]at hv;have hl:l≠x.p:=AE7 (hv ⟨2,x.p⟩ (by simp)) (by omega);refine bK g.nod.asc gT.nod.asc (fun n hn hp=>?_) (fun m hm hp=>?_)
  .have:=A86 (z:=x.z) (p:=x.p) hn (by rw[hp];exact hl);exact⟨_,by rw[hN,hC];exact this,by rw[TG];exact hp,A87 _ _ _ _⟩
  .rw[hN,hC]at hm;obtain⟨n,hn,_,rfl⟩:=AW7 hm;rw[TG]at hp;exact⟨n,hn,hp⟩
 by_cases o5:x.o=5
 .have hC:WM t x=uS x.p x.d x.v x.z t.ns:=by rw[WM,if_neg o2,if_neg o3,if_neg o4,if_pos o5]
  rw[iC,if_neg o2,if_neg o3,if_neg o4,if_pos o5]at hv;have hl:l≠x.p:=AE7 (hv ⟨3,x.p⟩ (by simp)) (by omega);refine bK g.nod.asc gT.nod.asc (fun n hn hp=>?_) (fun m hm hp=>?_)
  .exact⟨n,by rw[hN,hC,uS];exact EU.2 ⟨n,hn,by rw[if_neg (by rw[hp];exact hl)]⟩,hp,rfl⟩
  .rw[hN,hC,uS]at hm;obtain⟨n,hn,e⟩:=EU.1 hm;refine⟨n,hn,?_⟩;by_cases h:n.p=x.p
   .rw[if_pos h]at e;rw[<-e]at hp;exact hp
   .rw[if_neg h]at e;rw[e];exact hp
 .rw[hN,WM,if_neg o2,if_neg o3,if_neg o4,if_neg o5]
theorem AP8(es:List Ev):∀ (ws:List Wa) (x:Wa),x∈ws->x.k=1->(∀n∈O9 ws es,n.s=x.s->n.p=x.p->n.k=4)->x∈LC ws es/\∀e∈es,iE x e=false:=by
 induction es with
 |nil=>intro ws x hx _ _;exact⟨hx,by simp⟩
 |cons e r ih=>
  intro ws x hx hk hn;have ho:iE x e=false:=by
   cases h:iE x e with
   |false=>rfl
   |true=>
    have hp:x.p=e.p:=by
     simp only[iE,Bool.and_eq_true,decide_eq_true_eq]at h;exact h.1
    have:=hn (A99 e x) (BU.2 (.inl (EU.2 ⟨x,EH.2 ⟨hx,h⟩,rfl⟩))) rfl hp.symm;have h4:e.k=4:=this;simp[iE,hk,h4]at h
  obtain⟨h1,h2⟩:=ih (jK ws e) x (EH.2 ⟨hx,by simp[ho]⟩) hk (fun n hm=>hn n (BU.2 (.inr hm)));refine⟨h1,fun y hy=>?_⟩;rcases BO.1 hy with rfl|hy
  .exact ho
  .exact h2 y hy
theorem B89(xs:List GI):∀ (s:Sv) (N:List Nt) (n:Nt),n∈N->n∈(xs.foldl stP (s,N)).2:=by
 induction xs with
 |nil=>intro s N n h;exact h
 |cons y xs ih=>intro s N n h;exact ih _ _ n (BU.2 (.inl h))
theorem B90(xs:List GI):∀ (s:Sv) (N:List Nt) (c:Int) (l:List UInt8),(∀j x,xs[j]?=FZ x->VU ((xs.take j).foldl stP (s,N)).1.tr x=0)->(⟨c,1,l⟩:Wa)∈s.ws->(∀n∈(xs.foldl stP (s,N)).2,n.s=c->n.p=l->n.k=4)->(∀x∈xs,x.o=2->x.s≠c)->
  (⟨c,1,l⟩:Wa)∈(xs.foldl stP (s,N)).1.ws/\(JD (xs.foldl stP (s,N)).1.tr.ns l).map Nd.d=(JD s.tr.ns l).map Nd.d:=by
 induction xs with
 |nil=>intro s N c l _ h _ _;exact⟨h,rfl⟩
 |cons y xs ih=>
  intro s N c l ha hw hn hc;have h0:VU s.tr y=0:=ha 0 y rfl;obtain⟨f1,f2⟩:=AP8 (VO s.tr y) s.ws ⟨c,1,l⟩ hw rfl (fun n hm=>hn n (B89 xs _ _ n (BU.2 (.inr hm))));have hd:=BR3 h0 f2;have hw2:(⟨c,1,l⟩:Wa)∈(YR s y).ws:=by
   show _∈VD s y;unfold VD
   split
   .rename_i ho
    refine EH.2 ⟨f1,?_⟩;have:=hc y (by simp) ho;simp only[Bool.not_eq_true',decide_eq_false_iff_not];exact fun e=>this e.symm
   .exact f1
  obtain⟨i1,i2⟩:=ih (YR s y) (N++O9 s.ws (VO s.tr y)) c l (fun j x hx=>ha (j+1) x (by simpa using hx)) hw2 hn (fun x hx=>hc x (List.mem_cons_of_mem _ hx));exact⟨i1,i2.trans hd⟩
theorem AE8(ok:LX 300 q)(hu:q.up=true){c:Int}(hw:(⟨c,1,l⟩:Wa)∈q.ws)(hn:∀n∈(YF i q).2,n.s=c->n.p=l->n.k=4)(hc:∀x∈q.m,x.o=2->x.s≠c):
  (⟨c,1,l⟩:Wa)∈(fZ i q).ws/\(JD (NI q.m q.m.length).ns l).map Nd.d=(JD (NI q.m q.dn).ns l).map Nd.d:=by
 have C:=B78 (i:=i) ok hu;have et:(q.m.drop q.dn).take (q.m.length-q.dn)=q.m.drop q.dn:=BL (by simp);have e6:=(B80 (i:=i) ok hu).2.2.2.2.2;unfold YF csP at hn e6;rw[et]at hn e6;obtain⟨h1,h2⟩:=B90 (q.m.drop q.dn) (svP i q) [] c l (fun j x hx=>by
  have hj:=(AU.1 hx).1;have:=C.ok j x (by simp at hj;omega) hx;unfold csP at this;exact this) (by rw[BZ2 hu];exact hw) hn (fun x hx=>hc x (List.mem_of_mem_drop hx))
 refine⟨?_,?_⟩
 .show _∈(YF i q).1.ws;unfold YF csP;rw[et];exact h1
 .rw[e6]at h2;rw[h2,IY hu]
theorem lM:∀ (l:List Nat) (s:Nat->Ps),l.Nodup->∀i∈l,∀n∈(YF i (s i)).2,n∈(L6 s l).2
 |[],s,_,i,hi,n,_=>by simp at hi
 |j::l,s,hl,i,hi,n,hn=>by
  obtain⟨h1,h2⟩:=List.nodup_cons.1 hl;show n∈(YF j (s j)).2++(L6 (KU s j (fZ j (s j))) l).2;rcases BO.1 hi with e|hi2
  .rw[e]at hn;exact BU.2 (.inl hn)
  .have hne:i≠j:=fun e=>h1 (by rw[<-e];exact hi2);exact BU.2 (.inr (lM l _ h2 i hi2 n (by rw[GH _ _ hne];exact hn)))
def AT0(e:En)(o:Option (List UInt8)):Prop:=match o with
 |some d=>e.t=true/\e.d=d
 |none=>e.t=false
def CaQ(p:Pw)(cl:Int->Prop)(c:Nat)(l:List UInt8)(s:Nat):Prop:=¬cl c->∀e,OV (p.c c).es l=FZ e->(p.s s).up=true/\(⟨(c:Int)+1,1,l⟩:Wa)∈(p.s s).ws/\AT0 e ((JD (NI (p.s s).m (p.s s).dn).ns l).map Nd.d)
def CaH(H:List GI)(cl:Int->Prop):Prop:=∀x∈H,x.o=2->cl (x.s-1)
def uF(cl:Int->Prop)(d:Dd):Int->Prop:=fun c=>cl c\/(d.k=1/\d.q.o=2/\c=d.c)
theorem B91{N:List Nt}{es:List En}{e:En}(h:OV (QX s N es) l=FZ e):OV es l=FZ e/\∀n∈N,n.s=s->n.p=l->n.k=4:=by
 rw[B73]at h;by_cases ht:B68 s N l=true
 .rw[if_pos ht]at h;cases h
 .rw[if_neg ht]at h;refine⟨h,fun n hn e1 e2=>?_⟩;by_cases hk:n.k=4
  .exact hk
  .exact absurd (List.any_eq_true.2 ⟨n,hn,by simp[e1,e2,hk]⟩) ht
section
variable {p:Pw} {d:Dd} {cl:Int->Prop}
theorem B92(h:QY p)(hH:CaH p.H cl):CaH (doP p d).2.H (uF cl d):=by
 have old:CaH p.H (uF cl d):=fun x hx ho=>.inl (hH x hx ho);unfold doP;by_cases hn:300<=p.n
 .rw[if_pos hn];exact old
 rw[if_neg hn];by_cases ha:U0 d≠0
 .rw[if_pos ha];exact old
 rw[if_neg ha];unfold lH;by_cases h1:d.k=1
 .rw[if_pos h1];unfold QO;by_cases hl:ldP (KN p).r=-1
  .rw[if_pos hl];exact old
  rw[if_neg hl];by_cases he:wE (KN p) d≠0
  .rw[if_pos he];exact old
  rw[if_neg he];rcases XI p.r with⟨e,_⟩|⟨b,hb,_,hr⟩
  .exact absurd e hl
  have w:Wr p d b:=⟨hb,hr,by omega,by have:wE (KN p) d=wE p d:=rfl;omega⟩;have hc:=CN9 h1 (by omega);have new:CaH (p.H++[wX p d]) (uF cl d):=fun x hx ho=>by
   rcases BU.1 hx with hx|hx
   .exact old x hx ho
   .rw[List.mem_singleton.1 hx]at ho⊢;rw[(w.fit h).o]at ho;rw[(w.fit h).s];refine .inr ⟨h1,ho,?_⟩;show (p.c d.c.toNat).s-1=d.c;rw[(h.c d.c.toNat (by omega)).s];omega
  by_cases hq:(wL (KN p) d).length<2
  .rw[if_pos hq];exact new
  .rw[if_neg hq];exact new
 rw[if_neg h1];unfold fA TP upW SQ
 repeat' split
 all_goals exact old
theorem C95(h:QY p)(hk:d.k=2)(hw:d.wt=true)(hE:(doP p d).1.E=0\/(doP p d).1.E=7):(0<=d.c/\d.c<16)/\(0<=d.s/\d.s<3)/\CaQ (doP p d).2 (uF cl d) d.c.toNat d.q.p d.s.toNat:=by
 unfold doP at hE⊢;by_cases hn:300<=p.n
 .rw[if_pos hn]at hE;simp[RY]at hE
 rw[if_neg hn]at hE⊢;by_cases ha:U0 d≠0
 .exfalso;rw[if_pos ha]at hE;simp only[RY]at hE;unfold U0 at ha hE;rw[if_neg (by omega),if_pos hk]at ha hE
  split at hE<;>split at ha<;>omega
 rw[if_neg ha]at hE⊢;obtain⟨hc,hs⟩:=BR2 hk (by omega);refine⟨hc,hs,?_⟩;unfold lH at hE⊢;rw[if_neg (by omega),if_pos hk]at hE⊢;unfold fA at hE⊢;by_cases hu:((KN p).s d.s.toNat).up=false
 .rw[if_pos hu]at hE;simp[RY]at hE
 rw[if_neg hu]at hE⊢;by_cases hz:(rTr (KN p) d).z<((KN p).c d.c.toNat).z
 .rw[if_pos hz]at hE;simp[RY]at hE
 rw[if_neg hz,if_neg (by simp[hw])]at hE⊢;by_cases hA:YL ((KN p).s d.s.toNat).ws (rWa (KN p) d)≠0
 .exfalso;rw[if_pos hA]at hE;simp only[RY]at hE;have hg:∀v:Int,v=YL ((KN p).s d.s.toNat).ws (rWa (KN p) d)->v≠0->v≠7:=by
   intro v hv h0;rw[hv];unfold YL rP
   repeat' split
   all_goals omega
  have:=hg _ rfl hA;omega
 rw[if_neg hA];intro _ e he;have hcc:((d.c.toNat:Nat):Int)=d.c:=by omega
 simp only[IC]at he⊢;refine⟨by show ((KN p).s d.s.toNat).up=true;simpa using hu,?_,?_⟩
 .show _∈iL _ _;have hrw:(⟨((d.c.toNat:Nat):Int)+1,1,d.q.p⟩:Wa)=rWa (KN p) d:=by
   show _=(⟨(p.c d.c.toNat).s,1,d.q.p⟩:Wa);rw[(h.c d.c.toNat (by omega)).s]
  rw[hrw];unfold iL;rw[if_neg hA]
  split
  .rename_i hb;exact AD5.1 hb
  .simp
 .have hasc:=(h.c d.c.toNat (by omega)).asc;have hks:=B72 hasc ⟨d.q.p,((rN (KN p) d).getD nd0).d,(rN (KN p) d).isSome⟩;simp only at hks;have he':OV (QM (p.c d.c.toNat).es ⟨d.q.p,((rN (KN p) d).getD nd0).d,(rN (KN p) d).isSome⟩) d.q.p=FZ e:=he;rw[hks]at he'
  cases he'
  show AT0 _ ((JD (NI (p.s d.s.toNat).m (p.s d.s.toNat).dn).ns d.q.p).map Nd.d);have er:rN (KN p) d=JD (NI (p.s d.s.toNat).m (p.s d.s.toNat).dn).ns d.q.p:=rfl;rw[er]
  cases hl:JD (NI (p.s d.s.toNat).m (p.s d.s.toNat).dn).ns d.q.p with
  |none=>simp[AT0,IL]
  |some n=>simp[AT0,IL]
theorem BR4(h:QY p)(hH:CaH p.H cl){c s:Nat}(hc:c<16)(hs:s<3)(hq:CaQ p cl c l s)(h2:¬ (d.k=2/\d.wt=true/\((doP p d).1.E=0\/(doP p d).1.E=7)/\d.c=c/\d.q.p=l))(h3:¬ (d.k=3/\(doP p d).1.E=0/\d.s=s)):CaQ (doP p d).2 (uF cl d) c l s:=by
 have hH2:=B92 (d:=d) h hH;have old:CaQ p (uF cl d) c l s:=fun hn e he=>hq (fun hc=>hn (.inl hc)) e he;unfold doP at h2 h3 hH2⊢;by_cases hn:300<=p.n
 .rw[if_pos hn];exact old
 rw[if_neg hn]at h2 h3 hH2⊢;by_cases ha:U0 d≠0
 .rw[if_pos ha];exact old
 rw[if_neg ha]at h2 h3 hH2⊢;unfold lH at h2 h3 hH2⊢;by_cases k1:d.k=1
 .rw[if_pos k1]at hH2⊢;clear h2 h3;unfold QO at hH2⊢;by_cases hl:ldP (KN p).r=-1
  .rw[if_pos hl];exact old
  rw[if_neg hl]at hH2⊢;by_cases he:wE (KN p) d≠0
  .rw[if_pos he];exact old
  rw[if_neg he]at hH2⊢;rcases XI p.r with⟨e,_⟩|⟨b,hb,_,hr⟩
  .exact absurd e hl
  have w:Wr p d b:=⟨hb,hr,by omega,by have:wE (KN p) d=wE p d:=rfl;omega⟩;have hdn:=(h.s s hs).dn;have tk:(wSv p d s).up=(p.s s).up/\(wSv p d s).ws=(p.s s).ws/\(wSv p d s).dn=(p.s s).dn/\NI (wSv p d s).m (p.s s).dn=NI (p.s s).m (p.s s).dn/\∀x∈(wSv p d s).m,x∈p.H++[wX p d]:=by
   have hist:∀x∈(p.s s).m,x∈p.H:=fun x hx=>h.a.hist s hs x (by rw[LH hs];exact hx);unfold wSv
   split
   .refine⟨rfl,rfl,rfl,bG _ _ hdn,fun x hx=>?_⟩;rcases BU.1 hx with hx|hx
    .exact BU.2 (.inl (hist x hx))
    .exact BU.2 (.inr hx)
   .exact⟨rfl,rfl,rfl,rfl,fun x hx=>BU.2 (.inl (hist x hx))⟩
  obtain⟨t1,t2,t3,t4,t5⟩:=tk;by_cases hL:(wL (KN p) d).length<2
  .rw[if_pos hL];intro hnc e hel;obtain⟨o1,o2,o3⟩:=old hnc e hel;refine⟨t1.trans o1,?_,?_⟩
   .show _∈(wSv p d s).ws;rw[t2];exact o2
   .show AT0 e ((JD (NI (wSv p d s).m (wSv p d s).dn).ns l).map Nd.d);rw[t3,t4];exact o3
  .rw[if_neg hL]at hH2⊢;intro hnc e hel;have CO0:OV (QX (p.c c).s (L6 (wSv p d) (wL p d)).2 (p.c c).es) l=FZ e:=by
    have hel:OV (wCl p d (L6 (wSv p d) (wL p d)).2 c).es l=FZ e:=hel;unfold wCl at hel;by_cases e1:c=d.c.toNat
    .rw[<-e1,IC]at hel;exact hel
    .rw[GH _ _ e1]at hel;exact hel
   obtain⟨h5,h6⟩:=B91 CO0;rw[(h.c c hc).s]at h6;obtain⟨o1,o2,o3⟩:=old hnc e h5;show ((L6 (wSv p d) (wL p d)).1 s).up=true/\_∈((L6 (wSv p d) (wL p d)).1 s).ws/\AT0 e ((JD (NI ((L6 (wSv p d) (wL p d)).1 s).m ((L6 (wSv p d) (wL p d)).1 s).dn).ns l).map Nd.d);rw[AE6];by_cases hS:s<3/\wS p d s=true
   .rw[if_pos hS];have okS:=(w.ok h hs).more (show p.n+1<=300 by omega);obtain⟨c1,c2⟩:=AE8 (i:=s) okS (t1.trans o1) (by rw[t2];exact o2) (fun n hn'=>h6 n (lM _ _ (iP p d) s (bI.2 hS) n hn')) (fun x hx ho e'=>hnc (by
     have:=hH2 x (t5 x hx) ho;rw[e']at this;simpa using this))
    refine⟨t1.trans o1,c1,?_⟩;show AT0 e ((JD (NI (wSv p d s).m (wSv p d s).m.length).ns l).map Nd.d);rw[c2,t3,t4];exact o3
   .rw[if_neg hS];refine⟨t1.trans o1,by rw[t2];exact o2,?_⟩;rw[t3,t4];exact o3
 rw[if_neg k1]at h2 h3 hH2⊢;by_cases k2:d.k=2
 .rw[if_pos k2]at h2⊢;clear h3 hH2;obtain⟨hdc,hds⟩:=BR2 k2 (by omega);unfold fA at h2⊢;by_cases hu:((KN p).s d.s.toNat).up=false
  .rw[if_pos hu];exact old
  rw[if_neg hu]at h2⊢;by_cases hz:(rTr (KN p) d).z<((KN p).c d.c.toNat).z
  .rw[if_pos hz];exact old
  rw[if_neg hz]at h2⊢;by_cases hw:d.wt=false
  .rw[if_pos hw];intro hnc e hel;refine old hnc e ?_;have hel:OV (KU p.c d.c.toNat ⟨(p.c d.c.toNat).s,(rTr (KN p) d).z,(p.c d.c.toNat).es⟩ c).es l=FZ e:=hel;by_cases e1:c=d.c.toNat
   .rw[<-e1,IC]at hel;exact hel
   .rw[GH _ _ e1]at hel;exact hel
  rw[if_neg hw]at h2⊢;by_cases hA:YL ((KN p).s d.s.toNat).ws (rWa (KN p) d)≠0
  .rw[if_pos hA];exact old
  rw[if_neg hA]at h2⊢;have hcode:(A47 (KN p) d).E=0\/(A47 (KN p) d).E=7:=by
   unfold A47;simp only
   split<;>omega
  have hkey:¬ (c=d.c.toNat/\l=d.q.p):=fun⟨e1,e2⟩=>h2 ⟨k2,by simpa using hw,hcode,by omega,e2.symm⟩;intro hnc e hel;have CO0:OV (p.c c).es l=FZ e:=by
   have hel:OV (KU p.c d.c.toNat ⟨(p.c d.c.toNat).s,(rTr (KN p) d).z,QM (p.c d.c.toNat).es ⟨d.q.p,((rN (KN p) d).getD nd0).d,(rN (KN p) d).isSome⟩⟩ c).es l=FZ e:=hel;by_cases e1:c=d.c.toNat
   .rw[<-e1,IC]at hel;simp only at hel;rw[AP2 (h.c c hc).asc _ (fun e2=>hkey ⟨e1,e2⟩)]at hel;exact hel
   .rw[GH _ _ e1]at hel;exact hel
  obtain⟨o1,o2,o3⟩:=old hnc e CO0;show (KU p.s d.s.toNat (pG (p.s d.s.toNat) (rWa (KN p) d)) s).up=true/\_∈(KU p.s d.s.toNat (pG (p.s d.s.toNat) (rWa (KN p) d)) s).ws/\AT0 e ((JD (NI (KU p.s d.s.toNat (pG (p.s d.s.toNat) (rWa (KN p) d)) s).m (KU p.s d.s.toNat (pG (p.s d.s.toNat) (rWa (KN p) d)) s).dn).ns l).map Nd.d);by_cases e1:s=d.s.toNat
  .rw[<-e1,IC];refine⟨o1,?_,o3⟩;show _∈iL (p.s s).ws _;unfold iL;rw[if_neg (by rw[e1];exact hA)]
   split
   .exact o2
   .exact BU.2 (.inl o2)
  .rw[GH _ _ e1];exact⟨o1,o2,o3⟩
 rw[if_neg k2]at h3 hH2⊢;clear h2;by_cases k3:d.k=3
 .rw[if_pos k3]at h3⊢;clear hH2;have hds:=yB (.inl k3) (by omega);unfold TP at h3⊢;by_cases hu:((KN p).s d.s.toNat).up=false
  .rw[if_pos hu];exact old
  rw[if_neg hu]at h3⊢;by_cases hke:d.ke<0
  .rw[if_pos hke];exact old
  rw[if_neg hke]at h3⊢;have hne:s≠d.s.toNat:=fun e1=>h3 ⟨k3,rfl,by omega⟩;intro hnc e hel;obtain⟨o1,o2,o3⟩:=old hnc e hel;show (KU p.s d.s.toNat (MQ (p.s d.s.toNat) d.ke.toNat) s).up=true/\_∈(KU p.s d.s.toNat (MQ (p.s d.s.toNat) d.ke.toNat) s).ws/\AT0 e ((JD (NI (KU p.s d.s.toNat (MQ (p.s d.s.toNat) d.ke.toNat) s).m (KU p.s d.s.toNat (MQ (p.s d.s.toNat) d.ke.toNat) s).dn).ns l).map Nd.d);rw[GH _ _ hne];exact⟨o1,o2,o3⟩
 rw[if_neg k3]at hH2⊢;clear h3;by_cases k4:d.k=4
 .rw[if_pos k4];unfold upW;by_cases hu:((KN p).s d.s.toNat).up=true
  .rw[if_pos hu];exact old
  rw[if_neg hu];intro hnc e hel;obtain⟨o1,o2,o3⟩:=old hnc e hel;have hne:s≠d.s.toNat:=by
   intro e1;rw[e1]at o1;exact hu o1
  show (KU p.s d.s.toNat (upP (p.s d.s.toNat)) s).up=true/\_∈(KU p.s d.s.toNat (upP (p.s d.s.toNat)) s).ws/\AT0 e ((JD (NI (KU p.s d.s.toNat (upP (p.s d.s.toNat)) s).m (KU p.s d.s.toNat (upP (p.s d.s.toNat)) s).dn).ns l).map Nd.d);rw[GH _ _ hne];exact⟨o1,o2,o3⟩
 rw[if_neg k4]at hH2⊢;unfold SQ at hH2⊢;by_cases hq2:(JQ (KN p).s).length<2
 .rw[if_pos hq2];exact old
 rw[if_neg hq2]at hH2⊢;by_cases hb:A46 (KN p).s=true
 .rw[if_pos hb];exact old
 rw[if_neg hb]at hH2⊢;have hb':A46 p.s=false:=by
  have:¬A46 p.s=true:=hb;simpa using this
 obtain⟨hb3,hbu⟩:=KJ.1 (AE5 (s:=p.s) (Nat.le_of_not_lt hq2));have hN:=BQ9 h;have hn0:=h.n0;intro hnc e hel;have CO0:OV (QX (p.c c).s (L6 (eS p.s) (JQ p.s)).2 (p.c c).es) l=FZ e:=hel;obtain⟨h5,h6⟩:=B91 CO0;rw[(h.c c hc).s]at h6;obtain⟨o1,o2,o3⟩:=old hnc e h5;have hsu:s∈JQ p.s:=KJ.2 ⟨hs,o1⟩;have es:eS p.s s=pF (eN p.s) (p.s (eB p.s)).m (p.s s):=by rw[eS,if_pos ⟨o1,hs⟩]
 have hdn:=A50 hb' hsu;have okF:LX 300 (pF (eN p.s) (p.s (eB p.s)).m (p.s s)):=
  (BZ4 ((h.s s hs).more (show p.n<=p.n+1 by omega)) ((h.s _ hb3).more (show p.n<=p.n+1 by omega)) (by omega) hN.1 (BM hdn (VE _ _).2)).more (by omega)
 have hist:∀k,k<3->∀x∈(p.s k).m,x∈p.H:=fun k hk x hx=>h.a.hist k hk x (by rw[LH hk];exact hx);have et:NI (p.s (eB p.s)).m (p.s s).dn=NI (p.s s).m (p.s s).dn:=by
  have hsame:=AE2 (a:=(p.s s).m) (b:=(p.s (eB p.s)).m) (fun x hx y hy e=>h.a.one x (hist s hs x hx) y (hist _ hb3 y hy) e);rw[<-XJ (p.s (eB p.s)).m hdn,<-hsame,XJ _ hdn]
 show ((L6 (eS p.s) (JQ p.s)).1 s).up=true/\_∈((L6 (eS p.s) (JQ p.s)).1 s).ws/\AT0 e ((JD (NI ((L6 (eS p.s) (JQ p.s)).1 s).m ((L6 (eS p.s) (JQ p.s)).1 s).dn).ns l).map Nd.d);rw[fB _ _ _ (QS _),if_pos hsu,es];obtain⟨c1,c2⟩:=AE8 (i:=s) (q:=pF (eN p.s) (p.s (eB p.s)).m (p.s s)) okF rfl (l:=l) o2 (fun n hn'=>h6 n (lM _ _ (QS _) s hsu n (by rw[es];exact hn'))) (fun x hx ho e'=>hnc (by
  have:=hH2 x (hist _ hb3 x hx) ho;rw[e']at this;simpa using this))
 refine⟨rfl,c1,?_⟩;show AT0 e ((JD (NI (p.s (eB p.s)).m (p.s (eB p.s)).m.length).ns l).map Nd.d);have c2':(JD (NI (p.s (eB p.s)).m (p.s (eB p.s)).m.length).ns l).map Nd.d=(JD (NI (p.s (eB p.s)).m (p.s s).dn).ns l).map Nd.d:=c2;rw[c2',et];exact o3
end
open Go.WideMaps Go.ChangeMaps Go.MapKept Go.Maps
structure dI(W:FU)(b:Nat)(es:Array MapEntry)(clock:Nat):Prop where
 h:W.heap[b]?=FZ (.map es clock)
 st:Stamped es clock
section
variable {W V:FU} {b r:Nat} {es:Array MapEntry} {clock:Nat}
theorem dI.lt(h:dI W b es clock):b<W.heap.size:=(AB.1 h.h).1
theorem dI.touch(h:dI W b es clock)(ht:Touch F W V)(hb:¬F b):dI V b es clock:=⟨(ht.block b h.lt hb).trans h.h,h.st⟩
theorem dI.next(h:dI W b es clock)(hb:B0 W V):dI V b es clock:=⟨(hb.block b h.lt).trans h.h,h.st⟩
structure ZK(W:FU)(b r:Nat)(es:Array MapEntry)(seen:Array Nat):Prop where
 m:∃clock,dI W b es clock/\∃since c0,W.heap[r]?=FZ (.mapIter (FZ b) since seen c0)/\(∀x∈es.toList,x.born<since)/\since<=c0/\since<=clock
theorem ZK.lt(h:ZK W b r es seen):b<W.heap.size/\r<W.heap.size:=by
 obtain⟨cl,hm,si,c0,hr,_⟩:=h.m;exact⟨hm.lt,(AB.1 hr).1⟩
theorem ZK.ne(h:ZK W b r es seen):r≠b:=by
 obtain⟨cl,hm,si,c0,hr,_⟩:=h.m;rintro rfl;rw[hm.h]at hr
 cases hr
theorem ZK.touch(h:ZK W b r es seen)(ht:Touch F W V)(hb:¬F b)(hr:¬F r):ZK V b r es seen:=by
 have hl:=h.lt;obtain⟨cl,hm,si,c0,hr',e⟩:=h.m;exact⟨cl,hm.touch ht hb,si,c0,(ht.block r hl.2 hr).trans hr',e⟩
theorem ZK.next(h:ZK W b r es seen)(hb:B0 W V):ZK V b r es seen:=h.touch (F:=fun _=>False) (Touch.of_below hb) id id
end
section
variable {P:Program} {T K E:TypeId} {W:FU} {b:Nat} {es:Array MapEntry} {clock:Nat}
def A51(P:Program)(K:TypeId)(es:Array MapEntry):Prop:=∀x∈es.toList,∃l,keyOf P K x.key=FZ l
theorem dI.look(h:dI W b es clock)(law:Go.Maps.Keyed P K)(ht:P.underlying T=FZ (.map K E)){z:FV}(hz:(zeroValue E).run P W=.ok z W)(hq:A51 P K es){l:Lit}(hk:keyOf P K key=FZ l):
  ((∀x∈es.toList,x.key≠key)/\(Instr.lookup T (.map (FZ b)) key true).run P W=.ok (.tuple #[z,.bool false]) W/\(Instr.lookup T (.map (FZ b)) key false).run P W=.ok z W)\/
  ∃x∈es.toList,x.key=key/\(Instr.lookup T (.map (FZ b)) key true).run P W=.ok (.tuple #[x.val,.bool true]) W/\(Instr.lookup T (.map (FZ b)) key false).run P W=.ok x.val W:=by
 rcases law.find W hk es.toList hq with⟨h1,h2⟩|⟨j,e0,h1,h3,h4⟩
 .exact .inl ⟨h2,by simp[Instr.lookup,run_underlying ht,MapKept.run_getObj_map h.h,law.check W _ hk,h1,hz,Result.andThen],by simp[Instr.lookup,run_underlying ht,MapKept.run_getObj_map h.h,law.check W _ hk,h1,hz,Result.andThen]⟩
 .exact .inr ⟨e0,AZ h3,h4,by simp[Instr.lookup,run_underlying ht,MapKept.run_getObj_map h.h,law.check W _ hk,h1,Result.andThen],by simp[Instr.lookup,run_underlying ht,MapKept.run_getObj_map h.h,law.check W _ hk,h1,Result.andThen]⟩
structure PutS(es es':Array MapEntry)(key vx:FV):Prop where
 old:∀x∈es'.toList,(x∈es.toList/\x.key≠key)\/(x.key=key/\x.val=vx)
 keep:∀x∈es.toList,x.key≠key->x∈es'.toList
 new:∃x∈es'.toList,x.key=key
theorem dI.put(h:dI W b es clock)(law:Go.Maps.Keyed P K)(ht:P.underlying T=FZ (.map K E))(hq:A51 P K es){vx:FV}{l:Lit}(hk:keyOf P K key=FZ l):
  ∃es' clock',(Instr.mapUpdate T (.map (FZ b)) key vx).run P W=.ok () (setBlock W b (.map es' clock'))/\dI (setBlock W b (.map es' clock')) b es' clock'/\PutS es es' key vx:=by
 rcases law.find W hk es.toList hq with⟨h1,h2⟩|⟨j,e0,h1,h3,h4⟩
 .refine⟨es.push ⟨key,vx,clock⟩,clock+1,?_,⟨heap_setBlock_same h.h _,stamped_push h.st h2⟩,⟨fun x hx=>?_,fun x hx _=>?_,⟨key,vx,clock⟩,by simp,rfl⟩⟩
  .simp[Instr.mapUpdate,run_underlying ht,MapKept.run_getObj_map h.h,law.check W false hk,h1,MapKept.run_setObj_map _ h.h,Result.andThen,setBlock]
  .simp only[Array.toList_push,BU,List.mem_singleton]at hx;rcases hx with hx|rfl
   .exact .inl ⟨hx,h2 x hx⟩
   .exact .inr ⟨rfl,rfl⟩
  .simp only[Array.toList_push,BU];exact .inl hx
 .have hj:es[j]?=FZ e0:=by simpa using h3
  have hjl:=(AU.1 h3).1;have hp:=((stamped_iff es clock).1 h.st).2.2;have hother:∀i x,i≠j->es.toList[i]?=FZ x->x.key≠key:=fun i x hij hx=>by
   have hil:=(AU.1 hx).1;have e1:=(AU.1 hx).2;have e2:=(AU.1 h3).2;have hpp:=List.pairwise_iff_getElem.1 hp;rw[<-e1,<-h4,<-e2];rcases Nat.lt_or_gt_of_ne hij with hlt|hgt
   .exact hpp i j hil hjl hlt
   .exact fun e=>hpp j i hjl hil hgt e.symm
  refine⟨es.modify j (fun e'=>⟨key,vx,e'.born⟩),clock,?_,⟨heap_setBlock_same h.h _,stamped_modify h.st j _ (fun _ _=>rfl) (fun e _ he=>by rw[hj]at he;cases he;exact h4.symm)⟩,⟨fun x hx=>?_,fun x hx hne=>?_,⟨key,vx,e0.born⟩,?_,rfl⟩⟩
  .simp[Instr.mapUpdate,run_underlying ht,MapKept.run_getObj_map h.h,law.check W false hk,h1,hj,h4,law.stays W hk,MapKept.run_setObj_map _ h.h,Result.andThen,setBlock]
  .rw[Array.toList_modify]at hx;obtain⟨i,hi⟩:=List.getElem?_of_mem hx;rw[List.getElem?_modify]at hi;by_cases e:j=i
   .subst e;rw[h3]at hi;simp at hi;exact .inr (by rw[<-hi];exact⟨rfl,rfl⟩)
   .obtain⟨y,hy,hyx⟩:=Option.map_eq_some_iff.1 hi;rw[if_neg e]at hyx;subst hyx;exact .inl ⟨AZ hy,hother i _ (fun e'=>e e'.symm) hy⟩
  .obtain⟨i,hi⟩:=List.getElem?_of_mem hx;have hij:j≠i:=by
    rintro rfl;rw[h3]at hi
    cases hi
    exact hne h4
   rw[Array.toList_modify];refine AZ (i:=i) ?_;rw[List.getElem?_modify,hi];simp[hij]
  .rw[Array.toList_modify];refine AZ (i:=j) ?_;rw[List.getElem?_modify,h3];simp
theorem dI.drop(h:dI W b es clock)(law:Go.Maps.Keyed P K)(ht:P.underlying T=FZ (.map K E))(hq:A51 P K es)(ty:TypeId){l:Lit}(hk:keyOf P K key=FZ l):
  ∃es',(Builtin.delete_ #[T,K] ty #[.map (FZ b),key]).run P W=.ok (.tuple #[]) (setBlock W b (.map es' clock))/\dI (setBlock W b (.map es' clock)) b es' clock/\es'.toList.Sublist es.toList/\∀x∈es'.toList,x.key≠key:=by
 rcases law.find W hk es.toList hq with⟨h1,h2⟩|⟨j,e0,h1,h3,h4⟩
 .refine⟨es,?_,⟨heap_setBlock_same h.h _,h.st⟩,List.Sublist.refl _,h2⟩;simp[Builtin.delete_,run_underlying ht,MapKept.run_getObj_map h.h,law.check W _ hk,h1,MapKept.run_setObj_map _ h.h,Result.andThen,setBlock]
 .have hjl:j<es.toList.length:=(AU.1 h3).1;have hjs:j<es.size:=by simpa using hjl
  have hsub:(es.eraseIdxIfInBounds j).toList=es.toList.eraseIdx j:=by
   unfold Array.eraseIdxIfInBounds;rw[dif_pos hjs];simp
  have hp:=((stamped_iff es clock).1 h.st).2.2;refine⟨es.eraseIdxIfInBounds j,?_,⟨heap_setBlock_same h.h _,stamped_erase h.st j⟩,by rw[hsub];exact List.eraseIdx_sublist _ _,fun x hx=>?_⟩
  .simp[Builtin.delete_,run_underlying ht,MapKept.run_getObj_map h.h,law.check W _ hk,h1,MapKept.run_setObj_map _ h.h,Result.andThen,setBlock]
  .rw[hsub,List.mem_eraseIdx_iff_getElem?]at hx;obtain⟨i,hij,hi⟩:=hx;have hil:=(AU.1 hi).1;have e1:=(AU.1 hi).2;have e2:=(AU.1 h3).2;have hpp:=List.pairwise_iff_getElem.1 hp;rw[<-e1,<-h4,<-e2];rcases Nat.lt_or_gt_of_ne hij with hlt|hgt
   .exact hpp i j hil hjl hlt
   .exact fun e=>hpp j i hjl hil hgt e.symm
theorem AE9(es:Array MapEntry)(seen:Array Nat):(leftOf es seen).size=(es.toList.filter fun e=> !seen.contains e.born).length:=by
 unfold leftOf;rw[<-Array.toList_filter,Array.length_toList]
theorem BR5{es es':Array MapEntry}(seen:Array Nat)(h:es'.toList.Sublist es.toList):(leftOf es' seen).size<=(leftOf es seen).size:=by
 rw[AE9,AE9];exact(h.filter _).length_le
theorem dI.range(h:dI W b es clock)(ht:P.underlying T=FZ (.map K E)):
  (Instr.range T (.map (FZ b))).run P W=.ok (.pointer (FZ ⟨W.heap.size,0,FX⟩)) (W.alloc (.mapIter (FZ b) clock #[] clock))/\ZK (W.alloc (.mapIter (FZ b) clock #[] clock)) b W.heap.size es #[]:=
 ⟨run_range_map W T K E b es clock ht h.h,⟨clock,h.next (G7 _ _),clock,clock,heap_alloc_new W _,h.st.1,A8 _,A8 _⟩⟩
theorem ZK.drop{r:Nat}(h:ZK W b r es seen)(law:Go.Maps.Keyed P K)(ht:P.underlying T=FZ (.map K E))(hq:A51 P K es)(ty:TypeId){l:Lit}(hk:keyOf P K key=FZ l):
  ∃es' clock,(Builtin.delete_ #[T,K] ty #[.map (FZ b),key]).run P W=.ok (.tuple #[]) (setBlock W b (.map es' clock))/\ZK (setBlock W b (.map es' clock)) b r es' seen/\es'.toList.Sublist es.toList/\∀x∈es'.toList,x.key≠key:=by
 have hne:=h.ne;obtain⟨cl,hm,si,c0,hr,h1,h2,h3⟩:=h.m;obtain⟨es',e1,e2,e3,e4⟩:=hm.drop law ht hq ty hk;exact⟨es',cl,e1,⟨cl,e2,si,c0,(heap_setBlock_other hm.h _ hne).trans hr,fun x hx=>h1 x (e3.subset hx),h2,h3⟩,e3,e4⟩
theorem ZK.step{r:Nat}(h:ZK W b r es seen)(ty:TypeId):
  ((leftOf es seen).size=0/\(Instr.next (P0 r) false ty).run P W=.ok (.tuple #[.bool false]) W)\/
  ∃x∈es.toList,∃W',seen.contains x.born=false/\(Instr.next (P0 r) false ty).run P W=.ok (.tuple #[.bool true,x.key,x.val]) W'/\ZK W' b r es (seen.push x.born)/\(leftOf es (seen.push x.born)).size<(leftOf es seen).size/\Touch (· =r) W W'/\
   (Instr.entry (P0 r)).run P W'=.ok (.tuple #[x.key,x.val]) W':=by
 have hne:=h.ne;obtain⟨cl,hm,si,c0,hr,h1,h2,h3⟩:=h.m;rcases run_next_at (P:=P) W ty r b si c0 seen es cl hr hm.h h1 h2 with⟨h0,hrun⟩|⟨e,he,w1,hal,hrun⟩
 .exact .inl ⟨h0,hrun⟩
 .obtain⟨hem,hes⟩:=mem_left he;have hr1:w1.heap[r]?=FZ (.mapIter (FZ b) si seen c0):=by rcases hal with rfl|rfl<;>exact hr
  have hb1:w1.heap[b]?=FZ (.map es cl):=by rcases hal with rfl|rfl<;>exact hm.h
  have hset:=heap_set (o':=.mapIter (FZ b) si (seen.push e.born) cl) hr1;have hb':(setBlock w1 r (.mapIter (FZ b) si (seen.push e.born) cl)).heap[b]?=FZ (.map es cl):=(hset.2 b (fun e1=>hne e1.symm)).trans hb1;refine .inr ⟨e,hem,_,hes,hrun,⟨cl,⟨hb',hm.st⟩,si,cl,hset.1,h1,h3,h3⟩,left_shrinks es seen e he,?_,run_entry_at _ r b si seen es cl e hset.1 hb' hem ((stamped_iff es cl).1 hm.st).2.1⟩;rcases hal with rfl|rfl<;>exact⟨rfl,rfl,rfl,by simp[setBlock],fun i _ hi=>hset.2 i hi⟩
end
structure BegS(W V:FU)(b:Nat)(es:Array MapEntry):Prop where
 g:ZK V b W.heap.size es #[]
 b:B0 W V
structure EndS(es:Array MapEntry)(seen:Array Nat):Prop where
 h:(leftOf es seen).size=0
structure CX7(W V:FU)(b r:Nat)(es:Array MapEntry)(seen:Array Nat)(x:MapEntry):Prop where
 hx:x∈es.toList
 g:ZK V b r es (seen.push x.born)
 l:(leftOf es (seen.push x.born)).size<(leftOf es seen).size
 t:Touch (· =r) W V
structure CX8(W V:FU)(b r:Nat)(es es':Array MapEntry)(seen:Array Nat)(key:FV):Prop where
 g:ZK V b r es' seen
 s:es'.toList.Sublist es.toList
 k:∀y∈es'.toList,y.key≠key
 t:Touch (· =b) W V
section
variable {P:Program} (w:FU) {ops:Array Oper} {rest:List Oper} {o:Oper} {a:Act} {Q:Exit->Act->FU->Prop}
theorem bM(hg:o.guard=FX)(m:Operand)(T:TypeId)(hop:o.op=Op.range T m)(K E:TypeId)(ht:P.underlying T=FZ (.map K E))(b:Nat){es:Array MapEntry}{clock:Nat}(hm:a.eval m=.map (FZ b))(h:dI w b es clock)
  (hK:∀w',BegS w w' b es->wpList P ops Q rest (a.put o.dst (.pointer (FZ ⟨w.heap.size,0,FX⟩))) w'):wpList P ops Q (o::rest) a w:=by
 refine wpList_plain hg fun K' hK'=>?_;obtain⟨h1,h2⟩:=h.range (P:=P) ht;unfold Oper.wp;simp[execOp,hop,hm,h1,Result.andThen];exact hK' _ _ (hK _ ⟨h2,G7 _ _⟩)
theorem XL(hg:o.guard=FX)(it:Operand)(hop:o.op=Op.next it false)(b r:Nat){es:Array MapEntry}{seen:Array Nat}(hit:a.eval it=P0 r)(h:ZK w b r es seen)
  (hDone:EndS es seen->wpList P ops Q rest (a.put o.dst (.tuple #[.bool false])) w)
  (hMore:∀ (x:MapEntry) (w':FU),CX7 w w' b r es seen x->(Instr.entry (P0 r)).run P w'=.ok (.tuple #[x.key,x.val]) w'->wpList P ops Q rest (a.put o.dst (.tuple #[.bool true,x.key,x.val])) w'):
  wpList P ops Q (o::rest) a w:=by
 refine wpList_plain hg fun K' hK'=>?_;unfold Oper.wp;rcases h.step (P:=P) o.type with⟨h0,hrun⟩|⟨x,hx,w',h1,hrun,h2,h3,h4,h5⟩
 .simp[execOp,hop,hit,hrun,Result.andThen];exact hK' _ _ (hDone ⟨h0⟩)
 .simp[execOp,hop,hit,hrun,Result.andThen];exact hK' _ _ (hMore x w' ⟨hx,h2,h3,h4⟩ h5)
theorem nC(hg:o.guard=FX)(m x:Operand)(T K:TypeId)(hop:o.op=Op.call {callee:=Callee.builtin Builtin.delete,args:=#[m,x],argTypes:=#[T,K]})(E:TypeId)(law:Go.Maps.Keyed P K)(ht:P.underlying T=FZ (.map K E))
  (b r:Nat) {es:Array MapEntry} {seen:Array Nat} (hm:a.eval m=.map (FZ b)) (h:ZK w b r es seen) (hq:A51 P K es) (key:FV) (l:Lit) (hx:a.eval x=key) (hkey:keyOf P K key=FZ l)
  (hK:∀w' es',CX8 w w' b r es es' seen key->wpList P ops Q rest (a.put o.dst (.tuple #[])) w'):wpList P ops Q (o::rest) a w:=by
 refine wpList_plain hg fun K' hK'=>?_;have hb:=h.lt.1;obtain⟨es',cl,hrun,h1,h2,h3⟩:=h.drop law ht hq o.type hkey;unfold Oper.wp;simp[execOp,hop,resolve,invoke,builtin,hm,hx,hrun,Result.andThen];exact hK' _ _ (hK _ es' ⟨h1,h2,h3,⟨rfl,rfl,rfl,by simp[setBlock],fun i _ hn=>by simp only[setBlock];rw[Array.getElem?_setIfInBounds_ne (fun e=>hn e.symm)]⟩⟩)
end
def WB(W:FU)(k:Nat)(f:Nat->FV):Prop:=∃c:Array FV,W.heap[k]?=FZ (.cells c 84 (0,0))/\c.size=83/\∀j,j<83->c[j]?=FZ (f j)
section
variable {W V:FU} {k j:Nat} {f:Nat->FV}
theorem WB.lt(h:WB W k f):k<W.heap.size:=by
 obtain⟨c,h1,_⟩:=h;exact(AB.1 h1).1
theorem WB.cell(h:WB W k f)(hj:j<83):W.cell? ⟨k,j,FX⟩=FZ (f j):=by
 obtain⟨c,h1,_,h3⟩:=h;simp[AV,h1,h3 j hj]
theorem WB.GN(h:WB W k f)(j:Nat):W.frozen? ⟨k,j,FX⟩=false:=by
 obtain⟨c,h1,_⟩:=h;simp[F7,h1]
theorem WB.touch(h:WB W k f)(ht:Touch F W V)(hk:¬F k):WB V k f:=by
 obtain⟨c,h1,h2,h3⟩:=h;exact⟨c,(ht.block k (AB.1 h1).1 hk).trans h1,h2,h3⟩
theorem WB.next(h:WB W k f)(hb:B0 W V):WB V k f:=h.touch (F:=fun _=>False) (Touch.of_below hb) id
theorem WB.set(h:WB W k f)(hj:j<83)(v:FV):WB (W.setCell ⟨k,j,FX⟩ v) k (KU f j v):=by
 obtain⟨c,h1,h2,h3⟩:=h;refine⟨c.setIfInBounds j v,GL v h1,by simp[h2],fun i hi=>?_⟩;rw[Array.getElem?_setIfInBounds];by_cases e:j=i
 .subst e;simp[h2,hj,IC]
 .rw[if_neg e,GH _ _ (fun h=>e h.symm)];exact h3 i hi
theorem WB.of_eq{g:Nat->FV}(h:WB W k f)(he:∀j,j<83->f j=g j):WB W k g:=by
 obtain⟨c,h1,h2,h3⟩:=h;exact⟨c,h1,h2,fun j hj=>by rw[h3 j hj,he j hj]⟩
theorem WB.gU(h:WB W k f)(hs:∀j,j<83->∀s,f j≠ .string s):dH W k:=by
 obtain⟨c,h1,h2,h3⟩:=h;refine⟨c,_,h1,fun j s hj=>?_⟩;have hlt:=(AB.1 hj).1;rw[h3 j (by omega)]at hj;exact hs j (by omega) s (Option.some.inj hj)
end
def Row{α:Type}[Lay α](W:FU)(k:Nat)(v:FV)(xs:List α):Prop:=IQ W v xs/\(xs≠[]->UG v k)
section
variable {α:Type} [Lay α] {W V:FU} {k:Nat} {v:FV} {xs:List α}
theorem Row.next(h:Row W k v xs)(hb:B0 W V):Row V k v xs:=⟨h.1.next hb,h.2⟩
theorem Row.touch(h:Row W k v xs)(ht:Touch (· =k) W V):Row V k v xs:=by
 refine⟨?_,h.2⟩;rcases h.1 with h1|⟨b,off,cap,rfl,h1,h2,h3,h0,h4⟩
 .exact .inl h1
 .refine .inr ⟨b,off,cap,rfl,h1,h2,Nat.lt_of_lt_of_le h3 ht.size,h0,fun i v hi=>?_⟩;have hb:b≠k:=h.2 h0 b off _ cap rfl;rw[AV,ht.block b h3 hb];exact h4 i v hi
theorem Row.new(h:IQ W v xs)(hk:W.heap.size<=k):Row W k v xs:=by
 refine⟨h,fun h0 b off n c e=>?_⟩;rcases h with⟨a,cap,_,e0,_⟩|⟨b',off',cap,rfl,_,_,h3,_,_⟩
 .exact absurd e0 h0
 .simp only[Value.slice.injEq,Option.some.injEq,Addr.mk.injEq]at e;omega
theorem Row.own{B:Nat}(h:GZ W B v xs)(hk:k<B):Row W k v xs:=⟨h.seq,fun _=>YB h hk⟩
theorem Row.slice(h:Row W k v xs):∃a c,v=FQ a xs.length c:=GK h.1
theorem Row.nil(W:FU)(k:Nat)(c:Nat)(hc:c<=maxLen)(a:Option Addr):Row W k (FQ a 0 c) ([]:List α):=⟨.inl ⟨a,c,rfl,rfl,hc⟩,fun h=>absurd rfl h⟩
theorem XM{q:Nat}(hq:q<Lay.k α)(ht:∀x:α,∃s,(Lay.cs x)[q]?=FZ (Value.string s))(h:IQ W v xs)(hk:dH W k):Row W k v xs:=by
 refine⟨h,fun h0 b off n c e=>?_⟩;rcases h with⟨a,cap,_,e0,_⟩|⟨b',off',cap,rfl,_,_,h3,_,h4⟩
 .exact absurd e0 h0
 .simp only[Value.slice.injEq,Option.some.injEq,Addr.mk.injEq]at e;rintro rfl;obtain⟨x,r,rfl⟩:=List.exists_cons_of_ne_nil h0;obtain⟨s,hs⟩:=ht x;have:=h4 (0*Lay.k α+q) _ ((GV (x::r) 0 x rfl q hq).trans hs);rw[e.1.1]at this;exact hk.no this
end
theorem AF0{xs:List DF}(h:IU W v xs)(hk:dH W k):Row W k v xs:=XM (q:=0) (by decide) (fun x=>⟨_,rfl⟩) (TK.2 h) hk
theorem lN{xs:List GI}(h:NV W v xs)(hk:dH W k):Row W k v xs:=XM (q:=3) (by decide) (fun x=>⟨_,rfl⟩) (OG.2 h) hk
theorem yC{xs:List Nd}(h:IQ W v xs)(hk:dH W k):Row W k v xs:=XM (q:=0) (by decide) (fun x=>⟨_,rfl⟩) h hk
theorem VH{xs:List Wa}(h:IQ W v xs)(hk:dH W k):Row W k v xs:=XM (q:=2) (by decide) (fun x=>⟨_,rfl⟩) h hk
theorem bQ{xs:List En}(h:IQ W v xs)(hk:dH W k):Row W k v xs:=XM (q:=0) (by decide) (fun x=>⟨_,rfl⟩) h hk
structure SvA(W:FU)(k:Nat)(g:Nat->FV)(s:Sv):Prop where
 up:g 0=.bool s.up
 d:Row W k (g 1) s.fs
 id:g 2=I0 s.id
 ep:g 3=I0 s.ep
 l:Row W k (g 4) s.ts
 dn:g 5=I0 s.dn
 z:g 6=I0 s.tr.z
 n:Row W k (g 7) s.tr.ns
 i:Row W k (g 8) s.tr.ss
 w:Row W k (g 9) s.ws
section
variable {W V:FU} {k:Nat} {g:Nat->FV} {s:Sv}
theorem SvA.next(h:SvA W k g s)(hb:B0 W V):SvA V k g s:=⟨h.up,h.d.next hb,h.id,h.ep,h.l.next hb,h.dn,h.z,h.n.next hb,h.i.next hb,h.w.next hb⟩
theorem SvA.touch(h:SvA W k g s)(ht:Touch (· =k) W V):SvA V k g s:=⟨h.up,h.d.touch ht,h.id,h.ep,h.l.touch ht,h.dn,h.z,h.n.touch ht,h.i.touch ht,h.w.touch ht⟩
theorem SvA.val(h:SvA W k g s):SvV W (.agg #[g 0,g 1,g 2,g 3,g 4,g 5,g 6,g 7,g 8,g 9]) s:=by
 rw[h.up,h.id,h.ep,h.dn,h.z];exact⟨_,_,_,_,_,rfl,TK.1 h.d.1,OG.1 h.l.1,h.n.1,h.i.1,h.w.1⟩
theorem SvA.moved{q:Nat}(h:SvA W k g s)(hq:W.heap.size<=q):SvA W q g s:=⟨h.up,Row.new h.d.1 hq,h.id,h.ep,Row.new h.l.1 hq,h.dn,h.z,Row.new h.n.1 hq,Row.new h.i.1 hq,Row.new h.w.1 hq⟩
theorem SvA.cellP{P:FV->Prop}(hb:∀b,P (.bool b))(hn:∀n,P (I0 n))(hs:∀a n c,P (FQ a n c))(h:SvA W k g s)(j:Nat)(hj:j<10):P (g j):=by
 have r:∀ {α:Type} [Lay α] {v:FV} {xs:List α},Row W k v xs->P v:=fun h=>by obtain⟨a,c,e⟩:=h.slice;rw[e];exact hs _ _ _
 rcases(show j=0\/j=1\/j=2\/j=3\/j=4\/j=5\/j=6\/j=7\/j=8\/j=9 by omega)with rfl|rfl|rfl|rfl|rfl|rfl|rfl|rfl|rfl|rfl
 .rw[h.up];exact hb _
 .exact r h.d
 .rw[h.id];exact hn _
 .rw[h.ep];exact hn _
 .exact r h.l
 .rw[h.dn];exact hn _
 .rw[h.z];exact hn _
 .exact r h.n
 .exact r h.i
 .exact r h.w
theorem SvA.of{vd vl vn vs vw:FV}(hk:dH W k)(hv:SvV W (.agg #[.bool s.up,vd,I0 s.id,I0 s.ep,vl,I0 s.dn,I0 s.tr.z,vn,vs,vw]) s)(hs:s.tr.ss≠[]->UG vs k)
  (h0:g 0=.bool s.up) (h1:g 1=vd) (h2:g 2=I0 s.id) (h3:g 3=I0 s.ep) (h4:g 4=vl) (h5:g 5=I0 s.dn) (h6:g 6=I0 s.tr.z) (h7:g 7=vn) (h8:g 8=vs) (h9:g 9=vw):SvA W k g s:=by
 obtain⟨vd',vl',vn',vs',vw',e,r1,r2,r3,r4,r5⟩:=hv;simp only[Value.agg.injEq,Array.mk.injEq,List.cons.injEq,true_and,and_true]at e;obtain⟨rfl,rfl,rfl,rfl,rfl⟩:=e;exact⟨h0,by rw[h1];exact AF0 r1 hk,h2,h3,by rw[h4];exact lN r2 hk,h5,h6,by rw[h7];exact yC r3 hk,by rw[h8];exact⟨r4,hs⟩,by rw[h9];exact VH r5 hk⟩
end
structure ClA(W:FU)(k:Nat)(g:Nat->FV)(c:Cl):Prop where
 s:g 0=I0 c.s
 z:g 1=I0 c.z
 e:Row W k (g 2) c.es
structure WdR(W:FU)(k:Nat)(f:Nat->FV)(p:Pw):Prop where
 n:f 0=I0 p.n
 s:∀i,i<3->SvA W k (fun q=>f (1+10*i+q)) (svP i (p.s i))
 r:∀i,i<3->f (31+i)=I0 (p.r i)
 c:∀i,i<16->ClA W k (fun q=>f (34+3*i+q)) (p.c i)
 d:Row W k (f 82) p.D
 h:∀i,i<3->(svP i (p.s i)).tr.ss≠[]->∀b,b<=p.h->UG (f (1+10*i+8)) b
 hk:p.h<=k
def WX(W:FU)(k:Nat)(p:Pw):Prop:=∃f,WB W k f/\WdR W k f p
section
variable {W V:FU} {k:Nat} {f:Nat->FV} {p:Pw}
theorem WdR.next(h:WdR W k f p)(hb:B0 W V):WdR V k f p:=
 ⟨h.n,fun i hi=>(h.s i hi).next hb,h.r,fun i hi=>⟨(h.c i hi).s,(h.c i hi).z,(h.c i hi).e.next hb⟩,h.d.next hb,h.h,h.hk⟩
theorem WdR.touch(h:WdR W k f p)(ht:Touch (· =k) W V):WdR V k f p:=
 ⟨h.n,fun i hi=>(h.s i hi).touch ht,h.r,fun i hi=>⟨(h.c i hi).s,(h.c i hi).z,(h.c i hi).e.touch ht⟩,h.d.touch ht,h.h,h.hk⟩
theorem WdR.moved{q:Nat}(h:WdR W k f p)(hq:W.heap.size<=q)(hk:p.h<=q):WdR W q f p:=
 ⟨h.n,fun i hi=>(h.s i hi).moved hq,h.r,fun i hi=>⟨(h.c i hi).s,(h.c i hi).z,Row.new (h.c i hi).e.1 hq⟩,Row.new h.d.1 hq,h.h,hk⟩
theorem WX.next(h:WX W k p)(hb:B0 W V):WX V k p:=by
 obtain⟨f,h1,h2⟩:=h;exact⟨f,h1.next hb,h2.next hb⟩
theorem WX.lt(h:WX W k p):k<W.heap.size:=by
 obtain⟨f,h1,_⟩:=h;exact h1.lt
theorem WdR.cellP{P:FV->Prop}(hb:∀b,P (.bool b))(hn:∀n,P (I0 n))(hs:∀a n c,P (FQ a n c))(h:WdR W k f p)(j:Nat)(hj:j<83):P (f j):=by
 by_cases h0:j=0
 .subst h0;rw[h.n];exact hn _
 .by_cases h1:j<31
  .have:=(h.s ((j-1)/10) (by omega)).cellP hb hn hs ((j-1)%10) (by omega);simp only[show 1+10*((j-1)/10)+(j-1)%10=j by omega]at this;exact this
  .by_cases h2:j<34
   .have:=h.r (j-31) (by omega);rw[show 31+(j-31)=j by omega]at this;rw[this];exact hn _
   .by_cases h3:j<82
    .have hc:=h.c ((j-34)/3) (by omega);have e0:34+3*((j-34)/3)+(j-34)%3=j:=by omega
     rcases(show (j-34)%3=0\/(j-34)%3=1\/(j-34)%3=2 by omega)with e|e|e
     .have:=hc.s;simp only[<-e,e0]at this;rw[this];exact hn _
     .have:=hc.z;simp only[<-e,e0]at this;rw[this];exact hn _
     .obtain⟨a,c,e'⟩:=hc.e.slice;simp only[<-e,e0]at e';rw[e'];exact hs _ _ _
    .obtain rfl:j=82:=by omega
     obtain⟨a,c,e'⟩:=h.d.slice;rw[e'];exact hs _ _ _
theorem WdR.text(h:WdR W k f p)(j:Nat)(hj:j<83)(t:ByteArray):f j≠ .string t:=h.cellP (P:=(· ≠ .string t)) (fun _ e=>by cases e) (fun _ e=>by cases e) (fun _ _ _ e=>by cases e) j hj
theorem WdR.gU(h:WdR W k f p)(hb:WB W k f):dH W k:=hb.gU h.text
end
def CG4(x0 x1 x2 x3 x4 x5 x6 x7 x8 x9:FV):Nat->FV
 |0=>x0|1=>x1|2=>x2|3=>x3|4=>x4|5=>x5|6=>x6|7=>x7|8=>x8|_=>x9
def B93(x0 x1 x2:FV):Nat->FV
 |0=>x0|1=>x1|_=>x2
def BF3(f:Nat->FV)(o n:Nat)(g:Nat->FV):Nat->FV:=fun j=>if o<=j/\j<o+n then g (j-o)else f j
theorem O8{f g:Nat->FV}{n q:Nat}(h:q<n):BF3 f o n g (o+q)=g q:=by
 rw[BF3,if_pos ⟨by omega,by omega⟩]
 congr 1
 omega
theorem JC{f g:Nat->FV}{n j:Nat}(h:j<o\/o+n<=j):BF3 f o n g j=f j:=by rw[BF3,if_neg (by omega)]
def yY(W:FU)(k o:Nat)(x0 x1 x2 x3 x4 x5 x6 x7 x8 x9:FV):FU:=
 (((((((((W.setCell ⟨k,o,FX⟩ x0).setCell ⟨k,o+1,FX⟩ x1).setCell ⟨k,o+2,FX⟩ x2).setCell ⟨k,o+3,FX⟩ x3).setCell ⟨k,o+4,FX⟩ x4).setCell ⟨k,o+5,FX⟩ x5).setCell ⟨k,o+6,FX⟩ x6).setCell ⟨k,o+7,FX⟩ x7).setCell ⟨k,o+8,FX⟩ x8).setCell ⟨k,o+9,FX⟩ x9
def sD(W:FU)(k o:Nat)(x0 x1 x2:FV):FU:=((W.setCell ⟨k,o,FX⟩ x0).setCell ⟨k,o+1,FX⟩ x1).setCell ⟨k,o+2,FX⟩ x2
section
variable {W:FU} {k:Nat} {f:Nat->FV} {p:Pw}
theorem JK(W:FU)(k j:Nat)(v:FV):Touch (· =k) W (W.setCell ⟨k,j,FX⟩ v):=Touch.set (F:=(· =k)) (a:=⟨k,j,FX⟩) rfl v
theorem XO(W:FU)(k o:Nat)(x0 x1 x2 x3 x4 x5 x6 x7 x8 x9:FV):Touch (· =k) W (yY W k o x0 x1 x2 x3 x4 x5 x6 x7 x8 x9):=
 (((((((((JK _ _ _ _).trans (JK _ _ _ _)).trans (JK _ _ _ _)).trans (JK _ _ _ _)).trans (JK _ _ _ _)).trans (JK _ _ _ _)).trans (JK _ _ _ _)).trans (JK _ _ _ _)).trans (JK _ _ _ _)).trans (JK _ _ _ _)
theorem SV(W:FU)(k o:Nat)(x0 x1 x2:FV):Touch (· =k) W (sD W k o x0 x1 x2):=((JK _ _ _ _).trans (JK _ _ _ _)).trans (JK _ _ _ _)
theorem WB.sD(h:WB W k f)(ho:o+3<=83)(x0 x1 x2:FV):WB (sD W k o x0 x1 x2) k (BF3 f o 3 (B93 x0 x1 x2)):=by
 refine(((h.set (j:=o) (by omega) x0).set (j:=o+1) (by omega) x1).set (j:=o+2) (by omega) x2).of_eq fun j hj=>?_;by_cases h2:j=o+2
 .subst h2;rw[IC,O8 (by omega)];rfl
 .by_cases h1:j=o+1
  .subst h1;rw[GH _ _ (by omega),IC,O8 (by omega)];rfl
  .by_cases h0:j=o
   .subst h0;rw[GH _ _ (by omega),GH _ _ (by omega),IC,show BF3 f j 3 (B93 x0 x1 x2) j=BF3 f j 3 (B93 x0 x1 x2) (j+0)from rfl,O8 (by omega)];rfl
   .rw[GH _ _ h2,GH _ _ h1,GH _ _ h0,JC (by omega)]
theorem WB.yY(h:WB W k f)(ho:o+10<=83)(x0 x1 x2 x3 x4 x5 x6 x7 x8 x9:FV):WB (yY W k o x0 x1 x2 x3 x4 x5 x6 x7 x8 x9) k (BF3 f o 10 (CG4 x0 x1 x2 x3 x4 x5 x6 x7 x8 x9)):=by
 refine((((((((((h.set (j:=o) (by omega) x0).set (j:=o+1) (by omega) x1).set (j:=o+2) (by omega) x2).set (j:=o+3) (by omega) x3).set (j:=o+4) (by omega) x4).set (j:=o+5) (by omega) x5).set (j:=o+6) (by omega) x6).set (j:=o+7) (by omega) x7).set (j:=o+8) (by omega) x8).set (j:=o+9) (by omega) x9).of_eq fun j hj=>?_;by_cases hr:o<=j/\j<o+10
 .obtain⟨q,rfl⟩:∃q,j=o+q:=⟨j-o,by omega⟩;rw[O8 (by omega)];have hq:q<10:=by omega
  rcases(show q=0\/q=1\/q=2\/q=3\/q=4\/q=5\/q=6\/q=7\/q=8\/q=9 by omega)with rfl|rfl|rfl|rfl|rfl|rfl|rfl|rfl|rfl|rfl<;>simp[KU,CG4]
 .rw[JC (by omega),GH _ _ (by omega),GH _ _ (by omega),GH _ _ (by omega),GH _ _ (by omega),GH _ _ (by omega),GH _ _ (by omega),GH _ _ (by omega),GH _ _ (by omega),GH _ _ (by omega),GH _ _ (by omega)]
theorem SvA.congr{g g':Nat->FV}{s:Sv}(h:SvA W k g s)(he:∀q,q<10->g' q=g q):SvA W k g' s:=by
 refine⟨?_,?_,?_,?_,?_,?_,?_,?_,?_,?_⟩<;>rw[he _ (by omega)]
 .exact h.up
 .exact h.d
 .exact h.id
 .exact h.ep
 .exact h.l
 .exact h.dn
 .exact h.z
 .exact h.n
 .exact h.i
 .exact h.w
theorem ClA.congr{g g':Nat->FV}{c:Cl}(h:ClA W k g c)(he:∀q,q<3->g' q=g q):ClA W k g' c:=by
 refine⟨?_,?_,?_⟩<;>rw[he _ (by omega)]
 .exact h.s
 .exact h.z
 .exact h.e
theorem WX.pK(h:WX W k p)(hi:i<3){vd vl vn vs vw:FV}{s:Sv}(hq:svP i q=s)(hv:SvV W (.agg #[.bool s.up,vd,I0 s.id,I0 s.ep,vl,I0 s.dn,I0 s.tr.z,vn,vs,vw]) s)(hs:s.tr.ss≠[]->∀b,b<=k->UG vs b):
  WX (yY W k (1+10*i) (.bool s.up) vd (I0 s.id) (I0 s.ep) vl (I0 s.dn) (I0 s.tr.z) vn vs vw) k ⟨p.n,KU p.s i q,p.r,p.c,p.D,p.H,p.h⟩:=by
 obtain⟨f,hb,hr⟩:=h;refine⟨_,hb.yY (o:=1+10*i) (by omega) _ _ _ _ _ _ _ _ _ _,WdR.touch (W:=W) ?_ (XO _ _ _ _ _ _ _ _ _ _ _ _ _)⟩;have hA:SvA W k (CG4 (.bool s.up) vd (I0 s.id) (I0 s.ep) vl (I0 s.dn) (I0 s.tr.z) vn vs vw) s:=SvA.of (hr.gU hb) hv (fun h=>hs h k (A8 k)) rfl rfl rfl rfl rfl rfl rfl rfl rfl rfl;refine⟨by rw[JC (by omega)];exact hr.n,fun j hj=>?_,fun j hj=>by rw[JC (by omega)];exact hr.r j hj,fun j hj=>(hr.c j hj).congr fun q hq=>by rw[JC (by omega)],by rw[JC (by omega)];exact hr.d,fun j hj h0=>?_,hr.hk⟩
 .by_cases e:j=i
  .subst e;simp only[IC,hq];exact hA.congr fun q hq=>by rw[O8 hq]
  .simp only[GH _ _ e];exact(hr.s j hj).congr fun q hq=>by rw[JC (by omega)]
 .by_cases e:j=i
  .subst e;simp only[IC,hq]at h0;rw[O8 (by omega)];exact fun b hb=>hs h0 b (BM hb hr.hk)
  .simp only[GH _ _ e]at h0;rw[JC (by omega)];exact hr.h j hj h0
theorem WX.VI(h:WX W k p)(hi:i<3)(v:Int):WX (W.setCell ⟨k,31+i,FX⟩ (I0 v)) k ⟨p.n,p.s,KU p.r i v,p.c,p.D,p.H,p.h⟩:=by
 obtain⟨f,hb,hr⟩:=h;refine⟨_,hb.set (j:=31+i) (by omega) _,WdR.touch (W:=W) ?_ (JK _ _ _ _)⟩;refine⟨by rw[GH _ _ (by omega)];exact hr.n,fun j hj=>(hr.s j hj).congr fun q hq=>by rw[GH _ _ (by omega)],fun j hj=>?_,fun j hj=>(hr.c j hj).congr fun q hq=>by rw[GH _ _ (by omega)],by rw[GH _ _ (by omega)];exact hr.d,fun j hj h0=>by rw[GH _ _ (by omega)];exact hr.h j hj h0,hr.hk⟩;by_cases e:j=i
 .subst e;rw[IC];simp only[IC]
 .rw[GH _ _ (by omega)];simp only[GH _ _ e];exact hr.r j hj
theorem WX.AF1(h:WX W k p){r:Nat->Int}(he:∀i,i<3->p.r i=r i):WX W k ⟨p.n,p.s,r,p.c,p.D,p.H,p.h⟩:=by
 obtain⟨f,hb,hr⟩:=h;exact⟨f,hb,hr.n,hr.s,fun i hi=>by rw[hr.r i hi,he i hi],hr.c,hr.d,hr.h,hr.hk⟩
theorem WX.clear(h:WX W k p):WX (sD W k 31 (I0 0) (I0 0) (I0 0)) k ⟨p.n,p.s,fun _=>0,p.c,p.D,p.H,p.h⟩:=by
 have h1:=((h.VI (i:=0) (by omega) 0).VI (i:=1) (by omega) 0).VI (i:=2) (by omega) 0;have h2:WX (sD W k 31 (I0 0) (I0 0) (I0 0)) k ⟨p.n,p.s,KU (KU (KU p.r 0 0) 1 0) 2 0,p.c,p.D,p.H,p.h⟩:=h1;refine h2.AF1 fun i hi=>?_;rcases(show i=0\/i=1\/i=2 by omega)with rfl|rfl|rfl<;>simp[KU]
theorem WX.AF2(h:WX W k p)(n:Int):WX (W.setCell ⟨k,0,FX⟩ (I0 n)) k ⟨n,p.s,p.r,p.c,p.D,p.H,p.h⟩:=by
 obtain⟨f,hb,hr⟩:=h;refine⟨_,hb.set (j:=0) (by omega) _,WdR.touch (W:=W) ?_ (JK _ _ _ _)⟩;exact⟨by rw[IC],fun j hj=>(hr.s j hj).congr fun q hq=>by rw[GH _ _ (by omega)],fun j hj=>by rw[GH _ _ (by omega)];exact hr.r j hj,fun j hj=>(hr.c j hj).congr fun q hq=>by rw[GH _ _ (by omega)],by rw[GH _ _ (by omega)];exact hr.d,fun j hj h0=>by rw[GH _ _ (by omega)];exact hr.h j hj h0,hr.hk⟩
theorem WX.BR7(h:WX W k p)(hi:i<16){c:Cl}(hv:IQ W v c.es):WX (sD W k (34+3*i) (I0 c.s) (I0 c.z) v) k ⟨p.n,p.s,p.r,KU p.c i c,p.D,p.H,p.h⟩:=by
 obtain⟨f,hb,hr⟩:=h;refine⟨_,hb.sD (o:=34+3*i) (by omega) _ _ _,WdR.touch (W:=W) ?_ (SV _ _ _ _ _ _)⟩;refine⟨by rw[JC (by omega)];exact hr.n,fun j hj=>(hr.s j hj).congr fun q hq=>by rw[JC (by omega)],fun j hj=>by rw[JC (by omega)];exact hr.r j hj,fun j hj=>?_,by rw[JC (by omega)];exact hr.d,fun j hj h0=>by rw[JC (by omega)];exact hr.h j hj h0,hr.hk⟩;by_cases e:j=i
 .subst e;simp only[IC];exact ClA.congr (g:=B93 (I0 c.s) (I0 c.z) v) ⟨rfl,rfl,bQ hv (hr.gU hb)⟩ fun q hq=>by rw[O8 hq]
 .simp only[GH _ _ e];exact(hr.c j hj).congr fun q hq=>by rw[JC (by omega)]
theorem WX.CO2(h:WX W k p){D:List GI}(hv:IQ W v D)(H:List GI):WX (W.setCell ⟨k,82,FX⟩ v) k ⟨p.n,p.s,p.r,p.c,D,H,p.h⟩:=by
 obtain⟨f,hb,hr⟩:=h;refine⟨_,hb.set (j:=82) (by omega) _,WdR.touch (W:=W) ?_ (JK _ _ _ _)⟩;exact⟨by rw[GH _ _ (by omega)];exact hr.n,fun j hj=>(hr.s j hj).congr fun q hq=>by rw[GH _ _ (by omega)],fun j hj=>by rw[GH _ _ (by omega)];exact hr.r j hj,fun j hj=>(hr.c j hj).congr fun q hq=>by rw[GH _ _ (by omega)],by rw[IC];exact lN (OG.1 hv) (hr.gU hb),fun j hj h0=>by rw[GH _ _ (by omega)];exact hr.h j hj h0,hr.hk⟩
theorem WX.BZ6(h:WX W k p)(hi:i<3)(hu:(p.s i).up=true){x:Ps}(hx:x=⟨(p.s i).up,(p.s i).e,(p.s i).m,(p.s i).a,(p.s i).q,(p.s i).dn,x.ws⟩)(hv:IQ W v x.ws):WX (W.setCell ⟨k,1+10*i+9,FX⟩ v) k ⟨p.n,KU p.s i x,p.r,p.c,p.D,p.H,p.h⟩:=by
 obtain⟨f,hb,hr⟩:=h;refine⟨_,hb.set (j:=1+10*i+9) (by omega) _,WdR.touch (W:=W) ?_ (JK _ _ _ _)⟩;refine⟨by rw[GH _ _ (by omega)];exact hr.n,fun j hj=>?_,fun j hj=>by rw[GH _ _ (by omega)];exact hr.r j hj,fun j hj=>(hr.c j hj).congr fun q hq=>by rw[GH _ _ (by omega)],by rw[GH _ _ (by omega)];exact hr.d,fun j hj h0=>by
  rw[GH _ _ (by omega)];refine hr.h j hj ?_;by_cases e:j=i
  .subst e;simp only[IC]at h0;rw[IY (by rw[hx];exact hu)]at h0;rw[IY hu];rw[hx]at h0;exact h0
  .simp only[GH _ _ e]at h0;exact h0,hr.hk⟩
 by_cases e:j=i
 .subst e;simp only[IC];have hs:=hr.s j hj;have e1:svP j x=⟨(svP j (p.s j)).up,(svP j (p.s j)).fs,(svP j (p.s j)).id,(svP j (p.s j)).ep,(svP j (p.s j)).ts,(svP j (p.s j)).dn,(svP j (p.s j)).tr,x.ws⟩:=by
   rw[IY hu,IY (by rw[hx];exact hu),hx]
  rw[e1];have g:∀q,q<9->KU f (1+10*j+9) v (1+10*j+q)=f (1+10*j+q):=fun q hq=>GH _ _ (by omega);exact⟨by rw[g 0 (by omega)];exact hs.up,by rw[g 1 (by omega)];exact hs.d,by rw[g 2 (by omega)];exact hs.id,by rw[g 3 (by omega)];exact hs.ep,by rw[g 4 (by omega)];exact hs.l,by rw[g 5 (by omega)];exact hs.dn,by rw[g 6 (by omega)];exact hs.z,by rw[g 7 (by omega)];exact hs.n,by rw[g 8 (by omega)];exact hs.i,by rw[IC];exact VH hv (hr.gU hb)⟩
 .simp only[GH _ _ e];exact(hr.s j hj).congr fun q hq=>by rw[GH _ _ (by omega)]
end
structure Srv(W:FU)(k o:Nat)(up:Bool)(id ep dn z:Int)(vd vl vn vs vw:FV):Prop where
 c0:W.cell? ⟨k,o,FX⟩=FZ (.bool up)
 c1:W.cell? ⟨k,o+1,FX⟩=FZ vd
 c2:W.cell? ⟨k,o+2,FX⟩=FZ (I0 id)
 c3:W.cell? ⟨k,o+3,FX⟩=FZ (I0 ep)
 c4:W.cell? ⟨k,o+4,FX⟩=FZ vl
 c5:W.cell? ⟨k,o+5,FX⟩=FZ (I0 dn)
 c6:W.cell? ⟨k,o+6,FX⟩=FZ (I0 z)
 c7:W.cell? ⟨k,o+7,FX⟩=FZ vn
 c8:W.cell? ⟨k,o+8,FX⟩=FZ vs
 c9:W.cell? ⟨k,o+9,FX⟩=FZ vw
theorem Srv.next{up:Bool}{id ep dn z:Int}{vd vl vn vs vw:FV}(h:Srv W k o up id ep dn z vd vl vn vs vw)(hk:k<W.heap.size)(hV:B0 W V):Srv V k o up id ep dn z vd vl vn vs vw:=by
 have e:∀j,V.cell? ⟨k,j,FX⟩=W.cell? ⟨k,j,FX⟩:=fun j=>by rw[AV,AV,hV.block k hk]
 exact⟨(e _).trans h.c0,(e _).trans h.c1,(e _).trans h.c2,(e _).trans h.c3,(e _).trans h.c4,(e _).trans h.c5,(e _).trans h.c6,(e _).trans h.c7,(e _).trans h.c8,(e _).trans h.c9⟩
theorem WX.srv(h:WX W k p)(hi:i<3){s:Sv}(hs:svP i (p.s i)=s):∃ad nd cd al cl an cn ai ci aw cw,
  Srv W k (1+10*i) s.up s.id s.ep s.dn s.tr.z (FQ ad nd cd) (FQ al s.ts.length cl) (FQ an s.tr.ns.length cn) (FQ ai s.tr.ss.length ci) (FQ aw s.ws.length cw)/\
  SvV W (.agg #[.bool s.up,FQ ad nd cd,I0 s.id,I0 s.ep,FQ al s.ts.length cl,I0 s.dn,I0 s.tr.z,FQ an s.tr.ns.length cn,FQ ai s.tr.ss.length ci,FQ aw s.ws.length cw]) s/\(s.tr.ss≠[]->UG (FQ ai s.tr.ss.length ci) k):=by
 obtain⟨f,hb,hr⟩:=h;have h:=hr.s i hi;rw[hs]at h;obtain⟨ad,cd,e1⟩:=h.d.slice;obtain⟨al,cl,e4⟩:=h.l.slice;obtain⟨an,cn,e7⟩:=h.n.slice;obtain⟨ai,ci,e8⟩:=h.i.slice;obtain⟨aw,cw,e9⟩:=h.w.slice;have hv:=h.val;have hw:=h.i.2;rw[e8]at hw;rw[h.up,e1,h.id,h.ep,e4,h.dn,h.z,e7,e8,e9]at hv;refine⟨ad,_,cd,al,cl,an,cn,ai,ci,aw,cw,⟨?_,?_,?_,?_,?_,?_,?_,?_,?_,?_⟩,hv,hw⟩
 .rw[hb.cell (j:=1+10*i) (by omega)];exact congrArg FZ h.up
 .rw[hb.cell (by omega)];exact congrArg FZ e1
 .rw[hb.cell (by omega)];exact congrArg FZ h.id
 .rw[hb.cell (by omega)];exact congrArg FZ h.ep
 .rw[hb.cell (by omega)];exact congrArg FZ e4
 .rw[hb.cell (by omega)];exact congrArg FZ h.dn
 .rw[hb.cell (by omega)];exact congrArg FZ h.z
 .rw[hb.cell (by omega)];exact congrArg FZ e7
 .rw[hb.cell (by omega)];exact congrArg FZ e8
 .rw[hb.cell (by omega)];exact congrArg FZ e9
theorem WX.role(h:WX W k p)(hi:i<3):W.cell? ⟨k,31+i,FX⟩=FZ (I0 (p.r i)):=by
 obtain⟨f,hb,hr⟩:=h;rw[hb.cell (by omega),hr.r i hi]
theorem WX.count(h:WX W k p):W.cell? ⟨k,0,FX⟩=FZ (I0 p.n):=by
 obtain⟨f,hb,hr⟩:=h;rw[hb.cell (by omega),hr.n]
theorem WX.GN(h:WX W k p)(j:Nat):W.frozen? ⟨k,j,FX⟩=false:=by
 obtain⟨f,hb,hr⟩:=h;exact hb.GN j
theorem WX.cl(h:WX W k p)(hi:i<16):∃a c,W.cell? ⟨k,34+3*i,FX⟩=FZ (I0 (p.c i).s)/\W.cell? ⟨k,34+3*i+1,FX⟩=FZ (I0 (p.c i).z)/\W.cell? ⟨k,34+3*i+2,FX⟩=FZ (FQ a (p.c i).es.length c)/\IQ W (FQ a (p.c i).es.length c) (p.c i).es:=by
 obtain⟨f,hb,hr⟩:=h;have h:=hr.c i hi;obtain⟨a,c,e⟩:=h.e.slice;have hv:=h.e.1;rw[e]at hv;refine⟨a,c,?_,?_,?_,hv⟩
 .rw[hb.cell (j:=34+3*i) (by omega)];exact congrArg FZ h.s
 .rw[hb.cell (by omega)];exact congrArg FZ h.z
 .rw[hb.cell (by omega)];exact congrArg FZ e
theorem WX.ack(h:WX W k p):∃a c,W.cell? ⟨k,82,FX⟩=FZ (FQ a p.D.length c)/\IQ W (FQ a p.D.length c) p.D:=by
 obtain⟨f,hb,hr⟩:=h;obtain⟨a,c,e⟩:=hr.d.slice;have hv:=hr.d.1;rw[e]at hv;exact⟨a,c,by rw[hb.cell (by omega),e],hv⟩
def RpB(W:FU)(g:Nat):Prop:=W.heap[g]?=FZ (.cells #[I0 0,I0 0,.string ⟨#[]⟩,.string ⟨#[]⟩,I0 0,I0 0,I0 0,I0 0,I0 0,I0 0,I0 0,N0] 37 (0,0))
theorem RpB.new(w:FU):RpB (w.alloc (.cells #[I0 0,I0 0,.string ⟨#[]⟩,.string ⟨#[]⟩,I0 0,I0 0,I0 0,I0 0,I0 0,I0 0,I0 0,N0] 37)) w.heap.size:=heap_alloc_new w _
theorem RpB.lt(h:RpB W g):g<W.heap.size:=(AB.1 h).1
theorem RpB.touch(h:RpB W g)(ht:Touch F W V)(hg:¬F g):RpB V g:=(ht.block g h.lt hg).trans h
theorem RpB.next(h:RpB W g)(hb:B0 W V):RpB V g:=(hb.block g h.lt).trans h
theorem RpB.cells(h:RpB W g):(W.cell? ⟨g,0,FX⟩=FZ (I0 0)/\W.cell? ⟨g,1,FX⟩=FZ (I0 0)/\W.cell? ⟨g,2,FX⟩=FZ (.string ⟨#[]⟩)/\W.cell? ⟨g,3,FX⟩=FZ (.string ⟨#[]⟩)/\W.cell? ⟨g,4,FX⟩=FZ (I0 0)/\W.cell? ⟨g,5,FX⟩=FZ (I0 0))/\(W.cell? ⟨g,6,FX⟩=FZ (I0 0)/\W.cell? ⟨g,7,FX⟩=FZ (I0 0)/\W.cell? ⟨g,8,FX⟩=FZ (I0 0)/\W.cell? ⟨g,9,FX⟩=FZ (I0 0)/\W.cell? ⟨g,10,FX⟩=FZ (I0 0)/\W.cell? ⟨g,11,FX⟩=FZ (N0)):=by
 unfold RpB at h;refine⟨⟨?_,?_,?_,?_,?_,?_⟩,?_,?_,?_,?_,?_,?_⟩<;>simp[AV,h]
theorem RpB.GN(h:RpB W g)(j:Nat):W.frozen? ⟨g,j,FX⟩=false:=by
 unfold RpB at h;simp[F7,h]
def gV(W:FU)(g:Nat)(x0 x1 x2 x3 x4 x5 x6 x7 x8 x9 x10 x11:FV):FU:=
 (((((((((((W.setCell ⟨g,0,FX⟩ x0).setCell ⟨g,1,FX⟩ x1).setCell ⟨g,2,FX⟩ x2).setCell ⟨g,3,FX⟩ x3).setCell ⟨g,4,FX⟩ x4).setCell ⟨g,5,FX⟩ x5).setCell ⟨g,6,FX⟩ x6).setCell ⟨g,7,FX⟩ x7).setCell ⟨g,8,FX⟩ x8).setCell ⟨g,9,FX⟩ x9).setCell ⟨g,10,FX⟩ x10).setCell ⟨g,11,FX⟩ x11
theorem Touch.new(h:Touch F w W){j:Nat}(hg:w.heap.size<=g)(v:FV):Touch F w (W.setCell ⟨g,j,FX⟩ v):=
 ⟨h.os,h.tape,h.output,by simpa [World.setCell]using h.size,fun k hk hf=>(Below.heap_setCell W ⟨g,j,FX⟩ v k (by show k≠g;omega)).trans (h.block k hk hf)⟩
theorem KC(h:Touch F w W)(hg:w.heap.size<=g)(x0 x1 x2 x3 x4 x5 x6 x7 x8 x9 x10 x11:FV):Touch F w (gV W g x0 x1 x2 x3 x4 x5 x6 x7 x8 x9 x10 x11):=
 (((((((((((h.new hg x0).new hg x1).new hg x2).new hg x3).new hg x4).new hg x5).new hg x6).new hg x7).new hg x8).new hg x9).new hg x10).new hg x11
theorem bT(w:FU)(o p:Obj):((w.alloc o).alloc p).heap[w.heap.size+1]?=FZ p:=by
 have h:=heap_alloc_new (w.alloc o) p;simpa using h
def UM(E:Int):FV:=.agg #[I0 E,I0 0,.string ⟨#[]⟩,.string ⟨#[]⟩,I0 0,I0 0,I0 0,I0 0,I0 0,I0 0,I0 0,N0]
theorem KP(E:Int)(w:FU):FW prog 33 #[I0 E] w (R0 w (UM E)):=by
 unfold UM;go_enter func33,ntmps33;go_wp2_with fail;refine bodyPost_ret (v:=.agg #[I0 E,I0 0,.string ⟨#[]⟩,.string ⟨#[]⟩,I0 0,I0 0,I0 0,I0 0,I0 0,I0 0,I0 0,N0]) (by simp[results,results33,go_sem]) rfl ⟨rfl,?_⟩
 first|exact Below.refl _ _|exact G7 _ _|exact G8 (G7 _ _) (by assumption)|exact(by assumption)
def wP(k:Nat):FV:=P0 k
theorem XP(i m:Int)(w:FU):FW prog 19 #[I0 i,I0 m] w fun e w'=>e=.returned (.bool (lG i m))/\w'=w:=by
 by_cases h:0<=i
 .by_cases h2:i<m
  .rw[show lG i m=true by simp[lG];omega];go_enter func19,ntmps19;go_wp2_with fail;go_ret;exact⟨rfl,rfl⟩
  .rw[show lG i m=false by simp[lG];omega];go_enter func19,ntmps19;go_wp2_with fail;go_ret;exact⟨rfl,rfl⟩
 .rw[show lG i m=false by simp[lG];omega];go_enter func19,ntmps19;go_wp2_with fail;go_ret;exact⟨rfl,rfl⟩
def TY(k E:Int):Bool:=decide (E=0)||decide (E=16)||(decide (E=7)&&decide (k=2))
theorem A52(k E:Int)(w:FU):FW prog 36 #[I0 k,I0 E] w fun e w'=>e=.returned (.bool (TY k E))/\w'=w:=by
 unfold TY;by_cases h0:E=0
 .subst h0;go_enter func36,ntmps36;go_wp2_with fail;go_ret;exact⟨by simp,rfl⟩
 .by_cases h1:E=16
  .subst h1;go_enter func36,ntmps36;go_wp2_with fail;go_ret;exact⟨by simp,rfl⟩
  .by_cases h2:E=7
   .subst h2;by_cases h3:k=2
    .subst h3;go_enter func36,ntmps36;go_wp2_with fail;go_ret;exact⟨by simp,rfl⟩
    .go_enter func36,ntmps36;go_wp2_with fail;go_ret;exact⟨by simp[h3],rfl⟩
   .go_enter func36,ntmps36;go_wp2_with fail;go_ret;exact⟨by simp[h0,h1,h2],rfl⟩
def rpV(r:Rp)(v:FV):FV:=.agg #[I0 r.E,I0 r.z,S0 r.p,S0 r.d,I0 r.t.c,I0 r.t.m,I0 r.t.q,I0 r.t.v,I0 r.t.k,I0 r.t.o,I0 r.t.n,v]
def Did(W:FU)(k:Nat)(kd:Int)(x:Rp×Pw)(e:Ending)(w':FU):Prop:=
 ∃v,e=.returned (rpV x.1 v)/\GZ w' W.heap.size v x.1.ns/\Touch (· =k) W w'/\(TY kd x.1.E=true->WX w' k x.2)
theorem VJ{w':FU}{kd E:Int}{e:Ending}(he:e=.returned (UM E))(ht:Touch (· =k) W w')(hl:TY kd E=false):Did W k kd (RY E,p) e w':=
 ⟨N0,he,.inl ⟨rfl,rfl⟩,ht,fun h=>by rw[show (RY E,p).1.E=E from rfl,hl]at h;cases h⟩
theorem ZM(p:Pw)(k:Nat)(W:FU)(hx:WX W k p):FW prog 63 #[wP k] W fun e w'=>e=.returned (.tuple #[])/\WX w' k ⟨p.n,p.s,fun _=>0,p.c,p.D,p.H,p.h⟩/\Touch (· =k) W w':=by
 have X:=G6 hx.clear;have T:=G6 (SV W k 31 (I0 0) (I0 0) (I0 0));have r0:=hx.role (i:=0) (by omega);have r1:=hx.role (i:=1) (by omega);have r2:=hx.role (i:=2) (by omega);have f0:=hx.GN 31;have f1:=hx.GN 32;have f2:=hx.GN 33;simp only[Nat.reduceAdd]at r0 r1 r2;unfold wP;clear hx;go_enter func63,ntmps63;go_wp2_with fail;exact bodyPost_end (v:=.tuple #[]) (by simp[results,results63,go_sem]) rfl ⟨rfl,G5 X,G5 T⟩
theorem SX(W:FU)(n:Nat):B0 W (W.drewN n):=⟨rfl,rfl,rfl,A8 _,fun _ _=>rfl⟩
structure DB(w W:FU)(d:Dd):Prop where
 b:B0 w W
 r:RpB W (w.heap.size+1)
 d:JG W w.heap.size d
theorem DB.start(w:FU)(d:Dd):DB w ((w.alloc (.cells #[I0 d.k,I0 d.c,I0 d.s,I0 d.q.o,I0 d.q.s,S0 d.q.p,S0 d.q.d,I0 d.q.v,I0 d.q.f,I0 d.lo,I0 d.sl,I0 d.ke,.bool d.wt] 31)).alloc (.cells #[I0 0,I0 0,.string ⟨#[]⟩,.string ⟨#[]⟩,I0 0,I0 0,I0 0,I0 0,I0 0,I0 0,I0 0,N0] 37)) d:=by
 refine⟨G8 (G7 _ _) (G7 _ _),bT _ _ _,?_⟩;exact JG.TW (heap_alloc_new w _:JG (w.alloc _) w.heap.size d) (G7 _ _) (by simp)
theorem DB.next{d:Dd}(h:DB w W d)(hb:B0 W V):DB w V d:=⟨G8 h.b hb,h.r.next hb,h.d.TW hb h.d.ltz⟩
theorem DB.cells{d:Dd}(h:DB w W d):(W.cell? ⟨w.heap.size,0,FX⟩=FZ (I0 d.k)/\W.cell? ⟨w.heap.size,1,FX⟩=FZ (I0 d.c)/\W.cell? ⟨w.heap.size,2,FX⟩=FZ (I0 d.s)/\W.cell? ⟨w.heap.size,3,FX⟩=FZ (I0 d.q.o)/\W.cell? ⟨w.heap.size,4,FX⟩=FZ (I0 d.q.s)/\W.cell? ⟨w.heap.size,5,FX⟩=FZ (S0 d.q.p)/\W.cell? ⟨w.heap.size,6,FX⟩=FZ (S0 d.q.d))/\W.cell? ⟨w.heap.size,7,FX⟩=FZ (I0 d.q.v)/\W.cell? ⟨w.heap.size,8,FX⟩=FZ (I0 d.q.f)/\W.cell? ⟨w.heap.size,9,FX⟩=FZ (I0 d.lo)/\W.cell? ⟨w.heap.size,10,FX⟩=FZ (I0 d.sl)/\W.cell? ⟨w.heap.size,11,FX⟩=FZ (I0 d.ke)/\W.cell? ⟨w.heap.size,12,FX⟩=FZ (.bool d.wt):=by
 have r:=h.d.row;simp only[Nat.zero_add]at r;exact⟨⟨r 0 _ rfl,r 1 _ rfl,r 2 _ rfl,r 3 _ rfl,r 4 _ rfl,r 5 _ rfl,r 6 _ rfl⟩,r 7 _ rfl,r 8 _ rfl,r 9 _ rfl,r 10 _ rfl,r 11 _ rfl,r 12 _ rfl⟩
theorem AQ0(p:Pw)(d:Dd)(k:Nat)(W:FU)(hx:WX W k p)(hi:0<=d.s/\d.s<3)(hu:(p.s d.s.toNat).up=false):FW prog 49 #[wP k,ddV d] W (Did W k 3 (RY 14,p)):=by
 have C:=G6 (fun W=>KP 14 W);have D0:=G6 (DB.start W d);obtain⟨i,hi3,hdi⟩:∃i:Nat,i<3/\d.s=i:=⟨d.s.toNat,by omega,by omega⟩;rw[hdi,Int.toNat_natCast]at hu;obtain⟨ad,nd,cd,al,cl,an,cn,ai,ci,aw,cw,S,_,_⟩:=hx.srv hi3 rfl;have S0:∀V,B0 W V->V.cell? ⟨k,1+10*i,FX⟩=FZ (.bool false):=fun V hV=>by
  have:=S.c0;rw[TN hu]at this;rw[AV,hV.block k hx.lt];exact this
 obtain⟨dk,dc,ds,⟨o,s,pp,dd,v,f⟩,lo,sl,ke,wt⟩:=d;simp only at hdi;subst hdi;unfold wP ddV;unfold UM at C;clear S hx hu hi;have hX:∀w1,DB W w1 ⟨dk,dc,(i:Int),⟨o,s,pp,dd,v,f⟩,lo,sl,ke,wt⟩->Did W k 3 (RY 14,p) (.returned (UM 14)) (gV w1 (W.heap.size+1) (I0 14) (I0 0) (.string ⟨#[]⟩) (.string ⟨#[]⟩) (I0 0) (I0 0) (I0 0) (I0 0) (I0 0) (I0 0) (I0 0) (N0)):=fun w1 h=>VJ rfl (KC (Touch.of_below h.b) (by omega) _ _ _ _ _ _ _ _ _ _ _ _) (by decide);rcases(show i=0\/i=1\/i=2 by omega)with rfl|rfl|rfl
 all_goals
  simp only[Nat.reduceAdd,Nat.reduceMul]at S0;go_enter func49,ntmps49;go_upto_region 1 with fail;generalize ((W.alloc _).alloc _)=W0 at*;obtain⟨⟨e0,e1,e2,e3,e4,e5,e6⟩,e7,e8,e9,e10,e11,e12⟩:=(G5 D0).cells;have T0:=S0 W0 (G5 D0).b;simp only at e2
  go_quiet (fail)
  go_wp2_with fail;refine(G5 C _).mono ?_;rintro e w1 ⟨rfl,hb⟩;have D1:=(G5 D0).next (G8 (SX _ _) hb);obtain⟨⟨c0,c1,c2,c3,c4,c5⟩,c6,c7,c8,c9,c10,c11⟩:=D1.r.cells;have f0:=D1.r.GN;have X1:=G6 (hX w1 D1);clear hb D1 D0 C S0 hX;unfold UM at X1;go_wp2_with fail;exact bodyPost_ret (v:=.agg #[I0 14,I0 0,.string ⟨#[]⟩,.string ⟨#[]⟩,I0 0,I0 0,I0 0,I0 0,I0 0,I0 0,I0 0,N0]) (by simp[results,results49,go_sem,c0,c1,c2,c3,c4,c5,c6,c7,c8,c9,c10,c11]) rfl (G5 X1)
