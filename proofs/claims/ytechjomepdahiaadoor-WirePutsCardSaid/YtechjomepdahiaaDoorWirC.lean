import Derived.Test.YtechjomepdahiaaDoorZ0
import Derived.Test.YtechjomepdahiaaDoorWirB
import Derived.Test.YtechjomepdahiaaDoorAudE
import Derived.Test.YtechjomepdahiaaDoorMg4
import Derived.Test.YtechjomepdahiaaDoorMg1
set_option maxRecDepth 100000
set_option linter.unusedVariables false
set_option linter.unusedSimpArgs false
set_option maxHeartbeats 4000000
namespace Go.Proofs.YtechjomepdahiaaDoor
open Go.RowKit Go.ChangeShapes Go.WideShapes
theorem dY{v:Vw}(h:aH v=true):1<=v.w/\v.w<=1024/\1<=v.h/\v.h<=1024/\v.h=(v.L.length:Int)/\0<=v.r/\v.r<v.h/\0<=v.c/\v.c<v.w/\∀ i,i<v.L.length->((v.L.getD i zl).1.length:Int)=v.w/\aI (v.L.getD i zl).1=true:=by
 rw [eL] at h;simp only [Bool.and_eq_true,beq_iff_eq] at h;obtain ⟨⟨⟨⟨h1,h2⟩,h3⟩,h4⟩,h5⟩:=h;obtain ⟨vw,vh,Ls,r,c,pd,au⟩:=v;simp only at h1 h2 h3 h4 h5 ⊢;unfold aB at h1 h2;simp only [Bool.and_eq_true,decide_eq_true_eq] at h1 h2;have qA:0<=r/\r<vh/\0<=c/\c<vw:=by
  unfold ap aE at h4;simp only [Bool.and_eq_true,Bool.or_eq_true,decide_eq_true_eq] at h4;obtain ⟨⟨⟨⟨a1,a2⟩,a3⟩,a4⟩,_⟩:=h4;omega
 refine ⟨h1.1,h1.2,h2.1,h2.2,h3,qA.1,qA.2.1,qA.2.2.1,qA.2.2.2,fun i hi=>?_⟩;have:=List.all_eq_true.1 h5 i (List.mem_range.2 hi);unfold cq at this;rw [Bool.and_eq_true,decide_eq_true_eq] at this;exact this
theorem dh{C:List Cl}(h:aI C=true):∀ c ∈ C,am c=true:=fun c hc=>by
 obtain ⟨i,hi,rfl⟩:=List.getElem_of_mem hc;have:=((dE C).1 h i hi).1;rw [show C.getD i zc=C[i] from by simp [List.getD,List.getElem?_eq_getElem hi]] at this;exact this
theorem kZ{l:Ln}(h:aI l.1=true)(hl:l.1.length<=1024):(lnB l).length<=71681:=by
 unfold lnB;rw [List.length_cons];have:=bV l.1.length l.1 (Nat.le_refl _) (by omega) (dh h);omega
theorem fX(Ls:List Ln)(h:∀ i,i<Ls.length->aI (Ls.getD i zl).1=true/\(Ls.getD i zl).1.length<=1024):∀ k,k<=Ls.length->((Ls.take k).flatMap lnB).length<=k * 71681
 |0=>fun _=>by simp
 |k+1=>fun hk=>by
  have ih:=fX Ls h k (by omega);have tw:k<Ls.length:=hk;obtain ⟨h1,h2⟩:=h k tw;rw [show Ls.getD k zl=Ls[k] from by simp [List.getD,List.getElem?_eq_getElem tw]] at h1 h2;rw [List.take_succ_eq_append_getElem tw,List.flatMap_append,List.flatMap_singleton,List.length_append];have:=kZ h1 h2;omega
theorem gF(sa:Nat->Addr)(v:Vw)(lv:Value)(w:World)(hs:Five w sa)(hv:ViewAt w v lv)(hr:aH v=false):Calls Tryd.prog 18 #[aZ v lv] w (Gives w (.tuple #[.slice none 0 0,.iface 186 (.pointer (some (sa 4)))])):=by
 obtain ⟨W1,hW1⟩:=ab (w.alloc (.cells (cl v lv).toArray 44));have hb1:Below w.heap.size w W1:=by rw [hW1];exact l7 _ _
 have l8:Has W1 w.heap.size (cl v lv) 44:=by rw [hW1];exact Has.new w _ _
 have qp:=aa (eq sa v lv W1 (hs.below hb1) (hv.below hb1));rw [hr] at qp;have pK:=aa (hs.below hb1);have nu:=aa hb1;obtain ⟨lo,lc,elv⟩:=hv.1.len;subst elv;obtain ⟨vw,vh,Ls,r,c,pd,au⟩:=v;have mG:=aa (show w.alloc (.cells #[Value.int .i64 vw,.int .i64 vh,.slice lo Ls.length lc,.int .i64 r,.int .i64 c,.bool pd,.bool au] 44)=W1 from by rw [hW1];rfl);unfold aZ at qp ⊢;unfold cl at l8;simp only at qp l8 ⊢;obtain ⟨gp,n8⟩:=ab (w.heap.size);have pZ:=aa n8;rw [<-n8] at l8;have q0:=l8.cell 0 _ rfl;have q1:=l8.cell 1 _ rfl;have q2:=l8.cell 2 _ rfl;have q3:=l8.cell 3 _ rfl;have q4:=l8.cell 4 _ rfl;have q5:=l8.cell 5 _ rfl;have q6:=l8.cell 6 _ rfl;clear hW1 hb1 l8 n8 hv hs hr
 go_enter Tryd.func18,Tryd.ntmps18
 go_upto_region 1 with (fail)
 rw [mG.out,<-pZ.out]
 go_wp2_with fail
 refine (qp.out).mono ?_;rintro e w2 ⟨rfl,b2⟩;have c4:=(pK.out.below b2).cell 4 (by decide);simp only [F.glob] at c4;have HF:=aa (nu.out.trans (b2.mono nu.out.size));clear q0 q1 q2 q3 q4 q5 q6 b2;go_wp2
 go_quiet (fail)
 go_wp2
 go_ret2
 exact ⟨rfl,HF.out.drewN _⟩
theorem fY(g n cap x:Nat):(Value.slice (some ⟨g,0,none⟩) n cap).ownBlock≠some x↔x≠g:=by
 show (some g≠some x)↔_;constructor
 ·intro h e;exact h (by rw [e])
 ·intro h e;exact h (by cases e;rfl)
theorem js(a b c d:Nat)(j:Nat)(hj:j<4):((([a,b,c,d]:List Nat).take (j+1)).flatMap aA)=(([a,b,c,d]:List Nat).take j).flatMap aA++aA (([a,b,c,d]:List Nat).getD j 0):=by
 rw [List.take_succ_eq_append_getElem (by simpa using hj),List.flatMap_append,List.flatMap_singleton]
 congr 2
 simp [List.getD,List.getElem?_eq_getElem (show j<([a,b,c,d]:List Nat).length by simpa using hj)]
theorem kd(a b c d:Nat)(h:∀ x ∈ [a,b,c,d],x<2097152):∀ j,((([a,b,c,d]:List Nat).take j).flatMap aA).length<=12:=by
 intro j;have n1:=(aD (h a (by simp))).2;have n2:=(aD (h b (by simp))).2;have n3:=(aD (h c (by simp))).2;have n4:=(aD (h d (by simp))).2
 match j with
 | 0=>simp
 | 1=>simp;omega
 | 2=>simp;omega
 | 3=>simp;omega
 | j+4=>simp;omega
theorem dA(sa:Nat->Addr)(v:Vw)(lv:Value)(w:World)(hs:Five w sa)(hv:ViewAt w v lv)(hr:aH v=true):Calls Tryd.prog 18 #[aZ v lv] w (fun e w'=>∃ u,e=.returned (.tuple #[u,.nilIface])/\BOwn w' w.heap.size u (aS v)/\Below w.heap.size w w'):=by
 obtain ⟨W1,hW1⟩:=ab (w.alloc (.cells (cl v lv).toArray 44));have hb1:Below w.heap.size w W1:=by rw [hW1];exact l7 _ _
 have l8:Has W1 w.heap.size (cl v lv) 44:=by rw [hW1];exact Has.new w _ _
 have qp:=aa (eq sa v lv W1 (hs.below hb1) (hv.below hb1));rw [hr] at qp;have nu:=aa hb1;have ot:=aa (dY hr);have sm:=aa hv.1.lower;obtain ⟨lo,lc,elv⟩:=hv.1.len;subst elv;have hlc:=(aP hv.1).2.1;have m9:=aa (show aS v=[76]++([v.w.toNat,v.h.toNat,v.r.toNat,v.c.toNat]:List Nat).flatMap aA++[bQ v]++v.L.flatMap lnB from by unfold aS;simp);have oR:=aa (show bQ v=(if v.pd=true then 1 else 0)+(if v.au=true then 2 else 0) from rfl);obtain ⟨vw,vh,Ls,r,c,pd,au⟩:=v;obtain ⟨FL,vy⟩:=ab (bQ ⟨vw,vh,Ls,r,c,pd,au⟩);rw [<-vy] at m9 oR;simp only at m9 oR ot sm hlc;obtain ⟨PV,uY⟩:=ab (aS ⟨vw,vh,Ls,r,c,pd,au⟩);rw [<-uY] at m9 ⊢;have mG:=aa (show w.alloc (.cells #[Value.int .i64 vw,.int .i64 vh,.slice lo Ls.length lc,.int .i64 r,.int .i64 c,.bool pd,.bool au] 44)=W1 from by rw [hW1];rfl);unfold aZ at qp ⊢;unfold cl at l8;simp only at qp l8 hlc ⊢;obtain ⟨nl,mA⟩:=ab (Ls.length);have rS:=aa mA;rw [<-mA] at qp l8 mG sm hlc ⊢;obtain ⟨gp,n8⟩:=ab (w.heap.size);have pZ:=aa n8;rw [<-n8] at l8;have og:=aa l8;have q0:=l8.cell 0 _ rfl;have q1:=l8.cell 1 _ rfl;have q2:=l8.cell 2 _ rfl;have q3:=l8.cell 3 _ rfl;have q4:=l8.cell 4 _ rfl;have q5:=l8.cell 5 _ rfl;have q6:=l8.cell 6 _ rfl;clear hW1 hb1 l8 n8 hv hs hr uY vy mA
 go_enter Tryd.func18,Tryd.ntmps18
 go_upto_region 1 with (fail)
 rw [mG.out,<-pZ.out]
 go_wp2_with fail
 refine (qp.out).mono ?_;rintro e w2 ⟨rfl,b2⟩;have m3:=aa (og.out.below b2 og.out.lt);have mV:=aa (nu.out.trans (b2.mono nu.out.size));clear q0 q1 q2 q3 q4 q5 q6 b2 qp og nu
 -- the first byte,the four numbers
 obtain ⟨W3,hW3⟩:=ab (w2.alloc (.cells [Value.int .u8 76].toArray 5));have hb3:Below w2.heap.size w2 W3:=by rw [hW3];exact l7 _ _
 have oy:=BOwn.one w2 w.heap.size 76 mV.out.size;rw [<-hW3] at oy;obtain ⟨W4,ra⟩:=ab (W3.alloc (.cells [Value.int .i64 vw,.int .i64 vh,.int .i64 r,.int .i64 c].toArray 3));have hb4:Below W3.heap.size W3 W4:=by rw [ra];exact l7 _ _
 have rh:Has W4 W3.heap.size [.int .i64 vw,.int .i64 vh,.int .i64 r,.int .i64 c] 3:=by rw [ra];exact Has.new W3 _ _
 have ve:=aa (show W3.alloc (.cells #[Value.int .i64 vw,.int .i64 vh,.int .i64 r,.int .i64 c] 3)=W4 from by rw [ra]);obtain ⟨ga,sF⟩:=ab (W3.heap.size);have vk:=aa sF;rw [<-sF] at rh;have vI:=aa (show w2.alloc (.cells #[Value.int .u8 76] 5)=W3 from by rw [hW3]);obtain ⟨g3,hg3⟩:=ab (w2.heap.size);have xg:=aa hg3;rw [<-hg3] at oy;have oY:=aa (oy.below hb4);have HO4L:=aa (show g3<W3.heap.size from (oy.lt g3 rfl).2);have oh:=aa rh;have pT:=aa (m3.out.below hb3 m3.out.lt);have us:=aa (pT.out.below hb4 pT.out.lt);have mu:=aa (mV.out.trans ((hb3.trans (hb4.mono hb3.size)).mono mV.out.size));have vJ:=aa (show gp<g3 from by rw [hg3];exact m3.out.lt);have HWG:=aa (show w.heap.size<=g3 from by rw [hg3];exact mV.out.size);clear hW3 hb3 oy ra hb4 rh sF hg3;have q0:=pT.out.cell 0 _ rfl;have q1:=pT.out.cell 1 _ rfl;have q3:=pT.out.cell 3 _ rfl;have q4:=pT.out.cell 4 _ rfl
 go_upto_region 4 with (fail)
 rw [vI.out,<-xg.out]
 go_upto_region 5 with (fail)
 rw [ve.out,<-vk.out];clear q0 q1 q3 q4 vI ve pT;obtain ⟨NS,t8⟩ : ∃ NS:List Nat,NS=[vw.toNat,vh.toNat,r.toNat,c.toNat]:=⟨_,rfl⟩;have uV:=ot.out;have HNV:=aa (show ∀ j,j<4->([Value.int .i64 vw,.int .i64 vh,.int .i64 r,.int .i64 c]:List Value)[j]? = some (.int .i64 ((NS.getD j 0:Nat):Int))/\NS.getD j 0<2097152 from fun j hj=>by
  rw [t8]
  match j,hj with
  |0,_=>exact ⟨by show some (Value.int .i64 vw)=some (.int .i64 ((vw.toNat:Nat):Int));congr 2;omega,by show vw.toNat<_;omega⟩
  |1,_=>exact ⟨by show some (Value.int .i64 vh)=some (.int .i64 ((vh.toNat:Nat):Int));congr 2;omega,by show vh.toNat<_;omega⟩
  |2,_=>exact ⟨by show some (Value.int .i64 r)=some (.int .i64 ((r.toNat:Nat):Int));congr 2;omega,by show r.toNat<_;omega⟩
  |3,_=>exact ⟨by show some (Value.int .i64 c)=some (.int .i64 ((c.toNat:Nat):Int));congr 2;omega,by show c.toNat<_;omega⟩)
 have HNT:=aa (show ∀ j,j<4->(NS.take (j+1)).flatMap aA=(NS.take j).flatMap aA++aA (NS.getD j 0) from fun j hj=>by rw [t8];exact js _ _ _ _ j hj);have o4:=aa (show ∀ j,((NS.take j).flatMap aA).length<=12 from fun j=>by
  rw [t8];refine kd _ _ _ _ (fun x hx=>?_) j;simp only [List.mem_cons,List.not_mem_nil,or_false] at hx
  rcases hx with rfl | rfl | rfl | rfl <;> omega)
 have tO:=aa (show NS.take 4=NS from by rw [t8];rfl);rw [<-t8] at m9;clear uV t8
 go_loopw [4,26] (fun bv jv wr=>∃ j:Nat,j<=4/\jv=.int .i64 (j:Int)/\Hid (BOwn wr w.heap.size bv ([76]++(NS.take j).flatMap aA)/\Stp w.heap.size W4 (.slice (some ⟨g3,0,none⟩) 1 1) wr bv)) (fun _ jv _=>4 - (intOf jv).toNat)
 case atStart=>exact ⟨0,Nat.zero_le _,rfl,aa ⟨by rw [List.take_zero,List.flatMap_nil,List.append_nil];exact oY.out,Stp.refl _ _ _⟩⟩
 case round =>
  clear oY;obtain ⟨j,hj,rfl,HJ⟩:=hrel;obtain ⟨wj,uy⟩:=ab (wr);subst uy;have yi:=aa (HJ.out.2.has oh.out ((fY _ _ _ _).2 (by have:=vk.out;have:=HO4L.out;omega)))
  by_cases qP:j<4
  ·have d1:(j:Int)<4:=by omega
   have d1b:decide ((j:Int)<4)=true:=ag (by omega);obtain ⟨e1,e2⟩:=HNV.out j qP;have y0:=yi.out.1.cell j _ e1;obtain ⟨N,hN⟩:=ab (NS.getD j 0);rw [<-hN] at y0 e2;obtain ⟨YS,ni⟩:=ab ([76]++(NS.take j).flatMap aA);have ue:YS.length<=13:=by rw [ni,List.length_append];have:=o4.out j;simp only [List.length_singleton];omega
   have hsz:=Nat.le_trans mu.out.size HJ.out.2.1.size;have oM:=aa (eH w.heap.size u4 YS N wj (by rw [ni];exact HJ.out.1) hsz (by omega) e2);have HE:=aa (show YS++aA N=[76]++(NS.take (j+1)).flatMap aA from by rw [HNT.out j qP,ni,hN,List.append_assoc]);have hj4c:j<4:=qP;clear e1 hN ni yi
   go_wp2_with fail
   refine oM.out.mono ?_;rintro e w5 ⟨v5,rfl,nj,s5⟩;have HF:=aa (show BOwn w5 w.heap.size v5 ([76]++(NS.take (j+1)).flatMap aA)/\Stp w.heap.size W4 (.slice (some ⟨g3,0,none⟩) 1 1) w5 v5 from ⟨by rw [<-HE.out];exact nj,HJ.out.2.trans s5⟩);clear nj s5 y0 oM;go_wp2
   go_roundw
   case rel=>exact ⟨j+1,by omega,by go_num,HF⟩
   case measure=>simp [intOf] <;> omega
  ·obtain rfl:j=4:=by omega
   have sj:=aa (HJ.out.2.has us.out ((fY _ _ _ _).2 (by have:=vJ.out;omega)));have ob:=aa (mu.out.trans HJ.out.2.1);obtain ⟨YS,ni⟩:=ab ([76]++(NS.take 4).flatMap aA);have ue:YS.length<=13:=by rw [ni,List.length_append];have:=o4.out 4;simp only [List.length_singleton];omega
   have HPV2:=aa (show PV=YS++[FL]++Ls.flatMap lnB from by rw [m9.out,ni,tO.out]);have qO:=aa (show BOwn wj w.heap.size u4 YS from by rw [ni];exact HJ.out.1);have pr:=aa ob.out.size;obtain ⟨P1,sA⟩ : ∃ P1:Int,P1=if pd=true then 1 else 0:=⟨_,rfl⟩;obtain ⟨A2,tG⟩ : ∃ A2:Int,A2=if au=true then 2 else 0:=⟨_,rfl⟩;have rT:bits .or .u8 P1 A2=FL:=by rw [oR.out,sA,tG];cases pd <;> cases au <;> rfl
   have xO:=aa (fun w'=>cw pd 1 w');have wY:=aa (fun w'=>cw au 2 w');rw [<-sA] at xO;rw [<-tG] at wY;have hd1:decide ((4:Int)<4)=false:=by decide
   clear qP hj ni sA tG yi HJ HNV HNT o4 tO m9 HO4L oh vk
   go_upto_region 9 with (fail)
   obtain ⟨ma,ml⟩ : ∃ EE:Nat->Value->World->Prop,EE=fun jj xx ww=>match jj with
     |0=>xx=u4
     |1=>xx=.pointer (some ⟨gp,3,none⟩)
     |2=>xx=.pointer (some ⟨gp,5,none⟩)
     |3=>xx=.bool pd
     |4=>xx=.int .u8 P1
     |5=>xx=.pointer (some ⟨gp,6,none⟩)
     |6=>xx=.bool au
     |7=>xx=.int .u8 A2
     |8=>xx=.int .u8 FL
     |9=>(fun x w'=>HeldE (a8 .u8) (fun b=>wj.heap.size<=b) w' x [FL]) xx ww
     |10=>(fun x w'=>BOwn w' w.heap.size x (YS++[FL])) xx ww
     |11=>(fun x w'=>BOwn w' w.heap.size x (YS++[FL])) xx ww
     |_=>True:=⟨_,rfl⟩
   have ergp0:∀ xx ww,ma 0 xx ww=(xx=u4):=fun xx ww=>congrFun (congrFun (congrFun ml 0) xx) ww
   have ergp1:∀ xx ww,ma 1 xx ww=(xx=.pointer (some ⟨gp,3,none⟩)):=fun xx ww=>congrFun (congrFun (congrFun ml 1) xx) ww
   have ergp2:∀ xx ww,ma 2 xx ww=(xx=.pointer (some ⟨gp,5,none⟩)):=fun xx ww=>congrFun (congrFun (congrFun ml 2) xx) ww
   have ergp3:∀ xx ww,ma 3 xx ww=(xx=.bool pd):=fun xx ww=>congrFun (congrFun (congrFun ml 3) xx) ww
   have ergp4:∀ xx ww,ma 4 xx ww=(xx=.int .u8 P1):=fun xx ww=>congrFun (congrFun (congrFun ml 4) xx) ww
   have ergp5:∀ xx ww,ma 5 xx ww=(xx=.pointer (some ⟨gp,6,none⟩)):=fun xx ww=>congrFun (congrFun (congrFun ml 5) xx) ww
   have ergp6:∀ xx ww,ma 6 xx ww=(xx=.bool au):=fun xx ww=>congrFun (congrFun (congrFun ml 6) xx) ww
   have ergp7:∀ xx ww,ma 7 xx ww=(xx=.int .u8 A2):=fun xx ww=>congrFun (congrFun (congrFun ml 7) xx) ww
   have ergp8:∀ xx ww,ma 8 xx ww=(xx=.int .u8 FL):=fun xx ww=>congrFun (congrFun (congrFun ml 8) xx) ww
   have ergp9:∀ xx ww,ma 9 xx ww=((fun x w'=>HeldE (a8 .u8) (fun b=>wj.heap.size<=b) w' x [FL]) xx ww):=fun xx ww=>congrFun (congrFun (congrFun ml 9) xx) ww
   have ergp10:∀ xx ww,ma 10 xx ww=((fun x w'=>BOwn w' w.heap.size x (YS++[FL])) xx ww):=fun xx ww=>congrFun (congrFun (congrFun ml 10) xx) ww
   have ergp11:∀ xx ww,ma 11 xx ww=((fun x w'=>BOwn w' w.heap.size x (YS++[FL])) xx ww):=fun xx ww=>congrFun (congrFun (congrFun ml 11) xx) ww
   obtain ⟨np,oX⟩ : ∃ CC:Array Bool->World->Prop,CC=fun L w'=>(Mix.one L 10=0->Below wj.heap.size wj w')/\Below w.heap.size wj w'/\Upd (fun b=>u4.ownBlock=some b) wj w':=⟨_,rfl⟩
   have krgp:∀ i L w,i≠10 ->  np L w->np (L.setIfInBounds i true) w:=by
    intro i L w q10 h;rw [oX] at h ⊢;simp only [Mix.one_ne q10];exact h
   obtain ⟨no,pJ⟩ : ∃ XX:Nat->World->World->Prop,XX=fun kk ww1 ww2=>if kk=10 then (fun x y=>Upd (fun b=>u4.ownBlock=some b) x y) ww1 ww2 else (fun x y=>Below x.heap.size x y) ww1 ww2:=⟨_,rfl⟩
   have xrgp:∀ {k:Nat} (w:World),no k w w:=by
    intro k w;rw [pJ];show if k=10 then _ else _
    split
    ·exact Upd.refl _ _
    ·exact Below.refl _ _
   have crgp:np (Array.replicate 12 false) wj.drew:=by rw [oX];exact ⟨fun _=>(Below.refl _ _).drew,(Below.refl _ _).drew,(Upd.refl _ _).drew⟩
   have brgp:∀ L w w1,np L w->Below w.heap.size w w1->np L w1:=by
    intro L w w1 h hb;rw [oX] at h ⊢
    (obtain ⟨q1,q2,q3⟩:=h;exact ⟨fun e=>(q1 e).trans (hb.mono (q1 e).size),q2.trans (hb.mono (Nat.le_trans pr.out q2.size)),q3.trans (.ofBelow hb)⟩)
   have xbrgp:∀ {k:Nat} (w w1:World),Below w.heap.size w w1->no k w w1:=by
    intro k w w1 hb;rw [pJ];show if k=10 then _ else _
    split
    ·exact Upd.ofBelow hb
    ·exact hb
   have Hrgpb:=aa brgp;have Hrgpxb:Hid (∀ {k:Nat} (w w1:World),Below w.heap.size w w1->no k w w1):=@xbrgp;clear brgp xbrgp;have pl:=aa ml;clear ml;have mt:=aa krgp;have mw:Hid (∀ {k:Nat} (w:World),no k w w):=@xrgp;have Hrgpc:=aa crgp;have mr:=aa oX;have po:=aa pJ;have nX:=aa ergp0;have nY:=aa ergp1;have nU:=aa ergp2;have nN:=aa ergp3;have nL:=aa ergp4;have nR:=aa ergp5;have nV:=aa ergp6;have nB:=aa ergp7;have nM:=aa ergp8;have nI:=aa ergp9;have nz:=aa ergp10;have ny:=aa ergp11;clear krgp xrgp crgp oX pJ ergp0 ergp1 ergp2 ergp3 ergp4 ergp5 ergp6 ergp7 ergp8 ergp9 ergp10 ergp11
   go_wp2_with fail
   refine RegX.regionF ma np no ?_ (by kernel_rfl) (by kernel_rfl) (by kernel_rfl) Hrgpc.out (fun Frgp mh=>?_)
   ·intro ii jj x w w1 oc hr hx h;rw [po.out] at hx
    by_cases hi:ii=10
    ·subst hi;simp only [if_pos] at hx
     match jj with
     |0=>rw [nX.out] at h ⊢;exact h
     |1=>rw [nY.out] at h ⊢;exact h
     |2=>rw [nU.out] at h ⊢;exact h
     |3=>rw [nN.out] at h ⊢;exact h
     |4=>rw [nL.out] at h ⊢;exact h
     |5=>rw [nR.out] at h ⊢;exact h
     |6=>rw [nV.out] at h ⊢;exact h
     |7=>rw [nB.out] at h ⊢;exact h
     |8=>rw [nM.out] at h ⊢;exact h
     |9=>rw [nI.out] at h ⊢;(exact HeldE.upd h hx (fun b hb e=>by have:=(qO.out.lt b e).2;omega))
     |10=>exact absurd rfl oc
     |11=>exact absurd (hr.symm.trans (show Reg.reach _ 6 11 10=true from by kernel_rfl)) (by decide)
     |jj+12=>rw [pl.out];trivial
    ·simp only [if_neg hi] at hx
     match jj with
     |0=>rw [nX.out] at h ⊢;exact h
     |1=>rw [nY.out] at h ⊢;exact h
     |2=>rw [nU.out] at h ⊢;exact h
     |3=>rw [nN.out] at h ⊢;exact h
     |4=>rw [nL.out] at h ⊢;exact h
     |5=>rw [nR.out] at h ⊢;exact h
     |6=>rw [nV.out] at h ⊢;exact h
     |7=>rw [nB.out] at h ⊢;exact h
     |8=>rw [nM.out] at h ⊢;exact h
     |9=>rw [nI.out] at h ⊢;(first | exact HeldE.below h hx | exact OwnE.below h hx)
     |10=>rw [nz.out] at h ⊢;(first | exact HeldE.below h hx | exact OwnE.below h hx)
     |11=>rw [ny.out] at h ⊢;(first | exact HeldE.below h hx | exact OwnE.below h hx)
     |jj+12=>rw [pl.out];trivial
   simp only [Reg.frame,Reg.dsts,List.map_cons,List.map_nil,Mix.put_lit,List.set_cons_succ,List.set_cons_zero,Nat.zero_add,Nat.reduceAdd] at mh;refine ⟨?_,?_⟩
   ·refine ⟨?_,?_,?_,?_,?_,?_,?_,?_,?_,?_,?_,?_,trivial⟩
    ·intro Lq wq xq hh;have d11:=hh.old 11 (by kernel_rfl);simp only [mh,d11];clear d11;refine .inl ⟨rfl,?_⟩;unfold Reg.upon;have hk:=mt.out 0 Lq wq (by decide)  hh.cls;have hx:no 0 wq wq:=mw.out wq;have he:ma 0 (u4) wq:=by rw [nX.out]
     have HK:=aa (And.intro hk (And.intro he hx));clear hk hx he;go_simp;exact HK.out
    ·intro Lq wq xq hh;simp only [mh];refine .inl ⟨rfl,?_⟩;unfold Reg.upon;have hk:=mt.out 1 Lq wq (by decide)  hh.cls;have hx:no 1 wq wq:=mw.out wq;have he:ma 1 (.pointer (some ⟨gp,3,none⟩)) wq:=by rw [nY.out]
     have HK:=aa (And.intro hk (And.intro he hx));clear hk hx he;go_simp;exact HK.out
    ·intro Lq wq xq hh;have d1:ma 1 (xq 1) wq:=hh.val 1 (by kernel_rfl) (by kernel_rfl);rw [nY.out] at d1;simp only [mh,d1];clear d1;refine .inl ⟨rfl,?_⟩;unfold Reg.upon;have hk:=mt.out 2 Lq wq (by decide)  hh.cls;have hx:no 2 wq wq:=mw.out wq;have he:ma 2 (.pointer (some ⟨gp,5,none⟩)) wq:=by rw [nU.out]
     have HK:=aa (And.intro hk (And.intro he hx));clear hk hx he;go_simp;exact HK.out
    ·intro Lq wq xq hh;have d2:ma 2 (xq 2) wq:=hh.val 2 (by kernel_rfl) (by kernel_rfl);rw [nU.out] at d2;simp only [mh,d2];clear d2;refine .inl ⟨rfl,?_⟩;unfold Reg.upon;have hc:np Lq wq:=hh.cls;rw [mr.out] at hc;have q0:=((hc.1 (Mix.one_un (hh.notYet 10 (by kernel_rfl)))).cell (p:=⟨gp,5,none⟩) sj.out.1.lt).trans (sj.out.1.cell 5 _ rfl);clear hc;have hk:=mt.out 3 Lq wq (by decide)  hh.cls;have hx:no 3 wq wq:=mw.out wq;have he:ma 3 (.bool pd) wq:=by rw [nN.out]
     have HK:=aa (And.intro hk (And.intro he hx));clear hk hx he;go_simp;exact HK.out
    ·intro Lq wq xq hh;have d3:ma 3 (xq 3) wq:=hh.val 3 (by kernel_rfl) (by kernel_rfl);rw [nN.out] at d3;simp only [mh,d3];clear d3;refine .inl ⟨rfl,?_⟩;unfold Reg.upon;have hc:np Lq wq:=hh.cls;rw [mr.out] at hc;go_simp;refine (xO.out wq).mono ?_;rintro e w2 ⟨rfl,rfl⟩;exact ⟨_,rfl,mt.out 4 Lq wq (by decide)  hh.cls,(by rw [nL.out];try rfl),mw.out _⟩
    ·intro Lq wq xq hh;simp only [mh];refine .inl ⟨rfl,?_⟩;unfold Reg.upon;have hk:=mt.out 5 Lq wq (by decide)  hh.cls;have hx:no 5 wq wq:=mw.out wq;have he:ma 5 (.pointer (some ⟨gp,6,none⟩)) wq:=by rw [nR.out]
     have HK:=aa (And.intro hk (And.intro he hx));clear hk hx he;go_simp;exact HK.out
    ·intro Lq wq xq hh;have d5:ma 5 (xq 5) wq:=hh.val 5 (by kernel_rfl) (by kernel_rfl);rw [nR.out] at d5;simp only [mh,d5];clear d5;refine .inl ⟨rfl,?_⟩;unfold Reg.upon;have hc:np Lq wq:=hh.cls;rw [mr.out] at hc;have q0:=((hc.1 (Mix.one_un (hh.notYet 10 (by kernel_rfl)))).cell (p:=⟨gp,6,none⟩) sj.out.1.lt).trans (sj.out.1.cell 6 _ rfl);clear hc;have hk:=mt.out 6 Lq wq (by decide)  hh.cls;have hx:no 6 wq wq:=mw.out wq;have he:ma 6 (.bool au) wq:=by rw [nV.out]
     have HK:=aa (And.intro hk (And.intro he hx));clear hk hx he;go_simp;exact HK.out
    ·intro Lq wq xq hh;have d6:ma 6 (xq 6) wq:=hh.val 6 (by kernel_rfl) (by kernel_rfl);rw [nV.out] at d6;simp only [mh,d6];clear d6;refine .inl ⟨rfl,?_⟩;unfold Reg.upon;have hc:np Lq wq:=hh.cls;rw [mr.out] at hc;go_simp;refine (wY.out wq).mono ?_;rintro e w2 ⟨rfl,rfl⟩;exact ⟨_,rfl,mt.out 7 Lq wq (by decide)  hh.cls,(by rw [nB.out];try rfl),mw.out _⟩
    ·intro Lq wq xq hh;have d4:ma 4 (xq 4) wq:=hh.val 4 (by kernel_rfl) (by kernel_rfl);rw [nL.out] at d4;have d7:ma 7 (xq 7) wq:=hh.val 7 (by kernel_rfl) (by kernel_rfl);rw [nB.out] at d7;simp only [mh,d4,d7];clear d4 d7;refine .inl ⟨rfl,?_⟩;unfold Reg.upon;have hk:=mt.out 8 Lq wq (by decide)  hh.cls;have hx:no 8 wq wq:=mw.out wq;have he:ma 8 (.int .u8 FL) wq:=by rw [nM.out]
     have HK:=aa (And.intro hk (And.intro he hx));clear hk hx he;go_simp;exact HK.out
    ·intro Lq wq xq hh;have d8:ma 8 (xq 8) wq:=hh.val 8 (by kernel_rfl) (by kernel_rfl);rw [nM.out] at d8;simp only [mh,d8];clear d8;refine .inl ⟨rfl,?_⟩;unfold Reg.upon;have hc:np Lq wq:=hh.cls;rw [mr.out] at hc;go_simp;have hb:=(Below.refl (wq).heap.size wq).alloc (Nat.le_refl _) (.cells [Value.int .u8 FL].toArray 5);refine ⟨mt.out 9 Lq _ (by decide) (Hrgpb.out Lq wq _ hh.cls hb),?_,Hrgpxb.out wq _ hb⟩;rw [nI.out];exact cE (E:=a8 .u8) (w:=wq) (ty:=5) (Y:=fun _=>False) (Z:=fun b=>wj.heap.size<=b) [.int .u8 FL] FL rfl (fun _ _ h=>h.elim) (hc.1 (Mix.one_un (hh.notYet 10 (by kernel_rfl)))).size
    ·intro Lq wq xq hh;have d0:ma 0 (xq 0) wq:=hh.val 0 (by kernel_rfl) (by kernel_rfl);rw [nX.out] at d0;have d9:ma 9 (xq 9) wq:=hh.val 9 (by kernel_rfl) (by kernel_rfl);rw [nI.out] at d9;simp only [mh,d0];clear d0;refine .inl ⟨rfl,?_⟩;unfold Reg.upon;have hc:np Lq wq:=hh.cls;rw [mr.out] at hc;have hc7:=hc.1 hh.un;obtain ⟨v',w',hr,h1,h2,h3,h4⟩:=cO (P:=Tryd.prog) (E:=a8 .u8) (Z:=fun _=>True) (w:=wq) (B:=w.heap.size) (ty:=5) 46 _ (.int .u8 0) 1 Tryd.underlying46 Tryd.info5 rfl (by decide) (qO.out.below hc7) (d9.zone (Y:=fun b=>True/\u4.ownBlock≠some b) (fun b _ hz=>⟨trivial,fun e=>by have:=(qO.out.lt b e).2;omega⟩)) (by simp;omega) (by simp;omega) (Nat.le_trans pr.out hc7.size);have hu:Upd (fun b=>u4.ownBlock=some b) wq w':=⟨h2.os,h2.tape,h2.output,h3.size,fun b hb hn=>h3.block b hb hn⟩;rw [eR rfl rfl rfl hr];refine ⟨?_,?_,?_⟩
     ·rw [mr.out];refine ⟨fun e=>?_,hc.2.1.trans h2,hc.2.2.trans hu⟩;rw [Mix.one_set (by rw [hh.size];decide)] at e;exact absurd e (by decide)
     ·rw [nz.out];exact h1
     ·rw [po.out];exact hu
    ·intro Lq wq xq hh;have d10:ma 10 (xq 10) wq:=hh.val 10 (by kernel_rfl) (by kernel_rfl);rw [nz.out] at d10;simp only [mh];refine .inl ⟨rfl,?_⟩;unfold Reg.upon;go_simp;exact ⟨mt.out 11 Lq wq (by decide) hh.cls,(by rw [ny.out];exact d10),mw.out _⟩
   intro xq wrgp hcrgp hvrgp;rw [mr.out] at hcrgp;simp only [mh];have vrgp11:ma 11 (xq 11) wrgp:=hvrgp 11 (by decide);rw [ny.out] at vrgp11;clear hvrgp mh mt mw pl Hrgpc mr po Hrgpb Hrgpxb nX nY nU nN nL nR nV nB nM nI nz ny;obtain ⟨_,kb,ku⟩:=hcrgp;have tM:=aa (ku.keep.has sj.out.1 (fun e=>sj.out.2 e));have sV:=aa (ob.out.trans kb);have vZ:=aa vrgp11;obtain ⟨HD,tC⟩:=ab (YS++[FL]);have hhd:HD.length<=14:=by rw [tC,List.length_append,List.length_singleton];omega
   rw [<-tC] at HPV2 vZ;have q2:=tM.out.cell 2 _ rfl;obtain ⟨wk,pn⟩:=ab (wrgp);rw [<-pn] at tM sV vZ q2 ⊢;have tA:=aa (fX Ls (fun i hi=>⟨(ot.out.2.2.2.2.2.2.2.2.2 i hi).2,by have:=(ot.out.2.2.2.2.2.2.2.2.2 i hi).1;have:=ot.out.2.1;omega⟩));have hnl1:nl<=1024:=by have:=ot.out;rw [rS.out];omega
   clear kb ku vrgp11 tC pn sj ob qO pr xO wY rT hd1 ue us mu
   go_upto_region 11 with (fail)
   clear q2
   go_loopw [4,48] (fun bv iv wr=>∃ i:Nat,i<=nl/\iv=.int .i64 (i:Int)/\Hid (BOwn wr w.heap.size bv (HD++(Ls.take i).flatMap lnB)/\Below w.heap.size w wr)) (fun _ iv _=>nl - (intOf iv).toNat)
   case atStart=>exact ⟨0,Nat.zero_le _,rfl,aa ⟨by rw [List.take_zero,List.flatMap_nil,List.append_nil];exact vZ.out,sV.out⟩⟩
   case round =>
    clear vZ sV tM;obtain ⟨i,hi,rfl,HI⟩:=hrel;obtain ⟨wi,vA⟩:=ab (wr);subst vA
    by_cases mS:i<nl
    ·have d1:(i:Int)<(nl:Int):=by omega
     have d1b:decide ((i:Int)<(nl:Int))=true:=ag (by omega);have oV:i<Ls.length:=by rw [<-rS.out];exact mS
     obtain ⟨b,off,tv,e0,hb,_,c0,c1,hh⟩:=(aP sm.out).2.2 i oV;subst e0;have px:=ot.out.2.2.2.2.2.2.2.2.2 i oV;have sx:=ot.out.2.1;obtain ⟨⟨C,g⟩,sU⟩ : ∃ y,y=Ls.getD i zl:=⟨_,rfl⟩;rw [<-sU] at c1 hh px;simp only at c1 hh px;obtain ⟨tx,tc,etv⟩:=hh.len;subst etv;have c0:=(HI.out.2.cell (p:=⟨b,off+i * 2,none⟩) hb).trans c0;have c1:=(HI.out.2.cell (p:=⟨b,off+i * 2+1,none⟩) hb).trans c1;obtain ⟨X1,qk⟩:=ab (wi.alloc (.cells [Value.slice tx C.length tc,.bool g].toArray 69));have hb1:Below wi.heap.size wi X1:=by rw [qk];exact l7 _ _
     have l8:Has X1 wi.heap.size [.slice tx C.length tc,.bool g] 69:=by rw [qk];exact Has.new wi _ _
     have HX1:=aa (show wi.alloc (.cells #[Value.slice tx C.length tc,.bool g] 69)=X1 from by rw [qk]);obtain ⟨g1,hg1⟩:=ab (wi.heap.size);have oL:=aa hg1;rw [<-hg1] at l8;have rP:=aa (HI.out.2.trans (hb1.mono HI.out.2.size));obtain ⟨YI,rm⟩:=ab (HD++(Ls.take i).flatMap lnB);have HOX:=aa (show BOwn X1 w.heap.size u4 YI from by rw [rm];exact HI.out.1.below hb1);have hyi:YI.length<=80000000:=by
      rw [rm,List.length_append];have h1:=tA.out i (by omega);have h2:i * 71681<=1024 * 71681:=Nat.mul_le_mul_right _ (by omega);omega
     obtain ⟨G1,pe⟩ : ∃ G1:Int,G1=if g=true then 1 else 0:=⟨_,rfl⟩;have qN:=aa (cw g 1 X1);rw [<-pe] at qN;have uT:=aa (show (YI++[G1])++aF C=HD++(Ls.take (i+1)).flatMap lnB from by
      rw [rm,List.take_succ_eq_append_getElem oV,List.flatMap_append,List.flatMap_singleton,show Ls[i]=Ls.getD i zl from by simp [List.getD,List.getElem?_eq_getElem oV],<-sU,pe];unfold lnB
      simp)
     have HCH:=aa ((hh.below HI.out.2).below hb1);have qz:=aa (dh px.2);have nw:C.length<=1024:=by omega
     have og:=aa l8;have z0:=l8.cell 0 _ rfl;have z1:=l8.cell 1 _ rfl;have tW:=aa rP.out.size;have HGX:=aa (show u4.ownBlock≠some g1 from (show BOwn wi w.heap.size u4 (HD++(Ls.take i).flatMap lnB) from HI.out.1).off (by omega));clear sU hb hh qk hb1 l8 hg1 rm pe px sx HI
     go_upto_region 13 with (fail)
     rw [HX1.out,<-oL.out];clear c0 c1
     go_wp2_with fail
     refine qN.out.mono ?_;rintro e w3 ⟨rfl,rfl⟩
     go_wp2_with (at_builtin;refine dJ rfl (.tmp 52) (.tmp 56) 46 rfl Tryd.underlying46 G1 rfl rfl HOX.out (by omega) tW.out ?_)
     intro v4 w4 mY s4;have wQ:=aa (s4.has og.out HGX.out);have mu:=aa (rP.out.trans s4.1);have z0:=wQ.out.1.cell 0 _ rfl;have sO:=aa (jt w.heap.size v4 (YI++[G1]) (fun b=>b<w.heap.size) (.slice tx C.length tc) C w4 mY mu.out.size (by rw [List.length_append,List.length_singleton];omega) (by omega) qz.out ((s4.held HCH.out (fun b hb e=>by have:=(HOX.out.lt b e).1;omega)).zone fun b _ hz=>hz.1) (fun b hb e=>by have:=(mY.lt b e).1;omega));clear mY s4 z1
     go_wp2_with fail
     refine sO.out.mono ?_;rintro e w5 ⟨v5,rfl,nj,s5⟩;have HF:=aa (show BOwn w5 w.heap.size v5 (HD++(Ls.take (i+1)).flatMap lnB)/\Below w.heap.size w w5 from ⟨by rw [<-uT.out];exact nj,mu.out.trans s5.1⟩);clear nj s5 z0;go_wp2
     go_roundw
     case rel=>exact ⟨i+1,by omega,by go_num,HF⟩
     case measure=>simp [intOf] <;> omega
    ·obtain rfl:i=nl:=by omega
     have d1:¬ (i:Int)<(i:Int):=by omega
     have d1b:decide ((i:Int)<(i:Int))=false:=ah (by omega);have HF:=aa (show BOwn wi w.heap.size u4 PV/\Below w.heap.size w wi from ⟨by
      have h:=HI.out.1;rw [rS.out,List.take_length,<-HPV2.out] at h;exact h,HI.out.2⟩)
     clear mS HI;go_wp2;exact bodyPost_ret (v:=.tuple #[u4,.nilIface]) (by simp [results,Tryd.results18,go_sem]) rfl ⟨u4,rfl,HF.out.1,HF.out.2⟩
end Go.Proofs.YtechjomepdahiaaDoor
