import Derived.Test.YtechjomepdahiaaDoorZ0
import Derived.Test.YtechjomepdahiaaDoorWirB
import Derived.Test.YtechjomepdahiaaDoorAudE
import Derived.Test.YtechjomepdahiaaDoorMg4
import Derived.Test.YtechjomepdahiaaDoorMg1
set_option maxRecDepth 100000
set_option linter.unusedVariables false
set_option linter.unusedSimpArgs false
set_option maxHeartbeats 4000000
namespace Go.Proofs.YtechjomepdahiaaDoor
open Go.RowKit Go.ChangeShapes Go.WideShapes
theorem dP{v:Vw}(h:ax v=true):1<=v.w/\v.w<=1024/\1<=v.h/\v.h<=1024/\v.h=(v.L.length:Int)/\0<=v.r/\v.r<v.h/\0<=v.c/\v.c<v.w/\∀ i,i<v.L.length->((v.L.getD i zl).1.length:Int)=v.w/\aG (v.L.getD i zl).1=true:=by
 rw [eD] at h;simp only [Bool.and_eq_true,beq_iff_eq] at h;obtain ⟨⟨⟨⟨h1,h2⟩,h3⟩,h4⟩,h5⟩:=h;obtain ⟨vw,vh,Ls,r,c,pd,au⟩:=v;simp only at h1 h2 h3 h4 h5 ⊢;unfold aA at h1 h2;simp only [Bool.and_eq_true,decide_eq_true_eq] at h1 h2;have pO:0<=r/\r<vh/\0<=c/\c<vw:=by
  unfold ap aD at h4;simp only [Bool.and_eq_true,Bool.or_eq_true,decide_eq_true_eq] at h4;obtain ⟨⟨⟨⟨a1,a2⟩,a3⟩,a4⟩,_⟩:=h4;omega
 refine ⟨h1.1,h1.2,h2.1,h2.2,h3,pO.1,pO.2.1,pO.2.2.1,pO.2.2.2,fun i hi=>?_⟩;have:=List.all_eq_true.1 h5 i (List.mem_range.2 hi);unfold cl at this;rw [Bool.and_eq_true,decide_eq_true_eq] at this;exact this
theorem db{C:List Cl}(h:aG C=true):∀ c ∈ C,am c=true:=fun c hc=>by
 obtain ⟨i,hi,rfl⟩:=List.getElem_of_mem hc;have:=((dz C).1 h i hi).1;rw [show C.getD i zc=C[i] from by simp [List.getD,List.getElem?_eq_getElem hi]] at this;exact this
theorem kw{l:Ln}(h:aG l.1=true)(hl:l.1.length<=1024):(lnB l).length<=71681:=by
 unfold lnB;rw [List.length_cons];have:=bT l.1.length l.1 (Nat.le_refl _) (by omega) (db h);omega
theorem fJ(Ls:List Ln)(h:∀ i,i<Ls.length->aG (Ls.getD i zl).1=true/\(Ls.getD i zl).1.length<=1024):∀ k,k<=Ls.length->((Ls.take k).flatMap lnB).length<=k * 71681
 |0=>fun _=>by simp
 |k+1=>fun hk=>by
  have ih:=fJ Ls h k (by omega);have sE:k<Ls.length:=hk;obtain ⟨h1,h2⟩:=h k sE;rw [show Ls.getD k zl=Ls[k] from by simp [List.getD,List.getElem?_eq_getElem sE]] at h1 h2;rw [List.take_succ_eq_append_getElem sE,List.flatMap_append,List.flatMap_singleton,List.length_append];have:=kw h1 h2;omega
theorem jM(sa:Nat->Addr)(v:Vw)(lv:Value)(w:World)(hs:Five w sa)(hv:ViewAt w v lv)(hr:ax v=false):Calls Tryd.prog 18 #[bo v lv] w (Gives w (.tuple #[.slice none 0 0,.iface 186 (.pointer (some (sa 4)))])):=by
 obtain ⟨W1,hW1⟩:=ab (w.alloc (.cells (ch v lv).toArray 44));have hb1:Below w.heap.size w W1:=by rw [hW1];exact lD _ _
 have lF:Has W1 w.heap.size (ch v lv) 44:=by rw [hW1];exact Has.new w _ _
 have pN:=aa (ee sa v lv W1 (hs.below hb1) (hv.below hb1));rw [hr] at pN;have pS:=aa (hs.below hb1);have mq:=aa hb1;obtain ⟨lo,lc,elv⟩:=hv.1.len;subst elv;obtain ⟨vw,vh,Ls,r,c,pd,au⟩:=v;have l5:=aa (show w.alloc (.cells #[Value.int .i64 vw,.int .i64 vh,.slice lo Ls.length lc,.int .i64 r,.int .i64 c,.bool pd,.bool au] 44)=W1 from by rw [hW1];rfl);unfold bo at pN ⊢;unfold ch at lF;simp only at pN lF ⊢;obtain ⟨gp,m3⟩:=ab (w.heap.size);have pl:=aa m3;rw [<-m3] at lF;have q0:=lF.cell 0 _ rfl;have q1:=lF.cell 1 _ rfl;have q2:=lF.cell 2 _ rfl;have q3:=lF.cell 3 _ rfl;have q4:=lF.cell 4 _ rfl;have q5:=lF.cell 5 _ rfl;have q6:=lF.cell 6 _ rfl;clear hW1 hb1 lF m3 hv hs hr
 go_enter Tryd.func18,Tryd.ntmps18
 go_upto_region 1 with (fail)
 rw [l5.out,<-pl.out]
 go_wp2_with fail
 refine (pN.out).mono ?_;rintro e w2 ⟨rfl,b2⟩;have c4:=(pS.out.below b2).cell 4 (by decide);simp only [F.glob] at c4;have HF:=aa (mq.out.trans (b2.mono mq.out.size));clear q0 q1 q2 q3 q4 q5 q6 b2;go_wp2
 go_quiet (fail)
 go_wp2
 go_ret2
 exact ⟨rfl,HF.out.drewN _⟩
theorem fK(g n cap x:Nat):(Value.slice (some ⟨g,0,none⟩) n cap).ownBlock≠some x↔x≠g:=by
 show (some g≠some x)↔_;constructor
 ·intro h e;exact h (by rw [e])
 ·intro h e;exact h (by cases e;rfl)
theorem iX(a b c d:Nat)(j:Nat)(hj:j<4):((([a,b,c,d]:List Nat).take (j+1)).flatMap az)=(([a,b,c,d]:List Nat).take j).flatMap az++az (([a,b,c,d]:List Nat).getD j 0):=by
 rw [List.take_succ_eq_append_getElem (by simpa using hj),List.flatMap_append,List.flatMap_singleton]
 congr 2
 simp [List.getD,List.getElem?_eq_getElem (show j<([a,b,c,d]:List Nat).length by simpa using hj)]
theorem jN(a b c d:Nat)(h:∀ x ∈ [a,b,c,d],x<2097152):∀ j,((([a,b,c,d]:List Nat).take j).flatMap az).length<=12:=by
 intro j;have n1:=(aC (h a (by simp))).2;have n2:=(aC (h b (by simp))).2;have n3:=(aC (h c (by simp))).2;have n4:=(aC (h d (by simp))).2
 match j with
 | 0=>simp
 | 1=>simp;omega
 | 2=>simp;omega
 | 3=>simp;omega
 | j+4=>simp;omega
theorem ey(sa:Nat->Addr)(v:Vw)(lv:Value)(w:World)(hs:Five w sa)(hv:ViewAt w v lv)(hr:ax v=true):Calls Tryd.prog 18 #[bo v lv] w (fun e w'=>∃ u,e=.returned (.tuple #[u,.nilIface])/\BOwn w' w.heap.size u (aL v)/\Below w.heap.size w w'):=by
 obtain ⟨W1,hW1⟩:=ab (w.alloc (.cells (ch v lv).toArray 44));have hb1:Below w.heap.size w W1:=by rw [hW1];exact lD _ _
 have lF:Has W1 w.heap.size (ch v lv) 44:=by rw [hW1];exact Has.new w _ _
 have pN:=aa (ee sa v lv W1 (hs.below hb1) (hv.below hb1));rw [hr] at pN;have mq:=aa hb1;have nD:=aa (dP hr);have sI:=aa hv.1.lower;obtain ⟨lo,lc,elv⟩:=hv.1.len;subst elv;have hlc:=(aU hv.1).2.1;have my:=aa (show aL v=[76]++([v.w.toNat,v.h.toNat,v.r.toNat,v.c.toNat]:List Nat).flatMap az++[bN v]++v.L.flatMap lnB from by unfold aL;simp);have od:=aa (show bN v=(if v.pd=true then 1 else 0)+(if v.au=true then 2 else 0) from rfl);obtain ⟨vw,vh,Ls,r,c,pd,au⟩:=v;obtain ⟨FL,ux⟩:=ab (bN ⟨vw,vh,Ls,r,c,pd,au⟩);rw [<-ux] at my od;simp only at my od nD sI hlc;obtain ⟨PV,tK⟩:=ab (aL ⟨vw,vh,Ls,r,c,pd,au⟩);rw [<-tK] at my ⊢;have l5:=aa (show w.alloc (.cells #[Value.int .i64 vw,.int .i64 vh,.slice lo Ls.length lc,.int .i64 r,.int .i64 c,.bool pd,.bool au] 44)=W1 from by rw [hW1];rfl);unfold bo at pN ⊢;unfold ch at lF;simp only at pN lF hlc ⊢;obtain ⟨nl,l9⟩:=ab (Ls.length);have rc:=aa l9;rw [<-l9] at pN lF l5 sI hlc ⊢;obtain ⟨gp,m3⟩:=ab (w.heap.size);have pl:=aa m3;rw [<-m3] at lF;have mG:=aa lF;have q0:=lF.cell 0 _ rfl;have q1:=lF.cell 1 _ rfl;have q2:=lF.cell 2 _ rfl;have q3:=lF.cell 3 _ rfl;have q4:=lF.cell 4 _ rfl;have q5:=lF.cell 5 _ rfl;have q6:=lF.cell 6 _ rfl;clear hW1 hb1 lF m3 hv hs hr tK ux l9
 go_enter Tryd.func18,Tryd.ntmps18
 go_upto_region 1 with (fail)
 rw [l5.out,<-pl.out]
 go_wp2_with fail
 refine (pN.out).mono ?_;rintro e w2 ⟨rfl,b2⟩;have lS:=aa (mG.out.below b2 mG.out.lt);have l2:=aa (mq.out.trans (b2.mono mq.out.size));clear q0 q1 q2 q3 q4 q5 q6 b2 pN mG mq
 -- the first byte,the four numbers
 obtain ⟨W3,hW3⟩:=ab (w2.alloc (.cells [Value.int .u8 76].toArray 5));have hb3:Below w2.heap.size w2 W3:=by rw [hW3];exact lD _ _
 have ot:=BOwn.one w2 w.heap.size 76 l2.out.size;rw [<-hW3] at ot;obtain ⟨W4,qB⟩:=ab (W3.alloc (.cells [Value.int .i64 vw,.int .i64 vh,.int .i64 r,.int .i64 c].toArray 3));have hb4:Below W3.heap.size W3 W4:=by rw [qB];exact lD _ _
 have qq:Has W4 W3.heap.size [.int .i64 vw,.int .i64 vh,.int .i64 r,.int .i64 c] 3:=by rw [qB];exact Has.new W3 _ _
 have uy:=aa (show W3.alloc (.cells #[Value.int .i64 vw,.int .i64 vh,.int .i64 r,.int .i64 c] 3)=W4 from by rw [qB]);obtain ⟨ga,xw⟩:=ab (W3.heap.size);have wF:=aa xw;rw [<-xw] at qq;have vo:=aa (show w2.alloc (.cells #[Value.int .u8 76] 5)=W3 from by rw [hW3]);obtain ⟨g3,hg3⟩:=ab (w2.heap.size);have xB:=aa hg3;rw [<-hg3] at ot;have oo:=aa (ot.below hb4);have HO4L:=aa (show g3<W3.heap.size from (ot.lt g3 rfl).2);have pG:=aa qq;have o8:=aa (lS.out.below hb3 lS.out.lt);have tD:=aa (o8.out.below hb4 o8.out.lt);have lW:=aa (l2.out.trans ((hb3.trans (hb4.mono hb3.size)).mono l2.out.size));have vm:=aa (show gp<g3 from by rw [hg3];exact lS.out.lt);have HWG:=aa (show w.heap.size<=g3 from by rw [hg3];exact l2.out.size);clear hW3 hb3 ot qB hb4 qq xw hg3;have q0:=o8.out.cell 0 _ rfl;have q1:=o8.out.cell 1 _ rfl;have q3:=o8.out.cell 3 _ rfl;have q4:=o8.out.cell 4 _ rfl
 go_upto_region 4 with (fail)
 rw [vo.out,<-xB.out]
 go_upto_region 5 with (fail)
 rw [uy.out,<-wF.out];clear q0 q1 q3 q4 vo uy o8;obtain ⟨NS,th⟩ : ∃ NS:List Nat,NS=[vw.toNat,vh.toNat,r.toNat,c.toNat]:=⟨_,rfl⟩;have ui:=nD.out;have HNV:=aa (show ∀ j,j<4->([Value.int .i64 vw,.int .i64 vh,.int .i64 r,.int .i64 c]:List Value)[j]? = some (.int .i64 ((NS.getD j 0:Nat):Int))/\NS.getD j 0<2097152 from fun j hj=>by
  rw [th]
  match j,hj with
  |0,_=>exact ⟨by show some (Value.int .i64 vw)=some (.int .i64 ((vw.toNat:Nat):Int));congr 2;omega,by show vw.toNat<_;omega⟩
  |1,_=>exact ⟨by show some (Value.int .i64 vh)=some (.int .i64 ((vh.toNat:Nat):Int));congr 2;omega,by show vh.toNat<_;omega⟩
  |2,_=>exact ⟨by show some (Value.int .i64 r)=some (.int .i64 ((r.toNat:Nat):Int));congr 2;omega,by show r.toNat<_;omega⟩
  |3,_=>exact ⟨by show some (Value.int .i64 c)=some (.int .i64 ((c.toNat:Nat):Int));congr 2;omega,by show c.toNat<_;omega⟩)
 have HNT:=aa (show ∀ j,j<4->(NS.take (j+1)).flatMap az=(NS.take j).flatMap az++az (NS.getD j 0) from fun j hj=>by rw [th];exact iX _ _ _ _ j hj);have n8:=aa (show ∀ j,((NS.take j).flatMap az).length<=12 from fun j=>by
  rw [th];refine jN _ _ _ _ (fun x hx=>?_) j;simp only [List.mem_cons,List.not_mem_nil,or_false] at hx
  rcases hx with rfl | rfl | rfl | rfl <;> omega)
 have tB:=aa (show NS.take 4=NS from by rw [th];rfl);rw [<-th] at my;clear ui th
 go_loopw [4,26] (fun bv jv wr=>∃ j:Nat,j<=4/\jv=.int .i64 (j:Int)/\Hid (BOwn wr w.heap.size bv ([76]++(NS.take j).flatMap az)/\Stp w.heap.size W4 (.slice (some ⟨g3,0,none⟩) 1 1) wr bv)) (fun _ jv _=>4 - (intOf jv).toNat)
 case atStart=>exact ⟨0,Nat.zero_le _,rfl,aa ⟨by rw [List.take_zero,List.flatMap_nil,List.append_nil];exact oo.out,Stp.refl _ _ _⟩⟩
 case round =>
  clear oo;obtain ⟨j,hj,rfl,HJ⟩:=hrel;obtain ⟨wj,tW⟩:=ab (wr);subst tW;have wM:=aa (HJ.out.2.has pG.out ((fK _ _ _ _).2 (by have:=wF.out;have:=HO4L.out;omega)))
  by_cases pW:j<4
  ·have d1:(j:Int)<4:=by omega
   have d1b:decide ((j:Int)<4)=true:=ag (by omega);obtain ⟨e1,e2⟩:=HNV.out j pW;have y0:=wM.out.1.cell j _ e1;obtain ⟨N,hN⟩:=ab (NS.getD j 0);rw [<-hN] at y0 e2;obtain ⟨YS,mF⟩:=ab ([76]++(NS.take j).flatMap az);have tw:YS.length<=13:=by rw [mF,List.length_append];have:=n8.out j;simp only [List.length_singleton];omega
   have hsz:=Nat.le_trans lW.out.size HJ.out.2.1.size;have n7:=aa (ez w.heap.size u4 YS N wj (by rw [mF];exact HJ.out.1) hsz (by omega) e2);have HE:=aa (show YS++az N=[76]++(NS.take (j+1)).flatMap az from by rw [HNT.out j pW,mF,hN,List.append_assoc]);have hj4c:j<4:=pW;clear e1 hN mF wM
   go_wp2_with fail
   refine n7.out.mono ?_;rintro e w5 ⟨v5,rfl,mE,s5⟩;have HF:=aa (show BOwn w5 w.heap.size v5 ([76]++(NS.take (j+1)).flatMap az)/\Stp w.heap.size W4 (.slice (some ⟨g3,0,none⟩) 1 1) w5 v5 from ⟨by rw [<-HE.out];exact mE,HJ.out.2.trans s5⟩);clear mE s5 y0 n7;go_wp2
   go_roundw
   case rel=>exact ⟨j+1,by omega,by go_num,HF⟩
   case measure=>simp [intOf] <;> omega
  ·obtain rfl:j=4:=by omega
   have sr:=aa (HJ.out.2.has tD.out ((fK _ _ _ _).2 (by have:=vm.out;omega)));have nL:=aa (lW.out.trans HJ.out.2.1);obtain ⟨YS,mF⟩:=ab ([76]++(NS.take 4).flatMap az);have tw:YS.length<=13:=by rw [mF,List.length_append];have:=n8.out 4;simp only [List.length_singleton];omega
   have HPV2:=aa (show PV=YS++[FL]++Ls.flatMap lnB from by rw [my.out,mF,tB.out]);have pV:=aa (show BOwn wj w.heap.size u4 YS from by rw [mF];exact HJ.out.1);have oz:=aa nL.out.size;obtain ⟨P1,sq⟩ : ∃ P1:Int,P1=if pd=true then 1 else 0:=⟨_,rfl⟩;obtain ⟨A2,sv⟩ : ∃ A2:Int,A2=if au=true then 2 else 0:=⟨_,rfl⟩;have ri:bits .or .u8 P1 A2=FL:=by rw [od.out,sq,sv];cases pd <;> cases au <;> rfl
   have wV:=aa (fun w'=>cr pd 1 w');have vH:=aa (fun w'=>cr au 2 w');rw [<-sq] at wV;rw [<-sv] at vH;have hd1:decide ((4:Int)<4)=false:=by decide
   clear pW hj mF sq sv wM HJ HNV HNT n8 tB my HO4L pG wF
   go_upto_region 9 with (fail)
   obtain ⟨lG,lO⟩ : ∃ EE:Nat->Value->World->Prop,EE=fun jj xx ww=>match jj with
     |0=>xx=u4
     |1=>xx=.pointer (some ⟨gp,3,none⟩)
     |2=>xx=.pointer (some ⟨gp,5,none⟩)
     |3=>xx=.bool pd
     |4=>xx=.int .u8 P1
     |5=>xx=.pointer (some ⟨gp,6,none⟩)
     |6=>xx=.bool au
     |7=>xx=.int .u8 A2
     |8=>xx=.int .u8 FL
     |9=>(fun x w'=>HeldE (aV .u8) (fun b=>wj.heap.size<=b) w' x [FL]) xx ww
     |10=>(fun x w'=>BOwn w' w.heap.size x (YS++[FL])) xx ww
     |11=>(fun x w'=>BOwn w' w.heap.size x (YS++[FL])) xx ww
     |_=>True:=⟨_,rfl⟩
   have ergp0:∀ xx ww,lG 0 xx ww=(xx=u4):=fun xx ww=>congrFun (congrFun (congrFun lO 0) xx) ww
   have ergp1:∀ xx ww,lG 1 xx ww=(xx=.pointer (some ⟨gp,3,none⟩)):=fun xx ww=>congrFun (congrFun (congrFun lO 1) xx) ww
   have ergp2:∀ xx ww,lG 2 xx ww=(xx=.pointer (some ⟨gp,5,none⟩)):=fun xx ww=>congrFun (congrFun (congrFun lO 2) xx) ww
   have ergp3:∀ xx ww,lG 3 xx ww=(xx=.bool pd):=fun xx ww=>congrFun (congrFun (congrFun lO 3) xx) ww
   have ergp4:∀ xx ww,lG 4 xx ww=(xx=.int .u8 P1):=fun xx ww=>congrFun (congrFun (congrFun lO 4) xx) ww
   have ergp5:∀ xx ww,lG 5 xx ww=(xx=.pointer (some ⟨gp,6,none⟩)):=fun xx ww=>congrFun (congrFun (congrFun lO 5) xx) ww
   have ergp6:∀ xx ww,lG 6 xx ww=(xx=.bool au):=fun xx ww=>congrFun (congrFun (congrFun lO 6) xx) ww
   have ergp7:∀ xx ww,lG 7 xx ww=(xx=.int .u8 A2):=fun xx ww=>congrFun (congrFun (congrFun lO 7) xx) ww
   have ergp8:∀ xx ww,lG 8 xx ww=(xx=.int .u8 FL):=fun xx ww=>congrFun (congrFun (congrFun lO 8) xx) ww
   have ergp9:∀ xx ww,lG 9 xx ww=((fun x w'=>HeldE (aV .u8) (fun b=>wj.heap.size<=b) w' x [FL]) xx ww):=fun xx ww=>congrFun (congrFun (congrFun lO 9) xx) ww
   have ergp10:∀ xx ww,lG 10 xx ww=((fun x w'=>BOwn w' w.heap.size x (YS++[FL])) xx ww):=fun xx ww=>congrFun (congrFun (congrFun lO 10) xx) ww
   have ergp11:∀ xx ww,lG 11 xx ww=((fun x w'=>BOwn w' w.heap.size x (YS++[FL])) xx ww):=fun xx ww=>congrFun (congrFun (congrFun lO 11) xx) ww
   obtain ⟨mD,og⟩ : ∃ CC:Array Bool->World->Prop,CC=fun L w'=>(Mix.one L 10=0->Below wj.heap.size wj w')/\Below w.heap.size wj w'/\Upd (fun b=>u4.ownBlock=some b) wj w':=⟨_,rfl⟩
   have krgp:∀ i L w,i≠10 ->  mD L w->mD (L.setIfInBounds i true) w:=by
    intro i L w q10 h;rw [og] at h ⊢;simp only [Mix.one_ne q10];exact h
   obtain ⟨mz,oY⟩ : ∃ XX:Nat->World->World->Prop,XX=fun kk ww1 ww2=>if kk=10 then (fun x y=>Upd (fun b=>u4.ownBlock=some b) x y) ww1 ww2 else (fun x y=>Below x.heap.size x y) ww1 ww2:=⟨_,rfl⟩
   have xrgp:∀ {k:Nat} (w:World),mz k w w:=by
    intro k w;rw [oY];show if k=10 then _ else _
    split
    ·exact Upd.refl _ _
    ·exact Below.refl _ _
   have crgp:mD (Array.replicate 12 false) wj.drew:=by rw [og];exact ⟨fun _=>(Below.refl _ _).drew,(Below.refl _ _).drew,(Upd.refl _ _).drew⟩
   have brgp:∀ L w w1,mD L w->Below w.heap.size w w1->mD L w1:=by
    intro L w w1 h hb;rw [og] at h ⊢
    (obtain ⟨q1,q2,q3⟩:=h;exact ⟨fun e=>(q1 e).trans (hb.mono (q1 e).size),q2.trans (hb.mono (Nat.le_trans oz.out q2.size)),q3.trans (.ofBelow hb)⟩)
   have xbrgp:∀ {k:Nat} (w w1:World),Below w.heap.size w w1->mz k w w1:=by
    intro k w w1 hb;rw [oY];show if k=10 then _ else _
    split
    ·exact Upd.ofBelow hb
    ·exact hb
   have Hrgpb:=aa brgp;have Hrgpxb:Hid (∀ {k:Nat} (w w1:World),Below w.heap.size w w1->mz k w w1):=@xbrgp;clear brgp xbrgp;have oT:=aa lO;clear lO;have lT:=aa krgp;have lX:Hid (∀ {k:Nat} (w:World),mz k w w):=@xrgp;have Hrgpc:=aa crgp;have lR:=aa og;have oV:=aa oY;have mU:=aa ergp0;have mY:=aa ergp1;have np:=aa ergp2;have m6:=aa ergp3;have mV:=aa ergp4;have mZ:=aa ergp5;have mT:=aa ergp6;have ng:=aa ergp7;have mO:=aa ergp8;have nn:=aa ergp9;have mK:=aa ergp10;have mJ:=aa ergp11;clear krgp xrgp crgp og oY ergp0 ergp1 ergp2 ergp3 ergp4 ergp5 ergp6 ergp7 ergp8 ergp9 ergp10 ergp11
   go_wp2_with fail
   refine RegX.regionF lG mD mz ?_ (by kernel_rfl) (by kernel_rfl) (by kernel_rfl) Hrgpc.out (fun Frgp lK=>?_)
   ·intro ii jj x w w1 ny hr hx h;rw [oV.out] at hx
    by_cases hi:ii=10
    ·subst hi;simp only [if_pos] at hx
     match jj with
     |0=>rw [mU.out] at h ⊢;exact h
     |1=>rw [mY.out] at h ⊢;exact h
     |2=>rw [np.out] at h ⊢;exact h
     |3=>rw [m6.out] at h ⊢;exact h
     |4=>rw [mV.out] at h ⊢;exact h
     |5=>rw [mZ.out] at h ⊢;exact h
     |6=>rw [mT.out] at h ⊢;exact h
     |7=>rw [ng.out] at h ⊢;exact h
     |8=>rw [mO.out] at h ⊢;exact h
     |9=>rw [nn.out] at h ⊢;(exact HeldE.upd h hx (fun b hb e=>by have:=(pV.out.lt b e).2;omega))
     |10=>exact absurd rfl ny
     |11=>exact absurd (hr.symm.trans (show Reg.reach _ 6 11 10=true from by kernel_rfl)) (by decide)
     |jj+12=>rw [oT.out];trivial
    ·simp only [if_neg hi] at hx
     match jj with
     |0=>rw [mU.out] at h ⊢;exact h
     |1=>rw [mY.out] at h ⊢;exact h
     |2=>rw [np.out] at h ⊢;exact h
     |3=>rw [m6.out] at h ⊢;exact h
     |4=>rw [mV.out] at h ⊢;exact h
     |5=>rw [mZ.out] at h ⊢;exact h
     |6=>rw [mT.out] at h ⊢;exact h
     |7=>rw [ng.out] at h ⊢;exact h
     |8=>rw [mO.out] at h ⊢;exact h
     |9=>rw [nn.out] at h ⊢;(first | exact HeldE.below h hx | exact OwnE.below h hx)
     |10=>rw [mK.out] at h ⊢;(first | exact HeldE.below h hx | exact OwnE.below h hx)
     |11=>rw [mJ.out] at h ⊢;(first | exact HeldE.below h hx | exact OwnE.below h hx)
     |jj+12=>rw [oT.out];trivial
   simp only [Reg.frame,Reg.dsts,List.map_cons,List.map_nil,Mix.put_lit,List.set_cons_succ,List.set_cons_zero,Nat.zero_add,Nat.reduceAdd] at lK;refine ⟨?_,?_⟩
   ·refine ⟨?_,?_,?_,?_,?_,?_,?_,?_,?_,?_,?_,?_,trivial⟩
    ·intro Lq wq xq hh;have d11:=hh.old 11 (by kernel_rfl);simp only [lK,d11];clear d11;refine .inl ⟨rfl,?_⟩;unfold Reg.upon;have hk:=lT.out 0 Lq wq (by decide)  hh.cls;have hx:mz 0 wq wq:=lX.out wq;have he:lG 0 (u4) wq:=by rw [mU.out]
     have HK:=aa (And.intro hk (And.intro he hx));clear hk hx he;go_simp;exact HK.out
    ·intro Lq wq xq hh;simp only [lK];refine .inl ⟨rfl,?_⟩;unfold Reg.upon;have hk:=lT.out 1 Lq wq (by decide)  hh.cls;have hx:mz 1 wq wq:=lX.out wq;have he:lG 1 (.pointer (some ⟨gp,3,none⟩)) wq:=by rw [mY.out]
     have HK:=aa (And.intro hk (And.intro he hx));clear hk hx he;go_simp;exact HK.out
    ·intro Lq wq xq hh;have d1:lG 1 (xq 1) wq:=hh.val 1 (by kernel_rfl) (by kernel_rfl);rw [mY.out] at d1;simp only [lK,d1];clear d1;refine .inl ⟨rfl,?_⟩;unfold Reg.upon;have hk:=lT.out 2 Lq wq (by decide)  hh.cls;have hx:mz 2 wq wq:=lX.out wq;have he:lG 2 (.pointer (some ⟨gp,5,none⟩)) wq:=by rw [np.out]
     have HK:=aa (And.intro hk (And.intro he hx));clear hk hx he;go_simp;exact HK.out
    ·intro Lq wq xq hh;have d2:lG 2 (xq 2) wq:=hh.val 2 (by kernel_rfl) (by kernel_rfl);rw [np.out] at d2;simp only [lK,d2];clear d2;refine .inl ⟨rfl,?_⟩;unfold Reg.upon;have hc:mD Lq wq:=hh.cls;rw [lR.out] at hc;have q0:=((hc.1 (Mix.one_un (hh.notYet 10 (by kernel_rfl)))).cell (p:=⟨gp,5,none⟩) sr.out.1.lt).trans (sr.out.1.cell 5 _ rfl);clear hc;have hk:=lT.out 3 Lq wq (by decide)  hh.cls;have hx:mz 3 wq wq:=lX.out wq;have he:lG 3 (.bool pd) wq:=by rw [m6.out]
     have HK:=aa (And.intro hk (And.intro he hx));clear hk hx he;go_simp;exact HK.out
    ·intro Lq wq xq hh;have d3:lG 3 (xq 3) wq:=hh.val 3 (by kernel_rfl) (by kernel_rfl);rw [m6.out] at d3;simp only [lK,d3];clear d3;refine .inl ⟨rfl,?_⟩;unfold Reg.upon;have hc:mD Lq wq:=hh.cls;rw [lR.out] at hc;go_simp;refine (wV.out wq).mono ?_;rintro e w2 ⟨rfl,rfl⟩;exact ⟨_,rfl,lT.out 4 Lq wq (by decide)  hh.cls,(by rw [mV.out];try rfl),lX.out _⟩
    ·intro Lq wq xq hh;simp only [lK];refine .inl ⟨rfl,?_⟩;unfold Reg.upon;have hk:=lT.out 5 Lq wq (by decide)  hh.cls;have hx:mz 5 wq wq:=lX.out wq;have he:lG 5 (.pointer (some ⟨gp,6,none⟩)) wq:=by rw [mZ.out]
     have HK:=aa (And.intro hk (And.intro he hx));clear hk hx he;go_simp;exact HK.out
    ·intro Lq wq xq hh;have d5:lG 5 (xq 5) wq:=hh.val 5 (by kernel_rfl) (by kernel_rfl);rw [mZ.out] at d5;simp only [lK,d5];clear d5;refine .inl ⟨rfl,?_⟩;unfold Reg.upon;have hc:mD Lq wq:=hh.cls;rw [lR.out] at hc;have q0:=((hc.1 (Mix.one_un (hh.notYet 10 (by kernel_rfl)))).cell (p:=⟨gp,6,none⟩) sr.out.1.lt).trans (sr.out.1.cell 6 _ rfl);clear hc;have hk:=lT.out 6 Lq wq (by decide)  hh.cls;have hx:mz 6 wq wq:=lX.out wq;have he:lG 6 (.bool au) wq:=by rw [mT.out]
     have HK:=aa (And.intro hk (And.intro he hx));clear hk hx he;go_simp;exact HK.out
    ·intro Lq wq xq hh;have d6:lG 6 (xq 6) wq:=hh.val 6 (by kernel_rfl) (by kernel_rfl);rw [mT.out] at d6;simp only [lK,d6];clear d6;refine .inl ⟨rfl,?_⟩;unfold Reg.upon;have hc:mD Lq wq:=hh.cls;rw [lR.out] at hc;go_simp;refine (vH.out wq).mono ?_;rintro e w2 ⟨rfl,rfl⟩;exact ⟨_,rfl,lT.out 7 Lq wq (by decide)  hh.cls,(by rw [ng.out];try rfl),lX.out _⟩
    ·intro Lq wq xq hh;have d4:lG 4 (xq 4) wq:=hh.val 4 (by kernel_rfl) (by kernel_rfl);rw [mV.out] at d4;have d7:lG 7 (xq 7) wq:=hh.val 7 (by kernel_rfl) (by kernel_rfl);rw [ng.out] at d7;simp only [lK,d4,d7];clear d4 d7;refine .inl ⟨rfl,?_⟩;unfold Reg.upon;have hk:=lT.out 8 Lq wq (by decide)  hh.cls;have hx:mz 8 wq wq:=lX.out wq;have he:lG 8 (.int .u8 FL) wq:=by rw [mO.out]
     have HK:=aa (And.intro hk (And.intro he hx));clear hk hx he;go_simp;exact HK.out
    ·intro Lq wq xq hh;have d8:lG 8 (xq 8) wq:=hh.val 8 (by kernel_rfl) (by kernel_rfl);rw [mO.out] at d8;simp only [lK,d8];clear d8;refine .inl ⟨rfl,?_⟩;unfold Reg.upon;have hc:mD Lq wq:=hh.cls;rw [lR.out] at hc;go_simp;have hb:=(Below.refl (wq).heap.size wq).alloc (Nat.le_refl _) (.cells [Value.int .u8 FL].toArray 5);refine ⟨lT.out 9 Lq _ (by decide) (Hrgpb.out Lq wq _ hh.cls hb),?_,Hrgpxb.out wq _ hb⟩;rw [nn.out];exact cA (E:=aV .u8) (w:=wq) (ty:=5) (Y:=fun _=>False) (Z:=fun b=>wj.heap.size<=b) [.int .u8 FL] FL rfl (fun _ _ h=>h.elim) (hc.1 (Mix.one_un (hh.notYet 10 (by kernel_rfl)))).size
    ·intro Lq wq xq hh;have d0:lG 0 (xq 0) wq:=hh.val 0 (by kernel_rfl) (by kernel_rfl);rw [mU.out] at d0;have d9:lG 9 (xq 9) wq:=hh.val 9 (by kernel_rfl) (by kernel_rfl);rw [nn.out] at d9;simp only [lK,d0];clear d0;refine .inl ⟨rfl,?_⟩;unfold Reg.upon;have hc:mD Lq wq:=hh.cls;rw [lR.out] at hc;have hc7:=hc.1 hh.un;obtain ⟨v',w',hr,h1,h2,h3,h4⟩:=cK (P:=Tryd.prog) (E:=aV .u8) (Z:=fun _=>True) (w:=wq) (B:=w.heap.size) (ty:=5) 46 _ (.int .u8 0) 1 Tryd.underlying46 Tryd.info5 rfl (by decide) (pV.out.below hc7) (d9.zone (Y:=fun b=>True/\u4.ownBlock≠some b) (fun b _ hz=>⟨trivial,fun e=>by have:=(pV.out.lt b e).2;omega⟩)) (by simp;omega) (by simp;omega) (Nat.le_trans oz.out hc7.size);have hu:Upd (fun b=>u4.ownBlock=some b) wq w':=⟨h2.os,h2.tape,h2.output,h3.size,fun b hb hn=>h3.block b hb hn⟩;rw [eJ rfl rfl rfl hr];refine ⟨?_,?_,?_⟩
     ·rw [lR.out];refine ⟨fun e=>?_,hc.2.1.trans h2,hc.2.2.trans hu⟩;rw [Mix.one_set (by rw [hh.size];decide)] at e;exact absurd e (by decide)
     ·rw [mK.out];exact h1
     ·rw [oV.out];exact hu
    ·intro Lq wq xq hh;have d10:lG 10 (xq 10) wq:=hh.val 10 (by kernel_rfl) (by kernel_rfl);rw [mK.out] at d10;simp only [lK];refine .inl ⟨rfl,?_⟩;unfold Reg.upon;go_simp;exact ⟨lT.out 11 Lq wq (by decide) hh.cls,(by rw [mJ.out];exact d10),lX.out _⟩
   intro xq wrgp hcrgp hvrgp;rw [lR.out] at hcrgp;simp only [lK];have vrgp11:lG 11 (xq 11) wrgp:=hvrgp 11 (by decide);rw [mJ.out] at vrgp11;clear hvrgp lK lT lX oT Hrgpc lR oV Hrgpb Hrgpxb mU mY np m6 mV mZ mT ng mO nn mK mJ;obtain ⟨_,kb,ku⟩:=hcrgp;have sN:=aa (ku.keep.has sr.out.1 (fun e=>sr.out.2 e));have qZ:=aa (nL.out.trans kb);have vg:=aa vrgp11;obtain ⟨HD,rI⟩:=ab (YS++[FL]);have hhd:HD.length<=14:=by rw [rI,List.length_append,List.length_singleton];omega
   rw [<-rI] at HPV2 vg;have q2:=sN.out.cell 2 _ rfl;obtain ⟨wk,pL⟩:=ab (wrgp);rw [<-pL] at sN qZ vg q2 ⊢;have rM:=aa (fJ Ls (fun i hi=>⟨(nD.out.2.2.2.2.2.2.2.2.2 i hi).2,by have:=(nD.out.2.2.2.2.2.2.2.2.2 i hi).1;have:=nD.out.2.1;omega⟩));have hnl1:nl<=1024:=by have:=nD.out;rw [rc.out];omega
   clear kb ku vrgp11 rI pL sr nL pV oz wV vH ri hd1 tw tD lW
   go_upto_region 11 with (fail)
   clear q2
   go_loopw [4,48] (fun bv iv wr=>∃ i:Nat,i<=nl/\iv=.int .i64 (i:Int)/\Hid (BOwn wr w.heap.size bv (HD++(Ls.take i).flatMap lnB)/\Below w.heap.size w wr)) (fun _ iv _=>nl - (intOf iv).toNat)
   case atStart=>exact ⟨0,Nat.zero_le _,rfl,aa ⟨by rw [List.take_zero,List.flatMap_nil,List.append_nil];exact vg.out,qZ.out⟩⟩
   case round =>
    clear vg qZ sN;obtain ⟨i,hi,rfl,HI⟩:=hrel;obtain ⟨wi,ul⟩:=ab (wr);subst ul
    by_cases mo:i<nl
    ·have d1:(i:Int)<(nl:Int):=by omega
     have d1b:decide ((i:Int)<(nl:Int))=true:=ag (by omega);have om:i<Ls.length:=by rw [<-rc.out];exact mo
     obtain ⟨b,off,tv,e0,hb,_,c0,c1,hh⟩:=(aU sI.out).2.2 i om;subst e0;have oQ:=nD.out.2.2.2.2.2.2.2.2.2 i om;have rt:=nD.out.2.1;obtain ⟨⟨C,g⟩,r6⟩ : ∃ y,y=Ls.getD i zl:=⟨_,rfl⟩;rw [<-r6] at c1 hh oQ;simp only at c1 hh oQ;obtain ⟨tx,tc,etv⟩:=hh.len;subst etv;have c0:=(HI.out.2.cell (p:=⟨b,off+i * 2,none⟩) hb).trans c0;have c1:=(HI.out.2.cell (p:=⟨b,off+i * 2+1,none⟩) hb).trans c1;obtain ⟨X1,pu⟩:=ab (wi.alloc (.cells [Value.slice tx C.length tc,.bool g].toArray 69));have hb1:Below wi.heap.size wi X1:=by rw [pu];exact lD _ _
     have lF:Has X1 wi.heap.size [.slice tx C.length tc,.bool g] 69:=by rw [pu];exact Has.new wi _ _
     have HX1:=aa (show wi.alloc (.cells #[Value.slice tx C.length tc,.bool g] 69)=X1 from by rw [pu]);obtain ⟨g1,hg1⟩:=ab (wi.heap.size);have nK:=aa hg1;rw [<-hg1] at lF;have rm:=aa (HI.out.2.trans (hb1.mono HI.out.2.size));obtain ⟨YI,qf⟩:=ab (HD++(Ls.take i).flatMap lnB);have HOX:=aa (show BOwn X1 w.heap.size u4 YI from by rw [qf];exact HI.out.1.below hb1);have hyi:YI.length<=80000000:=by
      rw [qf,List.length_append];have h1:=rM.out i (by omega);have h2:i * 71681<=1024 * 71681:=Nat.mul_le_mul_right _ (by omega);omega
     obtain ⟨G1,oR⟩ : ∃ G1:Int,G1=if g=true then 1 else 0:=⟨_,rfl⟩;have pR:=aa (cr g 1 X1);rw [<-oR] at pR;have ud:=aa (show (YI++[G1])++aE C=HD++(Ls.take (i+1)).flatMap lnB from by
      rw [qf,List.take_succ_eq_append_getElem om,List.flatMap_append,List.flatMap_singleton,show Ls[i]=Ls.getD i zl from by simp [List.getD,List.getElem?_eq_getElem om],<-r6,oR];unfold lnB
      simp)
     have HCH:=aa ((hh.below HI.out.2).below hb1);have pp:=aa (db oQ.2);have mL:C.length<=1024:=by omega
     have mG:=aa lF;have z0:=lF.cell 0 _ rfl;have z1:=lF.cell 1 _ rfl;have sT:=aa rm.out.size;have HGX:=aa (show u4.ownBlock≠some g1 from (show BOwn wi w.heap.size u4 (HD++(Ls.take i).flatMap lnB) from HI.out.1).off (by omega));clear r6 hb hh pu hb1 lF hg1 qf oR oQ rt HI
     go_upto_region 13 with (fail)
     rw [HX1.out,<-nK.out];clear c0 c1
     go_wp2_with fail
     refine pR.out.mono ?_;rintro e w3 ⟨rfl,rfl⟩
     go_wp2_with (at_builtin;refine dc rfl (.tmp 52) (.tmp 56) 46 rfl Tryd.underlying46 G1 rfl rfl HOX.out (by omega) sT.out ?_)
     intro v4 w4 me s4;have xr:=aa (s4.has mG.out HGX.out);have lW:=aa (rm.out.trans s4.1);have z0:=xr.out.1.cell 0 _ rfl;have su:=aa (iY w.heap.size v4 (YI++[G1]) (fun b=>b<w.heap.size) (.slice tx C.length tc) C w4 me lW.out.size (by rw [List.length_append,List.length_singleton];omega) (by omega) pp.out ((s4.held HCH.out (fun b hb e=>by have:=(HOX.out.lt b e).1;omega)).zone fun b _ hz=>hz.1) (fun b hb e=>by have:=(me.lt b e).1;omega));clear me s4 z1
     go_wp2_with fail
     refine su.out.mono ?_;rintro e w5 ⟨v5,rfl,mE,s5⟩;have HF:=aa (show BOwn w5 w.heap.size v5 (HD++(Ls.take (i+1)).flatMap lnB)/\Below w.heap.size w w5 from ⟨by rw [<-ud.out];exact mE,lW.out.trans s5.1⟩);clear mE s5 z0;go_wp2
     go_roundw
     case rel=>exact ⟨i+1,by omega,by go_num,HF⟩
     case measure=>simp [intOf] <;> omega
    ·obtain rfl:i=nl:=by omega
     have d1:¬ (i:Int)<(i:Int):=by omega
     have d1b:decide ((i:Int)<(i:Int))=false:=ah (by omega);have HF:=aa (show BOwn wi w.heap.size u4 PV/\Below w.heap.size w wi from ⟨by
      have h:=HI.out.1;rw [rc.out,List.take_length,<-HPV2.out] at h;exact h,HI.out.2⟩)
     clear mo HI;go_wp2;exact bodyPost_ret (v:=.tuple #[u4,.nilIface]) (by simp [results,Tryd.results18,go_sem]) rfl ⟨u4,rfl,HF.out.1,HF.out.2⟩
end Go.Proofs.YtechjomepdahiaaDoor
