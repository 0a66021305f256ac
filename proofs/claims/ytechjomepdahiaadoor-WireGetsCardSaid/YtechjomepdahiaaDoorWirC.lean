import Derived.Test.YtechjomepdahiaaDoorZ0
import Derived.Test.YtechjomepdahiaaDoorWirB
import Derived.Test.YtechjomepdahiaaDoorAudE
import Derived.Test.YtechjomepdahiaaDoorMg4
import Derived.Test.YtechjomepdahiaaDoorMg1
set_option maxRecDepth 100000
set_option linter.unusedVariables false
set_option linter.unusedSimpArgs false
set_option maxHeartbeats 4000000
namespace Go.Proofs.YtechjomepdahiaaDoor
open Go.RowKit Go.ChangeShapes Go.WideShapes
theorem dx{v:Vw}(h:aI v=true):1<=v.w/\v.w<=1024/\1<=v.h/\v.h<=1024/\v.h=(v.L.length:Int)/\0<=v.r/\v.r<v.h/\0<=v.c/\v.c<v.w/\∀ i,i<v.L.length->((v.L.getD i zl).1.length:Int)=v.w/\aR (v.L.getD i zl).1=true:=by
 rw [fu] at h;simp only [Bool.and_eq_true,beq_iff_eq] at h;obtain ⟨⟨⟨⟨h1,h2⟩,h3⟩,h4⟩,h5⟩:=h;obtain ⟨vw,vh,Ls,r,c,pd,au⟩:=v;simp only at h1 h2 h3 h4 h5 ⊢;unfold ay at h1 h2;simp only [Bool.and_eq_true,decide_eq_true_eq] at h1 h2;have oT:0<=r/\r<vh/\0<=c/\c<vw:=by
  unfold am az at h4;simp only [Bool.and_eq_true,Bool.or_eq_true,decide_eq_true_eq] at h4;obtain ⟨⟨⟨⟨a1,a2⟩,a3⟩,a4⟩,_⟩:=h4;omega
 refine ⟨h1.1,h1.2,h2.1,h2.2,h3,oT.1,oT.2.1,oT.2.2.1,oT.2.2.2,fun i hi=>?_⟩;have:=List.all_eq_true.1 h5 i (List.mem_range.2 hi);unfold cE at this;rw [Bool.and_eq_true,decide_eq_true_eq] at this;exact this
theorem dy{C:List Cl}(h:aR C=true):∀ c ∈ C,al c=true:=fun c hc=>by
 obtain ⟨i,hi,rfl⟩:=List.getElem_of_mem hc;have:=((gm C).1 h i hi).1;rw [show C.getD i zc=C[i] from by simp [List.getD,List.getElem?_eq_getElem hi]] at this;exact this
theorem ji{l:Ln}(h:aR l.1=true)(hl:l.1.length<=1024):(lnB l).length<=71681:=by
 unfold lnB;rw [List.length_cons];have:=cf l.1.length l.1 (Nat.le_refl _) (by omega) (dy h);omega
theorem eW(Ls:List Ln)(h:∀ i,i<Ls.length->aR (Ls.getD i zl).1=true/\(Ls.getD i zl).1.length<=1024):∀ k,k<=Ls.length->((Ls.take k).flatMap lnB).length<=k * 71681
 |0=>fun _=>by simp
 |k+1=>fun hk=>by
  have ih:=eW Ls h k (by omega);have tE:k<Ls.length:=hk;obtain ⟨h1,h2⟩:=h k tE;rw [show Ls.getD k zl=Ls[k] from by simp [List.getD,List.getElem?_eq_getElem tE]] at h1 h2;rw [List.take_succ_eq_append_getElem tE,List.flatMap_append,List.flatMap_singleton,List.length_append];have:=ji h1 h2;omega
theorem iD(sa:Nat->Addr)(v:Vw)(lv:Value)(w:World)(hs:Five w sa)(hv:ViewAt w v lv)(hr:aI v=false):Calls Tryd.prog 18 #[bb v lv] w (Gives w (.tuple #[.slice none 0 0,.iface 186 (.pointer (some (sa 4)))])):=by
 obtain ⟨W1,hW1⟩:=ab (w.alloc (.cells (bW v lv).toArray 44));have hb1:Below w.heap.size w W1:=by rw [hW1];exact j0 _ _
 have j2:Has W1 w.heap.size (bW v lv) 44:=by rw [hW1];exact Has.new w _ _
 have n7:=aa (dJ sa v lv W1 (hs.below hb1) (hv.below hb1));rw [hr] at n7;have oo:=aa (hs.below hb1);have lT:=aa hb1;obtain ⟨lo,lc,elv⟩:=hv.1.len;subst elv;obtain ⟨vw,vh,Ls,r,c,pd,au⟩:=v;have kQ:=aa (show w.alloc (.cells #[Value.int .i64 vw,.int .i64 vh,.slice lo Ls.length lc,.int .i64 r,.int .i64 c,.bool pd,.bool au] 44)=W1 from by rw [hW1];rfl);unfold bb at n7 ⊢;unfold bW at j2;simp only at n7 j2 ⊢;obtain ⟨gp,ly⟩:=ab (w.heap.size);have nI:=aa ly;rw [<-ly] at j2;have q0:=j2.cell 0 _ rfl;have q1:=j2.cell 1 _ rfl;have q2:=j2.cell 2 _ rfl;have q3:=j2.cell 3 _ rfl;have q4:=j2.cell 4 _ rfl;have q5:=j2.cell 5 _ rfl;have q6:=j2.cell 6 _ rfl;clear hW1 hb1 j2 ly hv hs hr
 go_enter Tryd.func18,Tryd.ntmps18
 go_upto_region 1 with (fail)
 rw [kQ.out,<-nI.out]
 go_wp2_with fail
 refine (n7.out).mono ?_;rintro e w2 ⟨rfl,b2⟩;have c4:=(oo.out.below b2).cell 4 (by decide);simp only [F.glob] at c4;have HF:=aa (lT.out.trans (b2.mono lT.out.size));clear q0 q1 q2 q3 q4 q5 q6 b2;go_wp2
 go_quiet (fail)
 go_wp2
 go_ret2
 exact ⟨rfl,HF.out.drewN _⟩
theorem eX(g n cap x:Nat):(Value.slice (some ⟨g,0,none⟩) n cap).ownBlock≠some x↔x≠g:=by
 show (some g≠some x)↔_;constructor
 ·intro h e;exact h (by rw [e])
 ·intro h e;exact h (by cases e;rfl)
theorem gV(a b c d:Nat)(j:Nat)(hj:j<4):((([a,b,c,d]:List Nat).take (j+1)).flatMap aA)=(([a,b,c,d]:List Nat).take j).flatMap aA++aA (([a,b,c,d]:List Nat).getD j 0):=by
 rw [List.take_succ_eq_append_getElem (by simpa using hj),List.flatMap_append,List.flatMap_singleton]
 congr 2
 simp [List.getD,List.getElem?_eq_getElem (show j<([a,b,c,d]:List Nat).length by simpa using hj)]
theorem iE(a b c d:Nat)(h:∀ x ∈ [a,b,c,d],x<2097152):∀ j,((([a,b,c,d]:List Nat).take j).flatMap aA).length<=12:=by
 intro j;have n1:=(aE (h a (by simp))).2;have n2:=(aE (h b (by simp))).2;have n3:=(aE (h c (by simp))).2;have n4:=(aE (h d (by simp))).2
 match j with
 | 0=>simp
 | 1=>simp;omega
 | 2=>simp;omega
 | 3=>simp;omega
 | j+4=>simp;omega
theorem dW(sa:Nat->Addr)(v:Vw)(lv:Value)(w:World)(hs:Five w sa)(hv:ViewAt w v lv)(hr:aI v=true):Calls Tryd.prog 18 #[bb v lv] w (fun e w'=>∃ u,e=.returned (.tuple #[u,.nilIface])/\BOwn w' w.heap.size u (bG v)/\Below w.heap.size w w'):=by
 obtain ⟨W1,hW1⟩:=ab (w.alloc (.cells (bW v lv).toArray 44));have hb1:Below w.heap.size w W1:=by rw [hW1];exact j0 _ _
 have j2:Has W1 w.heap.size (bW v lv) 44:=by rw [hW1];exact Has.new w _ _
 have n7:=aa (dJ sa v lv W1 (hs.below hb1) (hv.below hb1));rw [hr] at n7;have lT:=aa hb1;have lZ:=aa (dx hr);have qO:=aa hv.1.lower;obtain ⟨lo,lc,elv⟩:=hv.1.len;subst elv;have hlc:=(be hv.1).2.1;have ld:=aa (show bG v=[76]++([v.w.toNat,v.h.toNat,v.r.toNat,v.c.toNat]:List Nat).flatMap aA++[cD v]++v.L.flatMap lnB from by unfold bG;simp);have mn:=aa (show cD v=(if v.pd=true then 1 else 0)+(if v.au=true then 2 else 0) from rfl);obtain ⟨vw,vh,Ls,r,c,pd,au⟩:=v;obtain ⟨FL,sH⟩:=ab (cD ⟨vw,vh,Ls,r,c,pd,au⟩);rw [<-sH] at ld mn;simp only at ld mn lZ qO hlc;obtain ⟨PV,r5⟩:=ab (bG ⟨vw,vh,Ls,r,c,pd,au⟩);rw [<-r5] at ld ⊢;have kQ:=aa (show w.alloc (.cells #[Value.int .i64 vw,.int .i64 vh,.slice lo Ls.length lc,.int .i64 r,.int .i64 c,.bool pd,.bool au] 44)=W1 from by rw [hW1];rfl);unfold bb at n7 ⊢;unfold bW at j2;simp only at n7 j2 hlc ⊢;obtain ⟨nl,ky⟩:=ab (Ls.length);have pu:=aa ky;rw [<-ky] at n7 j2 kQ qO hlc ⊢;obtain ⟨gp,ly⟩:=ab (w.heap.size);have nI:=aa ly;rw [<-ly] at j2;have nj:=aa j2;have q0:=j2.cell 0 _ rfl;have q1:=j2.cell 1 _ rfl;have q2:=j2.cell 2 _ rfl;have q3:=j2.cell 3 _ rfl;have q4:=j2.cell 4 _ rfl;have q5:=j2.cell 5 _ rfl;have q6:=j2.cell 6 _ rfl;clear hW1 hb1 j2 ly hv hs hr r5 sH ky
 go_enter Tryd.func18,Tryd.ntmps18
 go_upto_region 1 with (fail)
 rw [kQ.out,<-nI.out]
 go_wp2_with fail
 refine (n7.out).mono ?_;rintro e w2 ⟨rfl,b2⟩;have pB:=aa (nj.out.below b2 nj.out.lt);have kP:=aa (lT.out.trans (b2.mono lT.out.size));clear q0 q1 q2 q3 q4 q5 q6 b2 n7 nj lT
 -- the first byte,the four numbers
 obtain ⟨W3,hW3⟩:=ab (w2.alloc (.cells [Value.int .u8 76].toArray 5));have hb3:Below w2.heap.size w2 W3:=by rw [hW3];exact j0 _ _
 have mD:=BOwn.one w2 w.heap.size 76 kP.out.size;rw [<-hW3] at mD;obtain ⟨W4,oK⟩:=ab (W3.alloc (.cells [Value.int .i64 vw,.int .i64 vh,.int .i64 r,.int .i64 c].toArray 3));have hb4:Below W3.heap.size W3 W4:=by rw [oK];exact j0 _ _
 have mh:Has W4 W3.heap.size [.int .i64 vw,.int .i64 vh,.int .i64 r,.int .i64 c] 3:=by rw [oK];exact Has.new W3 _ _
 have rK:=aa (show W3.alloc (.cells #[Value.int .i64 vw,.int .i64 vh,.int .i64 r,.int .i64 c] 3)=W4 from by rw [oK]);obtain ⟨ga,uV⟩:=ab (W3.heap.size);have vo:=aa uV;rw [<-uV] at mh;have o2:=aa (show w2.alloc (.cells #[Value.int .u8 76] 5)=W3 from by rw [hW3]);obtain ⟨g3,hg3⟩:=ab (w2.heap.size);have uj:=aa hg3;rw [<-hg3] at mD;have my:=aa (mD.below hb4);have HO4L:=aa (show g3<W3.heap.size from (mD.lt g3 rfl).2);have HH4:=aa mh;have nu:=aa (pB.out.below hb3 pB.out.lt);have rz:=aa (nu.out.below hb4 nu.out.lt);have kD:=aa (kP.out.trans ((hb3.trans (hb4.mono hb3.size)).mono kP.out.size));have sM:=aa (show gp<g3 from by rw [hg3];exact pB.out.lt);have HWG:=aa (show w.heap.size<=g3 from by rw [hg3];exact kP.out.size);clear hW3 hb3 mD oK hb4 mh uV hg3;have q0:=nu.out.cell 0 _ rfl;have q1:=nu.out.cell 1 _ rfl;have q3:=nu.out.cell 3 _ rfl;have q4:=nu.out.cell 4 _ rfl
 go_upto_region 4 with (fail)
 rw [o2.out,<-uj.out]
 go_upto_region 5 with (fail)
 rw [rK.out,<-vo.out];clear q0 q1 q3 q4 o2 rK nu;obtain ⟨NS,rf⟩ : ∃ NS:List Nat,NS=[vw.toNat,vh.toNat,r.toNat,c.toNat]:=⟨_,rfl⟩;have sC:=lZ.out;have HNV:=aa (show ∀ j,j<4->([Value.int .i64 vw,.int .i64 vh,.int .i64 r,.int .i64 c]:List Value)[j]? = some (.int .i64 ((NS.getD j 0:Nat):Int))/\NS.getD j 0<2097152 from fun j hj=>by
  rw [rf]
  match j,hj with
  |0,_=>exact ⟨by show some (Value.int .i64 vw)=some (.int .i64 ((vw.toNat:Nat):Int));congr 2;omega,by show vw.toNat<_;omega⟩
  |1,_=>exact ⟨by show some (Value.int .i64 vh)=some (.int .i64 ((vh.toNat:Nat):Int));congr 2;omega,by show vh.toNat<_;omega⟩
  |2,_=>exact ⟨by show some (Value.int .i64 r)=some (.int .i64 ((r.toNat:Nat):Int));congr 2;omega,by show r.toNat<_;omega⟩
  |3,_=>exact ⟨by show some (Value.int .i64 c)=some (.int .i64 ((c.toNat:Nat):Int));congr 2;omega,by show c.toNat<_;omega⟩)
 have HNT:=aa (show ∀ j,j<4->(NS.take (j+1)).flatMap aA=(NS.take j).flatMap aA++aA (NS.getD j 0) from fun j hj=>by rw [rf];exact gV _ _ _ _ j hj);have mz:=aa (show ∀ j,((NS.take j).flatMap aA).length<=12 from fun j=>by
  rw [rf];refine iE _ _ _ _ (fun x hx=>?_) j;simp only [List.mem_cons,List.not_mem_nil,or_false] at hx
  rcases hx with rfl | rfl | rfl | rfl <;> omega)
 have rH:=aa (show NS.take 4=NS from by rw [rf];rfl);rw [<-rf] at ld;clear sC rf
 go_loopw [4,26] (fun bv jv wr=>∃ j:Nat,j<=4/\jv=.int .i64 (j:Int)/\Hid (BOwn wr w.heap.size bv ([76]++(NS.take j).flatMap aA)/\Stp w.heap.size W4 (.slice (some ⟨g3,0,none⟩) 1 1) wr bv)) (fun _ jv _=>4 - (intOf jv).toNat)
 case atStart=>exact ⟨0,Nat.zero_le _,rfl,aa ⟨by rw [List.take_zero,List.flatMap_nil,List.append_nil];exact my.out,Stp.refl _ _ _⟩⟩
 case round =>
  clear my;obtain ⟨j,hj,rfl,HJ⟩:=hrel;obtain ⟨wj,sr⟩:=ab (wr);subst sr;have ua:=aa (HJ.out.2.has HH4.out ((eX _ _ _ _).2 (by have:=vo.out;have:=HO4L.out;omega)))
  by_cases ou:j<4
  ·have d1:(j:Int)<4:=by omega
   have d1b:decide ((j:Int)<4)=true:=ag (by omega);obtain ⟨e1,e2⟩:=HNV.out j ou;have y0:=ua.out.1.cell j _ e1;obtain ⟨N,hN⟩:=ab (NS.getD j 0);rw [<-hN] at y0 e2;obtain ⟨YS,kW⟩:=ab ([76]++(NS.take j).flatMap aA);have qW:YS.length<=13:=by rw [kW,List.length_append];have:=mz.out j;simp only [List.length_singleton];omega
   have hsz:=Nat.le_trans kD.out.size HJ.out.2.1.size;have mi:=aa (dX w.heap.size u4 YS N wj (by rw [kW];exact HJ.out.1) hsz (by omega) e2);have HE:=aa (show YS++aA N=[76]++(NS.take (j+1)).flatMap aA from by rw [HNT.out j ou,kW,hN,List.append_assoc]);have hj4c:j<4:=ou;clear e1 hN kW ua
   go_wp2_with fail
   refine mi.out.mono ?_;rintro e w5 ⟨v5,rfl,kH,s5⟩;have HF:=aa (show BOwn w5 w.heap.size v5 ([76]++(NS.take (j+1)).flatMap aA)/\Stp w.heap.size W4 (.slice (some ⟨g3,0,none⟩) 1 1) w5 v5 from ⟨by rw [<-HE.out];exact kH,HJ.out.2.trans s5⟩);clear kH s5 y0 mi;go_wp2
   go_roundw
   case rel=>exact ⟨j+1,by omega,by go_num,HF⟩
   case measure=>simp [intOf] <;> omega
  ·obtain rfl:j=4:=by omega
   have qT:=aa (HJ.out.2.has rz.out ((eX _ _ _ _).2 (by have:=sM.out;omega)));have mr:=aa (kD.out.trans HJ.out.2.1);obtain ⟨YS,kW⟩:=ab ([76]++(NS.take 4).flatMap aA);have qW:YS.length<=13:=by rw [kW,List.length_append];have:=mz.out 4;simp only [List.length_singleton];omega
   have HPV2:=aa (show PV=YS++[FL]++Ls.flatMap lnB from by rw [ld.out,kW,rH.out]);have ot:=aa (show BOwn wj w.heap.size u4 YS from by rw [kW];exact HJ.out.1);have mF:=aa mr.out.size;obtain ⟨P1,qU⟩ : ∃ P1:Int,P1=if pd=true then 1 else 0:=⟨_,rfl⟩;obtain ⟨A2,pT⟩ : ∃ A2:Int,A2=if au=true then 2 else 0:=⟨_,rfl⟩;have po:bits .or .u8 P1 A2=FL:=by rw [mn.out,qU,pT];cases pd <;> cases au <;> rfl
   have tN:=aa (fun w'=>cg pd 1 w');have uR:=aa (fun w'=>cg au 2 w');rw [<-qU] at tN;rw [<-pT] at uR;have hd1:decide ((4:Int)<4)=false:=by decide
   clear ou hj kW qU pT ua HJ HNV HNT mz rH ld HO4L HH4 vo
   go_upto_region 9 with (fail)
   obtain ⟨j3,kc⟩ : ∃ EE:Nat->Value->World->Prop,EE=fun jj xx ww=>match jj with
     |0=>xx=u4
     |1=>xx=.pointer (some ⟨gp,3,none⟩)
     |2=>xx=.pointer (some ⟨gp,5,none⟩)
     |3=>xx=.bool pd
     |4=>xx=.int .u8 P1
     |5=>xx=.pointer (some ⟨gp,6,none⟩)
     |6=>xx=.bool au
     |7=>xx=.int .u8 A2
     |8=>xx=.int .u8 FL
     |9=>(fun x w'=>HeldE (bh .u8) (fun b=>wj.heap.size<=b) w' x [FL]) xx ww
     |10=>(fun x w'=>BOwn w' w.heap.size x (YS++[FL])) xx ww
     |11=>(fun x w'=>BOwn w' w.heap.size x (YS++[FL])) xx ww
     |_=>True:=⟨_,rfl⟩
   have ergp0:∀ xx ww,j3 0 xx ww=(xx=u4):=fun xx ww=>congrFun (congrFun (congrFun kc 0) xx) ww
   have ergp1:∀ xx ww,j3 1 xx ww=(xx=.pointer (some ⟨gp,3,none⟩)):=fun xx ww=>congrFun (congrFun (congrFun kc 1) xx) ww
   have ergp2:∀ xx ww,j3 2 xx ww=(xx=.pointer (some ⟨gp,5,none⟩)):=fun xx ww=>congrFun (congrFun (congrFun kc 2) xx) ww
   have ergp3:∀ xx ww,j3 3 xx ww=(xx=.bool pd):=fun xx ww=>congrFun (congrFun (congrFun kc 3) xx) ww
   have ergp4:∀ xx ww,j3 4 xx ww=(xx=.int .u8 P1):=fun xx ww=>congrFun (congrFun (congrFun kc 4) xx) ww
   have ergp5:∀ xx ww,j3 5 xx ww=(xx=.pointer (some ⟨gp,6,none⟩)):=fun xx ww=>congrFun (congrFun (congrFun kc 5) xx) ww
   have ergp6:∀ xx ww,j3 6 xx ww=(xx=.bool au):=fun xx ww=>congrFun (congrFun (congrFun kc 6) xx) ww
   have ergp7:∀ xx ww,j3 7 xx ww=(xx=.int .u8 A2):=fun xx ww=>congrFun (congrFun (congrFun kc 7) xx) ww
   have ergp8:∀ xx ww,j3 8 xx ww=(xx=.int .u8 FL):=fun xx ww=>congrFun (congrFun (congrFun kc 8) xx) ww
   have ergp9:∀ xx ww,j3 9 xx ww=((fun x w'=>HeldE (bh .u8) (fun b=>wj.heap.size<=b) w' x [FL]) xx ww):=fun xx ww=>congrFun (congrFun (congrFun kc 9) xx) ww
   have ergp10:∀ xx ww,j3 10 xx ww=((fun x w'=>BOwn w' w.heap.size x (YS++[FL])) xx ww):=fun xx ww=>congrFun (congrFun (congrFun kc 10) xx) ww
   have ergp11:∀ xx ww,j3 11 xx ww=((fun x w'=>BOwn w' w.heap.size x (YS++[FL])) xx ww):=fun xx ww=>congrFun (congrFun (congrFun kc 11) xx) ww
   obtain ⟨kV,mw⟩ : ∃ CC:Array Bool->World->Prop,CC=fun L w'=>(Mix.one L 10=0->Below wj.heap.size wj w')/\Below w.heap.size wj w'/\Upd (fun b=>u4.ownBlock=some b) wj w':=⟨_,rfl⟩
   have krgp:∀ i L w,i≠10 ->  kV L w->kV (L.setIfInBounds i true) w:=by
    intro i L w q10 h;rw [mw] at h ⊢;simp only [Mix.one_ne q10];exact h
   obtain ⟨la,np⟩ : ∃ XX:Nat->World->World->Prop,XX=fun kk ww1 ww2=>if kk=10 then (fun x y=>Upd (fun b=>u4.ownBlock=some b) x y) ww1 ww2 else (fun x y=>Below x.heap.size x y) ww1 ww2:=⟨_,rfl⟩
   have xrgp:∀ {k:Nat} (w:World),la k w w:=by
    intro k w;rw [np];show if k=10 then _ else _
    split
    ·exact Upd.refl _ _
    ·exact Below.refl _ _
   have crgp:kV (Array.replicate 12 false) wj.drew:=by rw [mw];exact ⟨fun _=>(Below.refl _ _).drew,(Below.refl _ _).drew,(Upd.refl _ _).drew⟩
   have brgp:∀ L w w1,kV L w->Below w.heap.size w w1->kV L w1:=by
    intro L w w1 h hb;rw [mw] at h ⊢
    (obtain ⟨q1,q2,q3⟩:=h;exact ⟨fun e=>(q1 e).trans (hb.mono (q1 e).size),q2.trans (hb.mono (Nat.le_trans mF.out q2.size)),q3.trans (.ofBelow hb)⟩)
   have xbrgp:∀ {k:Nat} (w w1:World),Below w.heap.size w w1->la k w w1:=by
    intro k w w1 hb;rw [np];show if k=10 then _ else _
    split
    ·exact Upd.ofBelow hb
    ·exact hb
   have Hrgpb:=aa brgp;have Hrgpxb:Hid (∀ {k:Nat} (w w1:World),Below w.heap.size w w1->la k w w1):=@xbrgp;clear brgp xbrgp;have m3:=aa kc;clear kc;have kh:=aa krgp;have kj:Hid (∀ {k:Nat} (w:World),la k w w):=@xrgp;have Hrgpc:=aa crgp;have kg:=aa mw;have mS:=aa np;have lD:=aa ergp0;have lJ:=aa ergp1;have lB:=aa ergp2;have ls:=aa ergp3;have lr:=aa ergp4;have lO:=aa ergp5;have lk:=aa ergp6;have lx:=aa ergp7;have ln:=aa ergp8;have lI:=aa ergp9;have li:=aa ergp10;have lg:=aa ergp11;clear krgp xrgp crgp mw np ergp0 ergp1 ergp2 ergp3 ergp4 ergp5 ergp6 ergp7 ergp8 ergp9 ergp10 ergp11
   go_wp2_with fail
   refine RegX.regionF j3 kV la ?_ (by kernel_rfl) (by kernel_rfl) (by kernel_rfl) Hrgpc.out (fun Frgp j8=>?_)
   ·intro ii jj x w w1 lP hr hx h;rw [mS.out] at hx
    by_cases hi:ii=10
    ·subst hi;simp only [if_pos] at hx
     match jj with
     |0=>rw [lD.out] at h ⊢;exact h
     |1=>rw [lJ.out] at h ⊢;exact h
     |2=>rw [lB.out] at h ⊢;exact h
     |3=>rw [ls.out] at h ⊢;exact h
     |4=>rw [lr.out] at h ⊢;exact h
     |5=>rw [lO.out] at h ⊢;exact h
     |6=>rw [lk.out] at h ⊢;exact h
     |7=>rw [lx.out] at h ⊢;exact h
     |8=>rw [ln.out] at h ⊢;exact h
     |9=>rw [lI.out] at h ⊢;(exact HeldE.upd h hx (fun b hb e=>by have:=(ot.out.lt b e).2;omega))
     |10=>exact absurd rfl lP
     |11=>exact absurd (hr.symm.trans (show Reg.reach _ 6 11 10=true from by kernel_rfl)) (by decide)
     |jj+12=>rw [m3.out];trivial
    ·simp only [if_neg hi] at hx
     match jj with
     |0=>rw [lD.out] at h ⊢;exact h
     |1=>rw [lJ.out] at h ⊢;exact h
     |2=>rw [lB.out] at h ⊢;exact h
     |3=>rw [ls.out] at h ⊢;exact h
     |4=>rw [lr.out] at h ⊢;exact h
     |5=>rw [lO.out] at h ⊢;exact h
     |6=>rw [lk.out] at h ⊢;exact h
     |7=>rw [lx.out] at h ⊢;exact h
     |8=>rw [ln.out] at h ⊢;exact h
     |9=>rw [lI.out] at h ⊢;(first | exact HeldE.below h hx | exact OwnE.below h hx)
     |10=>rw [li.out] at h ⊢;(first | exact HeldE.below h hx | exact OwnE.below h hx)
     |11=>rw [lg.out] at h ⊢;(first | exact HeldE.below h hx | exact OwnE.below h hx)
     |jj+12=>rw [m3.out];trivial
   simp only [Reg.frame,Reg.dsts,List.map_cons,List.map_nil,Mix.put_lit,List.set_cons_succ,List.set_cons_zero,Nat.zero_add,Nat.reduceAdd] at j8;refine ⟨?_,?_⟩
   ·refine ⟨?_,?_,?_,?_,?_,?_,?_,?_,?_,?_,?_,?_,trivial⟩
    ·intro Lq wq xq hh;have d11:=hh.old 11 (by kernel_rfl);simp only [j8,d11];clear d11;refine .inl ⟨rfl,?_⟩;unfold Reg.upon;have hk:=kh.out 0 Lq wq (by decide)  hh.cls;have hx:la 0 wq wq:=kj.out wq;have he:j3 0 (u4) wq:=by rw [lD.out]
     have HK:=aa (And.intro hk (And.intro he hx));clear hk hx he;go_simp;exact HK.out
    ·intro Lq wq xq hh;simp only [j8];refine .inl ⟨rfl,?_⟩;unfold Reg.upon;have hk:=kh.out 1 Lq wq (by decide)  hh.cls;have hx:la 1 wq wq:=kj.out wq;have he:j3 1 (.pointer (some ⟨gp,3,none⟩)) wq:=by rw [lJ.out]
     have HK:=aa (And.intro hk (And.intro he hx));clear hk hx he;go_simp;exact HK.out
    ·intro Lq wq xq hh;have d1:j3 1 (xq 1) wq:=hh.val 1 (by kernel_rfl) (by kernel_rfl);rw [lJ.out] at d1;simp only [j8,d1];clear d1;refine .inl ⟨rfl,?_⟩;unfold Reg.upon;have hk:=kh.out 2 Lq wq (by decide)  hh.cls;have hx:la 2 wq wq:=kj.out wq;have he:j3 2 (.pointer (some ⟨gp,5,none⟩)) wq:=by rw [lB.out]
     have HK:=aa (And.intro hk (And.intro he hx));clear hk hx he;go_simp;exact HK.out
    ·intro Lq wq xq hh;have d2:j3 2 (xq 2) wq:=hh.val 2 (by kernel_rfl) (by kernel_rfl);rw [lB.out] at d2;simp only [j8,d2];clear d2;refine .inl ⟨rfl,?_⟩;unfold Reg.upon;have hc:kV Lq wq:=hh.cls;rw [kg.out] at hc;have q0:=((hc.1 (Mix.one_un (hh.notYet 10 (by kernel_rfl)))).cell (p:=⟨gp,5,none⟩) qT.out.1.lt).trans (qT.out.1.cell 5 _ rfl);clear hc;have hk:=kh.out 3 Lq wq (by decide)  hh.cls;have hx:la 3 wq wq:=kj.out wq;have he:j3 3 (.bool pd) wq:=by rw [ls.out]
     have HK:=aa (And.intro hk (And.intro he hx));clear hk hx he;go_simp;exact HK.out
    ·intro Lq wq xq hh;have d3:j3 3 (xq 3) wq:=hh.val 3 (by kernel_rfl) (by kernel_rfl);rw [ls.out] at d3;simp only [j8,d3];clear d3;refine .inl ⟨rfl,?_⟩;unfold Reg.upon;have hc:kV Lq wq:=hh.cls;rw [kg.out] at hc;go_simp;refine (tN.out wq).mono ?_;rintro e w2 ⟨rfl,rfl⟩;exact ⟨_,rfl,kh.out 4 Lq wq (by decide)  hh.cls,(by rw [lr.out];try rfl),kj.out _⟩
    ·intro Lq wq xq hh;simp only [j8];refine .inl ⟨rfl,?_⟩;unfold Reg.upon;have hk:=kh.out 5 Lq wq (by decide)  hh.cls;have hx:la 5 wq wq:=kj.out wq;have he:j3 5 (.pointer (some ⟨gp,6,none⟩)) wq:=by rw [lO.out]
     have HK:=aa (And.intro hk (And.intro he hx));clear hk hx he;go_simp;exact HK.out
    ·intro Lq wq xq hh;have d5:j3 5 (xq 5) wq:=hh.val 5 (by kernel_rfl) (by kernel_rfl);rw [lO.out] at d5;simp only [j8,d5];clear d5;refine .inl ⟨rfl,?_⟩;unfold Reg.upon;have hc:kV Lq wq:=hh.cls;rw [kg.out] at hc;have q0:=((hc.1 (Mix.one_un (hh.notYet 10 (by kernel_rfl)))).cell (p:=⟨gp,6,none⟩) qT.out.1.lt).trans (qT.out.1.cell 6 _ rfl);clear hc;have hk:=kh.out 6 Lq wq (by decide)  hh.cls;have hx:la 6 wq wq:=kj.out wq;have he:j3 6 (.bool au) wq:=by rw [lk.out]
     have HK:=aa (And.intro hk (And.intro he hx));clear hk hx he;go_simp;exact HK.out
    ·intro Lq wq xq hh;have d6:j3 6 (xq 6) wq:=hh.val 6 (by kernel_rfl) (by kernel_rfl);rw [lk.out] at d6;simp only [j8,d6];clear d6;refine .inl ⟨rfl,?_⟩;unfold Reg.upon;have hc:kV Lq wq:=hh.cls;rw [kg.out] at hc;go_simp;refine (uR.out wq).mono ?_;rintro e w2 ⟨rfl,rfl⟩;exact ⟨_,rfl,kh.out 7 Lq wq (by decide)  hh.cls,(by rw [lx.out];try rfl),kj.out _⟩
    ·intro Lq wq xq hh;have d4:j3 4 (xq 4) wq:=hh.val 4 (by kernel_rfl) (by kernel_rfl);rw [lr.out] at d4;have d7:j3 7 (xq 7) wq:=hh.val 7 (by kernel_rfl) (by kernel_rfl);rw [lx.out] at d7;simp only [j8,d4,d7];clear d4 d7;refine .inl ⟨rfl,?_⟩;unfold Reg.upon;have hk:=kh.out 8 Lq wq (by decide)  hh.cls;have hx:la 8 wq wq:=kj.out wq;have he:j3 8 (.int .u8 FL) wq:=by rw [ln.out]
     have HK:=aa (And.intro hk (And.intro he hx));clear hk hx he;go_simp;exact HK.out
    ·intro Lq wq xq hh;have d8:j3 8 (xq 8) wq:=hh.val 8 (by kernel_rfl) (by kernel_rfl);rw [ln.out] at d8;simp only [j8,d8];clear d8;refine .inl ⟨rfl,?_⟩;unfold Reg.upon;have hc:kV Lq wq:=hh.cls;rw [kg.out] at hc;go_simp;have hb:=(Below.refl (wq).heap.size wq).alloc (Nat.le_refl _) (.cells [Value.int .u8 FL].toArray 5);refine ⟨kh.out 9 Lq _ (by decide) (Hrgpb.out Lq wq _ hh.cls hb),?_,Hrgpxb.out wq _ hb⟩;rw [lI.out];exact cq (E:=bh .u8) (w:=wq) (ty:=5) (Y:=fun _=>False) (Z:=fun b=>wj.heap.size<=b) [.int .u8 FL] FL rfl (fun _ _ h=>h.elim) (hc.1 (Mix.one_un (hh.notYet 10 (by kernel_rfl)))).size
    ·intro Lq wq xq hh;have d0:j3 0 (xq 0) wq:=hh.val 0 (by kernel_rfl) (by kernel_rfl);rw [lD.out] at d0;have d9:j3 9 (xq 9) wq:=hh.val 9 (by kernel_rfl) (by kernel_rfl);rw [lI.out] at d9;simp only [j8,d0];clear d0;refine .inl ⟨rfl,?_⟩;unfold Reg.upon;have hc:kV Lq wq:=hh.cls;rw [kg.out] at hc;have hc7:=hc.1 hh.un;obtain ⟨v',w',hr,h1,h2,h3,h4⟩:=cF (P:=Tryd.prog) (E:=bh .u8) (Z:=fun _=>True) (w:=wq) (B:=w.heap.size) (ty:=5) 46 _ (.int .u8 0) 1 Tryd.underlying46 Tryd.info5 rfl (by decide) (ot.out.below hc7) (d9.zone (Y:=fun b=>True/\u4.ownBlock≠some b) (fun b _ hz=>⟨trivial,fun e=>by have:=(ot.out.lt b e).2;omega⟩)) (by simp;omega) (by simp;omega) (Nat.le_trans mF.out hc7.size);have hu:Upd (fun b=>u4.ownBlock=some b) wq w':=⟨h2.os,h2.tape,h2.output,h3.size,fun b hb hn=>h3.block b hb hn⟩;rw [ee rfl rfl rfl hr];refine ⟨?_,?_,?_⟩
     ·rw [kg.out];refine ⟨fun e=>?_,hc.2.1.trans h2,hc.2.2.trans hu⟩;rw [Mix.one_set (by rw [hh.size];decide)] at e;exact absurd e (by decide)
     ·rw [li.out];exact h1
     ·rw [mS.out];exact hu
    ·intro Lq wq xq hh;have d10:j3 10 (xq 10) wq:=hh.val 10 (by kernel_rfl) (by kernel_rfl);rw [li.out] at d10;simp only [j8];refine .inl ⟨rfl,?_⟩;unfold Reg.upon;go_simp;exact ⟨kh.out 11 Lq wq (by decide) hh.cls,(by rw [lg.out];exact d10),kj.out _⟩
   intro xq wrgp hcrgp hvrgp;rw [kg.out] at hcrgp;simp only [j8];have vrgp11:j3 11 (xq 11) wrgp:=hvrgp 11 (by decide);rw [lg.out] at vrgp11;clear hvrgp j8 kh kj m3 Hrgpc kg mS Hrgpb Hrgpxb lD lJ lB ls lr lO lk lx ln lI li lg;obtain ⟨_,kb,ku⟩:=hcrgp;have rn:=aa (ku.keep.has qT.out.1 (fun e=>qT.out.2 e));have t7:=aa (mr.out.trans kb);have tq:=aa vrgp11;obtain ⟨HD,pN⟩:=ab (YS++[FL]);have hhd:HD.length<=14:=by rw [pN,List.length_append,List.length_singleton];omega
   rw [<-pN] at HPV2 tq;have q2:=rn.out.cell 2 _ rfl;obtain ⟨wk,ow⟩:=ab (wrgp);rw [<-ow] at rn t7 tq q2 ⊢;have qN:=aa (eW Ls (fun i hi=>⟨(lZ.out.2.2.2.2.2.2.2.2.2 i hi).2,by have:=(lZ.out.2.2.2.2.2.2.2.2.2 i hi).1;have:=lZ.out.2.1;omega⟩));have hnl1:nl<=1024:=by have:=lZ.out;rw [pu.out];omega
   clear kb ku vrgp11 pN ow qT mr ot mF tN uR po hd1 qW rz kD
   go_upto_region 11 with (fail)
   clear q2
   go_loopw [4,48] (fun bv iv wr=>∃ i:Nat,i<=nl/\iv=.int .i64 (i:Int)/\Hid (BOwn wr w.heap.size bv (HD++(Ls.take i).flatMap lnB)/\Below w.heap.size w wr)) (fun _ iv _=>nl - (intOf iv).toNat)
   case atStart=>exact ⟨0,Nat.zero_le _,rfl,aa ⟨by rw [List.take_zero,List.flatMap_nil,List.append_nil];exact tq.out,t7.out⟩⟩
   case round =>
    clear tq t7 rn;obtain ⟨i,hi,rfl,HI⟩:=hrel;obtain ⟨wi,rZ⟩:=ab (wr);subst rZ
    by_cases kZ:i<nl
    ·have d1:(i:Int)<(nl:Int):=by omega
     have d1b:decide ((i:Int)<(nl:Int))=true:=ag (by omega);have mu:i<Ls.length:=by rw [<-pu.out];exact kZ
     obtain ⟨b,off,tv,e0,hb,_,c0,c1,hh⟩:=(be qO.out).2.2 i mu;subst e0;have nL:=lZ.out.2.2.2.2.2.2.2.2.2 i mu;have qF:=lZ.out.2.1;obtain ⟨⟨C,g⟩,qA⟩ : ∃ y,y=Ls.getD i zl:=⟨_,rfl⟩;rw [<-qA] at c1 hh nL;simp only at c1 hh nL;obtain ⟨tx,tc,etv⟩:=hh.len;subst etv;have c0:=(HI.out.2.cell (p:=⟨b,off+i * 2,none⟩) hb).trans c0;have c1:=(HI.out.2.cell (p:=⟨b,off+i * 2+1,none⟩) hb).trans c1;obtain ⟨X1,oc⟩:=ab (wi.alloc (.cells [Value.slice tx C.length tc,.bool g].toArray 69));have hb1:Below wi.heap.size wi X1:=by rw [oc];exact j0 _ _
     have j2:Has X1 wi.heap.size [.slice tx C.length tc,.bool g] 69:=by rw [oc];exact Has.new wi _ _
     have HX1:=aa (show wi.alloc (.cells #[Value.slice tx C.length tc,.bool g] 69)=X1 from by rw [oc]);obtain ⟨g1,hg1⟩:=ab (wi.heap.size);have mc:=aa hg1;rw [<-hg1] at j2;have pA:=aa (HI.out.2.trans (hb1.mono HI.out.2.size));obtain ⟨YI,oR⟩:=ab (HD++(Ls.take i).flatMap lnB);have HOX:=aa (show BOwn X1 w.heap.size u4 YI from by rw [oR];exact HI.out.1.below hb1);have hyi:YI.length<=80000000:=by
      rw [oR,List.length_append];have h1:=qN.out i (by omega);have h2:i * 71681<=1024 * 71681:=Nat.mul_le_mul_right _ (by omega);omega
     obtain ⟨G1,mZ⟩ : ∃ G1:Int,G1=if g=true then 1 else 0:=⟨_,rfl⟩;have oG:=aa (cg g 1 X1);rw [<-mZ] at oG;have sy:=aa (show (YI++[G1])++aD C=HD++(Ls.take (i+1)).flatMap lnB from by
      rw [oR,List.take_succ_eq_append_getElem mu,List.flatMap_append,List.flatMap_singleton,show Ls[i]=Ls.getD i zl from by simp [List.getD,List.getElem?_eq_getElem mu],<-qA,mZ];unfold lnB
      simp)
     have HCH:=aa ((hh.below HI.out.2).below hb1);have nY:=aa (dy nL.2);have lj:C.length<=1024:=by omega
     have nj:=aa j2;have z0:=j2.cell 0 _ rfl;have z1:=j2.cell 1 _ rfl;have rl:=aa pA.out.size;have HGX:=aa (show u4.ownBlock≠some g1 from (show BOwn wi w.heap.size u4 (HD++(Ls.take i).flatMap lnB) from HI.out.1).off (by omega));clear qA hb hh oc hb1 j2 hg1 oR mZ nL qF HI
     go_upto_region 13 with (fail)
     rw [HX1.out,<-mc.out];clear c0 c1
     go_wp2_with fail
     refine oG.out.mono ?_;rintro e w3 ⟨rfl,rfl⟩
     go_wp2_with (at_builtin;refine di rfl (.tmp 52) (.tmp 56) 46 rfl Tryd.underlying46 G1 rfl rfl HOX.out (by omega) rl.out ?_)
     intro v4 w4 kL s4;have tG:=aa (s4.has nj.out HGX.out);have kD:=aa (pA.out.trans s4.1);have z0:=tG.out.1.cell 0 _ rfl;have qu:=aa (gW w.heap.size v4 (YI++[G1]) (fun b=>b<w.heap.size) (.slice tx C.length tc) C w4 kL kD.out.size (by rw [List.length_append,List.length_singleton];omega) (by omega) nY.out ((s4.held HCH.out (fun b hb e=>by have:=(HOX.out.lt b e).1;omega)).zone fun b _ hz=>hz.1) (fun b hb e=>by have:=(kL.lt b e).1;omega));clear kL s4 z1
     go_wp2_with fail
     refine qu.out.mono ?_;rintro e w5 ⟨v5,rfl,kH,s5⟩;have HF:=aa (show BOwn w5 w.heap.size v5 (HD++(Ls.take (i+1)).flatMap lnB)/\Below w.heap.size w w5 from ⟨by rw [<-sy.out];exact kH,kD.out.trans s5.1⟩);clear kH s5 z0;go_wp2
     go_roundw
     case rel=>exact ⟨i+1,by omega,by go_num,HF⟩
     case measure=>simp [intOf] <;> omega
    ·obtain rfl:i=nl:=by omega
     have d1:¬ (i:Int)<(i:Int):=by omega
     have d1b:decide ((i:Int)<(i:Int))=false:=ah (by omega);have HF:=aa (show BOwn wi w.heap.size u4 PV/\Below w.heap.size w wi from ⟨by
      have h:=HI.out.1;rw [pu.out,List.take_length,<-HPV2.out] at h;exact h,HI.out.2⟩)
     clear kZ HI;go_wp2;exact bodyPost_ret (v:=.tuple #[u4,.nilIface]) (by simp [results,Tryd.results18,go_sem]) rfl ⟨u4,rfl,HF.out.1,HF.out.2⟩
end Go.Proofs.YtechjomepdahiaaDoor
