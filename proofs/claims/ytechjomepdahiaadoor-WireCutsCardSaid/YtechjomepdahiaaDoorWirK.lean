import Derived.Test.YtechjomepdahiaaDoorZ0
import Derived.Test.YtechjomepdahiaaDoorWirJ
import Derived.Test.YtechjomepdahiaaDoorWirE
import Derived.Test.YtechjomepdahiaaDoorRgnL
set_option maxRecDepth 100000
set_option linter.unusedVariables false
set_option linter.unusedSimpArgs false
set_option maxHeartbeats 4000000
namespace Go.Proofs.YtechjomepdahiaaDoor
open Go.RowKit Go.ChangeShapes Go.WideShapes
theorem iQ{xs ys:List Int}(hx:aP xs)(hy:aP ys):((strOfNums xs).toList == (strOfNums ys).toList)=decide (xs=ys):=by
 rw [Lib.strOfNums_toList,Lib.strOfNums_toList];have key:∀ (xs ys:List Int),aP xs->aP ys->Lib.bytesOf xs=Lib.bytesOf ys->xs=ys:=by
  intro xs
  induction xs with
  |nil =>
   intro ys _ _ h
   cases ys with
   |nil=>rfl
   |cons y ys=>cases h
  |cons x xs ih =>
   intro ys hx hy h
   cases ys with
   |nil=>cases h
   |cons y ys =>
    have h:UInt8.ofNat x.toNat :: Lib.bytesOf xs=UInt8.ofNat y.toNat :: Lib.bytesOf ys:=h
    injection h with h1 h2
    have b1:=hx x (List.mem_cons_self ..);have b2:=hy y (List.mem_cons_self ..);have e:=congrArg UInt8.toNat h1
    simp at e
    have e2:x=y:=by omega
    rw [e2,ih ys (fun z hz=>hx z (List.mem_cons_of_mem _ hz)) (fun z hz=>hy z (List.mem_cons_of_mem _ hz)) h2]
 by_cases h:xs=ys
 ·rw [decide_eq_true h,h];simp
 ·rw [decide_eq_false h,beq_eq_false_iff_ne];exact fun e=>h (key xs ys hx hy e)
theorem iR(v u:Value)(xs ys:List Int)(w:World)(hv:Held .u8 w v xs)(hu:Held .u8 w u ys)(hx:aP xs)(hy:aP ys):Calls Tryd.prog 57 #[v,u] w (fun e w'=>e=.returned (.bool (decide (xs=ys)))/\w=w'):=by
 have h1:=dX (P:=Tryd.prog) hv 46 5 9 Tryd.underlying46 Tryd.underlying5 Tryd.underlying9;have h2:=dX (P:=Tryd.prog) hu 46 5 9 Tryd.underlying46 Tryd.underlying5 Tryd.underlying9;have HS:=aa (iQ hx hy);generalize strOfNums xs=s at *;generalize strOfNums ys=t at *;clear hv hu
 go_enter Tryd.func57,Tryd.ntmps57
 go_wp2;go_ret;exact ⟨by rw [HS.out];rfl,rfl⟩
theorem aR{a b:List Int}(ha:aP a)(hb:aP b):aP (a++b):=fun x h=>by
 rcases List.mem_append.1 h with h | h
 ·exact ha x h
 ·exact hb x h
theorem du{α:Type}{f:α->List Int}{l:List α}(h:∀ x ∈ l,aP (f x)):aP (l.flatMap f):=fun x hx=>by
 obtain ⟨y,hy,h2⟩:=List.mem_flatMap.1 hx;exact h y hy x h2
theorem fe(c:Cl):aP (clB c):=by
 unfold clB
 split
 ·exact fun x h=>absurd h List.not_mem_nil
 ·exact aR (bV _) (du fun x _ y hy=>by have:=gB x y hy;omega)
theorem er:∀ (n:Nat) (l:List Cl),l.length<=n->aP (aE l)
 |n,[],_=>by rw [bD];exact fun x h=>absurd h List.not_mem_nil
 |0,c :: l,h=>absurd h (by simp)
 |n+1,c :: l,h=>by
  rw [bZ];exact aR (aR (bV _) (aR (fe c) (du fun d _=>fe d))) (er n _ (by rw [List.length_drop];simp only [List.length_cons] at h;omega))
theorem et(v:Vw):aP (aL v):=by
 unfold aL;intro x hx
 rcases List.mem_cons.1 hx with rfl | hx
 ·decide
 ·refine aR (aR (aR (aR (aR (bV _) (bV _)) (bV _)) (bV _)) ?_) ?_ x hx
  ·intro y hy;rw [List.mem_singleton.1 hy];unfold bN
   split <;> split <;> omega
  ·refine du fun l _=>?_
   unfold lnB;intro y hy
   rcases List.mem_cons.1 hy with rfl | hy
   ·split <;> omega
   ·exact er _ _ (Nat.le_refl _) y hy
theorem bX{ρ:Operand->Value}{o:Oper}{w:World}(ho:o.op=.build 44 #[]):(execOp ρ o).run Tryd.prog w=.ok (.value (.agg #[.int .i64 0,.int .i64 0,.slice none 0 0,.int .i64 0,.int .i64 0,.bool false,.bool false])) w:=by
 unfold execOp
 simp [ho,go_sem]
theorem bP{P:Program}{fn:Func}{p q:Tmp}{ty:TypeId}(h:fn.results=#[.cell p ty,.tmp q])(tmps:Array Value)(w:World)(g:Nat)(t:TypeId)(C:List Value)(d:TypeDesc)(n:Nat)(u:Value)
  (hp:tmps.getD p undef=.pointer (some ⟨g,0,none⟩)) (hq:tmps.getD q undef=u) (hg:Has w g C t)
  (hu:P.underlying ty=some d) (hd:(match d with | .struct _ | .array _ _=>true | _=>false)=true)
  (hi:(P.info? ty).map (·.size)=some n) (hn:C.length=n) :
  (results fn tmps).run P w=.ok (.tuple #[.agg C.toArray,u]) w:=by
 rw [results_cell_tmp h,hp,hq]
 simp [asAddr,run_loadVar_row w g t ty C.toArray (0,0) d hg hu hd (by rw [hi];simp [hn]),Result.andThen]
def zv:Vw:=⟨0,0,[],0,0,false,false⟩
def ly(sa:Nat->Addr)(xs:List Int)(w:World)(e:Ending)(w':World):Prop:=Below w.heap.size w w'/\((∃ V u,e=.returned (.tuple #[bo V u,.nilIface])/\HeldE lineE (fun b=>w.heap.size<=b) w' u V.L/\ax V=true/\aL V=xs)\/(e=.returned (.tuple #[bo zv (.slice none 0 0),.iface 186 (.pointer (some (sa 1)))])/\∀ V,bY xs=(V,[],false)->ax V=true->aL V≠xs))
theorem gb(sa:Nat->Addr)(v:Value)(xs:List Int)(w:World)(hs:Five w sa)(hv:HeldE (aV .u8) (fun b=>b<w.heap.size) w v xs)(hx:aP xs)(hl:xs.length<=1000000):Calls Tryd.prog 21 #[v] w (ly sa xs w):=by
 obtain ⟨ao,cap,ev⟩:=hv.len;subst ev;obtain ⟨N,hN⟩:=ab (xs.length);rw [<-hN] at hv hl ⊢;have mP:=aa hN;have HV:=aa hv;have pS:=aa hs;have HX:=aa hx;obtain ⟨W1,hW1⟩:=ab (w.alloc (.cells [Value.int .i64 0,.int .i64 0,.slice none 0 0,.int .i64 0,.int .i64 0,.bool false,.bool false].toArray 44));have b1:Below w.heap.size w W1:=by rw [hW1];exact lD _ _
 have lF:Has W1 w.heap.size [Value.int .i64 0,.int .i64 0,.slice none 0 0,.int .i64 0,.int .i64 0,.bool false,.bool false] 44:=by rw [hW1];exact Has.new w _ _
 have s1:W1.heap.size=w.heap.size+1:=by rw [hW1];exact Array.size_push _
 obtain ⟨W2,hW2⟩:=ab (W1.alloc (.cells [Value.slice ao N cap,.bool false].toArray 104));have b2:Below W1.heap.size W1 W2:=by rw [hW2];exact lD _ _
 have nB:Has W2 W1.heap.size [Value.slice ao N cap,.bool false] 104:=by rw [hW2];exact Has.new W1 _ _
 have l5:=aa hW1.symm;have sK:=aa hW2.symm;obtain ⟨gr,hgr⟩:=ab (w.heap.size);obtain ⟨g,hg⟩:=ab (W1.heap.size);have uO:w.heap.size+1=g:=by omega
 have hgg:gr<g:=by omega
 rw [<-hgr] at lF;rw [<-hg] at nB;have nA:=aa hgr;have qR:=aa uO;have lF:=lF.below b2 lF.lt;have l2:=aa (b1.trans (b2.mono (by omega)));have pD:=aa (And.intro lF nB);clear hW1 hW2 b1 b2 lF nB s1 hgr hg uO hv hs hx hN;obtain ⟨V,ys,bd,vR⟩ : ∃ a b c,bY xs=(a,b,c):=⟨_,_,_,rfl⟩;have rl:=aa vR;have tr:=aa (show Calls Tryd.prog 55 #[.pointer (some ⟨g,0,none⟩)] W2 (fun e w'=>∃ vl,e=.returned (.agg #[.int .i64 V.w,.int .i64 V.h,vl,.int .i64 V.r,.int .i64 V.c,.bool V.pd,.bool V.au])/\HeldE lineE (fun b=>W2.heap.size<=b) w' vl V.L/\RdAt w.heap.size w' g ys bd/\Upd (fun b=>b=g) W2 w'/\0<=V.w/\V.w<2097152/\0<=V.h/\V.h<2097152) from by
  have:=iS w.heap.size g xs W2 ⟨by have:=qR.out;omega,HX.out,.slice ao N cap,pD.out.2,HV.out.below l2.out⟩ (by rw [<-mP.out];exact hl);rw [vR] at this;exact this)
 clear vR
 go_enter Tryd.func21,Tryd.ntmps21
 go_upto_region 2 with (fail)
 rw [l5.out,sK.out,qR.out,<-nA.out];refine' _
 go_wp2_with fail
 refine tr.out.mono ?_;rintro e w3 ⟨vl,rfl,hL3,hr3,oH,mA,hv2,hv3,hv4⟩;obtain ⟨a1,c1,ev1⟩:=hL3.len;subst ev1;obtain ⟨nl,l9⟩:=ab (V.L.length);rw [<-l9] at hL3 ⊢;have rc:=aa l9;have hgx:g<W2.heap.size:=pD.out.2.lt;have mv:=aa (show Below w.heap.size w w3 from l2.out.trans (oH.below (by have:=qR.out;omega) (fun b e=>by have e:b=g:=e;have:=qR.out;omega)));have wJ:=oH.keep.has pD.out.1 (fun e=>by omega);obtain ⟨W4,qB⟩:=ab (w3.alloc (.cells [Value.int .i64 V.w,.int .i64 V.h,.slice a1 nl c1,.int .i64 V.r,.int .i64 V.c,.bool V.pd,.bool V.au].toArray 44));have b4:Below w3.heap.size w3 W4:=by rw [qB];exact lD _ _
 obtain ⟨gv,m8⟩:=ab (w3.heap.size);have qq:Has W4 gv [Value.int .i64 V.w,.int .i64 V.h,.slice a1 nl c1,.int .i64 V.r,.int .i64 V.c,.bool V.pd,.bool V.au] 44:=by rw [qB,m8];exact Has.new w3 _ _
 have hg3:W2.heap.size<=gv:=by have:=oH.size;omega
 have nF:=aa (And.intro (wJ.below b4 wJ.lt) qq);have lW:=aa (mv.out.trans (b4.mono mv.out.size));have tQ:=aa (hL3.below b4);have nu:=aa (kt w.heap.size g ys bd W4 (hr3.below b4));have uy:=aa qB.symm;have oq:=aa m8.symm;have hg0:w.heap.size=gr:=nA.out.symm;have m0:=aa hg0;have h02:w.heap.size<W2.heap.size:=by omega
 obtain ⟨okv,mi⟩:=ab ((!bd && decide (ys.length=0)));rw [<-mi] at nu;have rp:=aa mi;have dl:decide ((16777216:Int)<(N:Int))=false:=ah (by omega);have dn:¬ (16777216:Int)<(N:Int):=by omega
 clear l9 mi m8 qq b4 hL3 hr3 oH mv tr wJ l5 sK qR pD l2 qB hg0
 go_upto_region 3 with (fail)
 rw [uy.out,oq.out]
 go_wp2_with fail
 refine nu.out.mono ?_;rintro e w5 ⟨rfl,rfl⟩;clear nu uy oq
 cases okv with
 |false =>
  have qn:=aa (show ∀ V',bY xs=(V',[],false)->ax V'=true->aL V'≠xs from fun V' e _ _=>by
   rw [rl.out] at e
   cases e
   have:=rp.out;exact absurd this (by decide))
  have oa:=lW;have rQ:=aa nF.out.1;obtain ⟨wt,hwt⟩:=ab (W4);rw [<-hwt] at oa rQ ⊢;clear hwt nF lW tQ rp
  go_upto_region 9 with (fail)
  obtain ⟨mb,nj⟩ : ∃ CC:Array Bool->World->Prop,CC=fun _ w'=>Has w' gr [Value.int .i64 0,.int .i64 0,.slice none 0 0,.int .i64 0,.int .i64 0,.bool false,.bool false] 44/\Upd (fun b=>b=gr) wt w':=⟨_,rfl⟩
  obtain ⟨Xrgt4,hXrgt4,oM,Hrgt4xb⟩:=Reg.xT;obtain ⟨Ergt4,Hrgt4st,nY,nW,Hrgt4e2,nR⟩:=Reg.e4 Xrgt4
   (fun xx _=>xx=.agg #[.int .i64 0,.int .i64 0,.slice none 0 0,.int .i64 0,.int .i64 0,.bool false,.bool false])
   (fun xx _=>xx=.iface 186 (.pointer (some (sa 1))))
   (fun xx _=>xx=undef)
   (fun xx _=>xx=.iface 186 (.pointer (some (sa 1))))
  have oN:Hid (∀ i L w, mb L w->mb (L.setIfInBounds i true) w):=aa (by
   intro i L w h;rw [nj] at h ⊢;exact h)
  have Hrgt4b:Hid (∀ L w w1,mb L w->Below w.heap.size w w1->mb L w1):=aa (by
   intro L w w1 h hb;rw [nj] at h ⊢
   (obtain ⟨q1,q2⟩:=h;exact ⟨q1.below hb q1.lt,q2.trans (.ofBelow hb)⟩))
  have Hrgt4c:=aa (show mb (Array.replicate 4 false) wt.drew from by rw [nj];exact ⟨rQ.out.drewN 1,(Upd.refl _ _).drew⟩);have oJ:=aa (fun (i:Nat) L w v (h:mb L w) (e:Ergt4 i v w)=>Reg.hk (oN.out i L w h) e (oM.out w));have l1:=aa nj;have Hrgt4hX:=aa hXrgt4;clear nj hXrgt4
  go_wp2_with fail
  refine Reg.regionF Ergt4 mb Xrgt4 Hrgt4st.out (by kernel_rfl) (by kernel_rfl) (by kernel_rfl) Hrgt4c.out (fun Frgt4 mf=>?_);simp only [Reg.frame,Reg.dsts,List.map_cons,List.map_nil,Mix.put_lit,Reg.put_none,List.set_cons_succ,List.set_cons_zero,Nat.zero_add,Nat.reduceAdd] at mf;refine ⟨⟨?_,?_,?_,?_,trivial⟩,?_⟩
  ·intro Lq wq xq hh;simp only [mf];refine Reg.go rfl ?_;unfold Reg.upon;have hc:mb Lq wq:=hh.cls;rw [l1.out] at hc;rw [bX rfl];exact ⟨oN.out 0 Lq wq  hh.cls,(by rw [nY.out];try rfl),oM.out _⟩
  ·intro Lq wq xq hh;simp only [mf];refine Reg.go rfl ?_;have hc:mb Lq wq:=hh.cls;rw [l1.out] at hc;have q0:(wq).cell? ⟨2,0,none⟩=some (.iface 186 (.pointer (some (sa 1)))):=(pS.out.below (oa.out.trans (hc.2.below oa.out.size (fun b e=>by have e:b=gr:=e;have:=m0.out;omega)))).cell 1 (by decide);clear hc;have HK:=oJ.out 1 _ _ _ hh.cls ((nW.out _ _).mpr rfl);go_simp;exact HK.out
  ·intro Lq wq xq hh;simp only [mf,(nY.out _ _).mp (hh.v 0)];refine Reg.go rfl ?_;unfold Reg.upon;have hc:mb Lq wq:=hh.cls;rw [l1.out] at hc;rw [cb rfl rfl [Value.int .i64 0,.int .i64 0,.slice none 0 0,.int .i64 0,.int .i64 0,.bool false,.bool false] rfl (dm hc.1 _ (by decide)) aS (by simp [Value.oneCell'])];refine ⟨?_,by rw [Hrgt4e2.out],by rw [Hrgt4hX.out];trivial⟩;rw [l1.out];have h2:=bw gr 44 [Value.int .i64 0,.int .i64 0,.slice none 0 0,.int .i64 0,.int .i64 0,.bool false,.bool false] [] [Value.int .i64 0,.int .i64 0,.slice none 0 0,.int .i64 0,.int .i64 0,.bool false,.bool false] wq hc.1 (by decide);exact ⟨by simpa using h2,hc.2.trans (Upd.ofBut (aW gr (wq).heap.size wq [Value.int .i64 0,.int .i64 0,.slice none 0 0,.int .i64 0,.int .i64 0,.bool false,.bool false] 0 wq (But.refl _ _ _)))⟩
  ·intro Lq wq xq hh;simp only [mf,(nW.out _ _).mp (hh.v 1)];refine Reg.go rfl ?_;have HK:=oJ.out 3 _ _ _ hh.cls ((nR.out _ _).mpr rfl);go_simp;exact HK.out
  intro xq wrgt4 oL hvrgt4;rw [l1.out] at oL;simp only [mf];have vrgt43:=(nR.out _ _).mp (hvrgt4 3 (by decide));rw [vrgt43];clear hvrgt4 mf oJ oN oM Hrgt4st Hrgt4c l1 Hrgt4hX Hrgt4b Hrgt4xb nY nW Hrgt4e2 nR;have nI:=oa.out.trans (oL.2.below oa.out.size (fun b e=>by have e:b=gr:=e;have:=m0.out;omega));go_wp2;exact bodyPost_ret (v:=.tuple #[.agg [Value.int .i64 0,.int .i64 0,.slice none 0 0,.int .i64 0,.int .i64 0,.bool false,.bool false].toArray,.iface 186 (.pointer (some (sa 1)))]) (bP Tryd.results21 _ _ gr 44 [Value.int .i64 0,.int .i64 0,.slice none 0 0,.int .i64 0,.int .i64 0,.bool false,.bool false] _ 7 _ rfl rfl oL.1 Tryd.underlying44 rfl aS rfl) rfl ⟨nI,.inr ⟨rfl,qn.out⟩⟩
 |true =>
  have hoe:bd=false/\ys=[]:=by
   have:=rp.out.symm;rw [Bool.and_eq_true,decide_eq_true_eq] at this;exact ⟨by cases bd;rfl;exact absurd this.1 (by decide),List.eq_nil_of_length_eq_zero this.2⟩
  obtain ⟨rfl,rfl⟩:=hoe;have rq:ViewAt W4 V (.slice a1 nl c1):=⟨tQ.out.zone (fun _ _ _=>trivial),by omega,by omega,by omega,by omega⟩
  cases hrt:ax V with
  |false =>
   have pK:=aa (show Calls Tryd.prog 18 #[.agg #[.int .i64 V.w,.int .i64 V.h,.slice a1 nl c1,.int .i64 V.r,.int .i64 V.c,.bool V.pd,.bool V.au]] W4 (Gives W4 (.tuple #[.slice none 0 0,.iface 186 (.pointer (some (sa 4)))])) from jM sa V (.slice a1 nl c1) W4 (pS.out.below lW.out) rq hrt);have qn:=aa (show ∀ V',bY xs=(V',[],false)->ax V'=true->aL V'≠xs from fun V' e h _=>by
    rw [rl.out] at e
    cases e
    rw [hrt] at h
    cases h)
   clear hrt rq rp tQ;have qM:=nF.out.2
   go_upto_region 4 with (fail)
   go_wp2_with (refine bb rfl 44 (.tmp 5) rfl gv rfl 44 _ _ 7 qM Tryd.underlying44 rfl aS rfl ?_)
   refine pK.out.mono ?_;rintro e wt ⟨rfl,bt⟩;have oa:=aa (lW.out.trans (bt.mono lW.out.size));have rQ:=aa (nF.out.1.below bt nF.out.1.lt);clear qM nF lW pK bt
   go_upto_region 9 with (fail)
   obtain ⟨l8,na⟩ : ∃ CC:Array Bool->World->Prop,CC=fun _ w'=>Has w' gr [Value.int .i64 0,.int .i64 0,.slice none 0 0,.int .i64 0,.int .i64 0,.bool false,.bool false] 44/\Upd (fun b=>b=gr) wt w':=⟨_,rfl⟩
   obtain ⟨Xrgt6,hXrgt6,oB,Hrgt6xb⟩:=Reg.xT;obtain ⟨Ergt6,Hrgt6st,nX,nS,Hrgt6e2,nV⟩:=Reg.e4 Xrgt6
    (fun xx _=>xx=.agg #[.int .i64 0,.int .i64 0,.slice none 0 0,.int .i64 0,.int .i64 0,.bool false,.bool false])
    (fun xx _=>xx=.iface 186 (.pointer (some (sa 1))))
    (fun xx _=>xx=undef)
    (fun xx _=>xx=.iface 186 (.pointer (some (sa 1))))
   have oI:Hid (∀ i L w, l8 L w->l8 (L.setIfInBounds i true) w):=aa (by
    intro i L w h;rw [na] at h ⊢;exact h)
   have Hrgt6b:Hid (∀ L w w1,l8 L w->Below w.heap.size w w1->l8 L w1):=aa (by
    intro L w w1 h hb;rw [na] at h ⊢
    (obtain ⟨q1,q2⟩:=h;exact ⟨q1.below hb q1.lt,q2.trans (.ofBelow hb)⟩))
   have Hrgt6c:=aa (show l8 (Array.replicate 4 false) wt.drew from by rw [na];exact ⟨rQ.out.drewN 1,(Upd.refl _ _).drew⟩);have oC:=aa (fun (i:Nat) L w v (h:l8 L w) (e:Ergt6 i v w)=>Reg.hk (oI.out i L w h) e (oB.out w));have lZ:=aa na;have Hrgt6hX:=aa hXrgt6;clear na hXrgt6
   go_wp2_with fail
   refine Reg.regionF Ergt6 l8 Xrgt6 Hrgt6st.out (by kernel_rfl) (by kernel_rfl) (by kernel_rfl) Hrgt6c.out (fun Frgt6 mc=>?_);simp only [Reg.frame,Reg.dsts,List.map_cons,List.map_nil,Mix.put_lit,Reg.put_none,List.set_cons_succ,List.set_cons_zero,Nat.zero_add,Nat.reduceAdd] at mc;refine ⟨⟨?_,?_,?_,?_,trivial⟩,?_⟩
   ·intro Lq wq xq hh;simp only [mc];refine Reg.go rfl ?_;unfold Reg.upon;have hc:l8 Lq wq:=hh.cls;rw [lZ.out] at hc;rw [bX rfl];exact ⟨oI.out 0 Lq wq  hh.cls,(by rw [nX.out];try rfl),oB.out _⟩
   ·intro Lq wq xq hh;simp only [mc];refine Reg.go rfl ?_;have hc:l8 Lq wq:=hh.cls;rw [lZ.out] at hc;have q0:(wq).cell? ⟨2,0,none⟩=some (.iface 186 (.pointer (some (sa 1)))):=(pS.out.below (oa.out.trans (hc.2.below oa.out.size (fun b e=>by have e:b=gr:=e;have:=m0.out;omega)))).cell 1 (by decide);clear hc;have HK:=oC.out 1 _ _ _ hh.cls ((nS.out _ _).mpr rfl);go_simp;exact HK.out
   ·intro Lq wq xq hh;simp only [mc,(nX.out _ _).mp (hh.v 0)];refine Reg.go rfl ?_;unfold Reg.upon;have hc:l8 Lq wq:=hh.cls;rw [lZ.out] at hc;rw [cb rfl rfl [Value.int .i64 0,.int .i64 0,.slice none 0 0,.int .i64 0,.int .i64 0,.bool false,.bool false] rfl (dm hc.1 _ (by decide)) aS (by simp [Value.oneCell'])];refine ⟨?_,by rw [Hrgt6e2.out],by rw [Hrgt6hX.out];trivial⟩;rw [lZ.out];have h2:=bw gr 44 [Value.int .i64 0,.int .i64 0,.slice none 0 0,.int .i64 0,.int .i64 0,.bool false,.bool false] [] [Value.int .i64 0,.int .i64 0,.slice none 0 0,.int .i64 0,.int .i64 0,.bool false,.bool false] wq hc.1 (by decide);exact ⟨by simpa using h2,hc.2.trans (Upd.ofBut (aW gr (wq).heap.size wq [Value.int .i64 0,.int .i64 0,.slice none 0 0,.int .i64 0,.int .i64 0,.bool false,.bool false] 0 wq (But.refl _ _ _)))⟩
   ·intro Lq wq xq hh;simp only [mc,(nS.out _ _).mp (hh.v 1)];refine Reg.go rfl ?_;have HK:=oC.out 3 _ _ _ hh.cls ((nV.out _ _).mpr rfl);go_simp;exact HK.out
   intro xq wrgt6 oF hvrgt6;rw [lZ.out] at oF;simp only [mc];have vrgt63:=(nV.out _ _).mp (hvrgt6 3 (by decide));rw [vrgt63];clear hvrgt6 mc oC oI oB Hrgt6st Hrgt6c lZ Hrgt6hX Hrgt6b Hrgt6xb nX nS Hrgt6e2 nV;have nI:=oa.out.trans (oF.2.below oa.out.size (fun b e=>by have e:b=gr:=e;have:=m0.out;omega));go_wp2;exact bodyPost_ret (v:=.tuple #[.agg [Value.int .i64 0,.int .i64 0,.slice none 0 0,.int .i64 0,.int .i64 0,.bool false,.bool false].toArray,.iface 186 (.pointer (some (sa 1)))]) (bP Tryd.results21 _ _ gr 44 [Value.int .i64 0,.int .i64 0,.slice none 0 0,.int .i64 0,.int .i64 0,.bool false,.bool false] _ 7 _ rfl rfl oF.1 Tryd.underlying44 rfl aS rfl) rfl ⟨nI,.inr ⟨rfl,qn.out⟩⟩
  |true =>
   have pK:=aa (show Calls Tryd.prog 18 #[.agg #[.int .i64 V.w,.int .i64 V.h,.slice a1 nl c1,.int .i64 V.r,.int .i64 V.c,.bool V.pd,.bool V.au]] W4 (fun e w'=>∃ u,e=.returned (.tuple #[u,.nilIface])/\BOwn w' W4.heap.size u (aL V)/\Below W4.heap.size W4 w') from ey sa V (.slice a1 nl c1) W4 (pS.out.below lW.out) rq hrt);have wG:=aa hrt;clear rq rp hrt;have qM:=nF.out.2
   go_upto_region 4 with (fail)
   go_wp2_with (refine bb rfl 44 (.tmp 5) rfl gv rfl 44 _ _ 7 qM Tryd.underlying44 rfl aS rfl ?_)
   refine pK.out.mono ?_;rintro e wt ⟨u,rfl,ho,bt⟩;have oa:=aa (lW.out.trans (bt.mono lW.out.size));have rQ:=aa (nF.out.1.below bt nF.out.1.lt);have HAv:=aa (nF.out.2.below bt nF.out.2.lt);have HLt:=aa (tQ.out.below bt);have tj:=(OwnE.held (Z:=fun _=>True) (OwnE.zone ho (Y:=fun _=>True) (fun _ _ _=>trivial)) (fun _ _ _=>trivial)).ints;have vi:=aa (iR u (.slice ao N cap) (aL V) xs wt tj (HV.out.below oa.out).ints (et V) HX.out);obtain ⟨eqv,ro⟩:=ab (decide (aL V=xs));rw [<-ro] at vi;have xz:=aa ro;obtain ⟨a5,c5,ev5⟩:=(OwnE.held (Z:=fun _=>True) (OwnE.zone ho (Y:=fun _=>True) (fun _ _ _=>trivial)) (fun _ _ _=>trivial)).len;subst ev5;obtain ⟨n5,hn5⟩:=ab ((aL V).length);rw [<-hn5] at vi ⊢;clear qM nF lW pK bt ho tj ro hn5 tQ
   go_wp2_with fail
   refine vi.out.mono ?_;rintro e w7 ⟨rfl,rfl⟩;clear vi
   cases eqv with
   |true =>
    have hav:=HAv.out;have hat:=rQ.out
    go_upto_region 6 with (fail)
    go_wp2_with (first | (refine bb rfl 44 (.tmp 5) rfl gv rfl 44 _ _ 7 hav Tryd.underlying44 rfl aS rfl ?_) | (refine cC rfl 44 (.tmp 2) (.tmp 24) rfl gr rfl 44 [Value.int .i64 0,.int .i64 0,.slice none 0 0,.int .i64 0,.int .i64 0,.bool false,.bool false] [Value.int .i64 V.w,.int .i64 V.h,.slice a1 nl c1,.int .i64 V.r,.int .i64 V.c,.bool V.pd,.bool V.au] 7 rfl hat aS rfl rfl (by simp [Value.oneCell']) ?_;intro wz hz pU))
    have pU:Upd (fun b=>b=gr) wt wz:=Upd.ofBut pU;have nI:=oa.out.trans (pU.below oa.out.size (fun b e=>by have e:b=gr:=e;have:=m0.out;omega));have hlz:=(HLt.out.upd pU (fun b hb e=>by have e:b=gr:=e;have hb:W2.heap.size<=b:=hb;omega)).zone (Y:=fun b=>w.heap.size<=b) (fun b _ h=>by have h:W2.heap.size<=b:=h;omega);have hpx:aL V=xs:=of_decide_eq_true xz.out.symm;exact bodyPost_ret (v:=.tuple #[.agg [Value.int .i64 V.w,.int .i64 V.h,.slice a1 nl c1,.int .i64 V.r,.int .i64 V.c,.bool V.pd,.bool V.au].toArray,.nilIface]) (bP Tryd.results21 _ _ gr 44 [Value.int .i64 V.w,.int .i64 V.h,.slice a1 nl c1,.int .i64 V.r,.int .i64 V.c,.bool V.pd,.bool V.au] _ 7 _ rfl rfl hz Tryd.underlying44 rfl aS rfl) rfl ⟨nI,.inl ⟨V,.slice a1 nl c1,rfl,hlz,wG.out,hpx⟩⟩
   |false =>
    have qn:=aa (show ∀ V',bY xs=(V',[],false)->ax V'=true->aL V'≠xs from fun V' e h e2=>by
     rw [rl.out] at e
     cases e
     have:=xz.out;rw [decide_eq_true e2] at this
     cases this)
    clear HAv HLt xz
    go_upto_region 9 with (fail)
    obtain ⟨l7,mS⟩ : ∃ CC:Array Bool->World->Prop,CC=fun _ w'=>Has w' gr [Value.int .i64 0,.int .i64 0,.slice none 0 0,.int .i64 0,.int .i64 0,.bool false,.bool false] 44/\Upd (fun b=>b=gr) wt w':=⟨_,rfl⟩
    obtain ⟨Xrgt8,hXrgt8,oK,Hrgt8xb⟩:=Reg.xT;obtain ⟨Ergt8,Hrgt8st,nU,nN,Hrgt8e2,nP⟩:=Reg.e4 Xrgt8
     (fun xx _=>xx=.agg #[.int .i64 0,.int .i64 0,.slice none 0 0,.int .i64 0,.int .i64 0,.bool false,.bool false])
     (fun xx _=>xx=.iface 186 (.pointer (some (sa 1))))
     (fun xx _=>xx=undef)
     (fun xx _=>xx=.iface 186 (.pointer (some (sa 1))))
    have oS:Hid (∀ i L w, l7 L w->l7 (L.setIfInBounds i true) w):=aa (by
     intro i L w h;rw [mS] at h ⊢;exact h)
    have Hrgt8b:Hid (∀ L w w1,l7 L w->Below w.heap.size w w1->l7 L w1):=aa (by
     intro L w w1 h hb;rw [mS] at h ⊢
     (obtain ⟨q1,q2⟩:=h;exact ⟨q1.below hb q1.lt,q2.trans (.ofBelow hb)⟩))
    have Hrgt8c:=aa (show l7 (Array.replicate 4 false) wt.drew from by rw [mS];exact ⟨rQ.out.drewN 1,(Upd.refl _ _).drew⟩);have oG:=aa (fun (i:Nat) L w v (h:l7 L w) (e:Ergt8 i v w)=>Reg.hk (oS.out i L w h) e (oK.out w));have l3:=aa mS;have Hrgt8hX:=aa hXrgt8;clear mS hXrgt8
    go_wp2_with fail
    refine Reg.regionF Ergt8 l7 Xrgt8 Hrgt8st.out (by kernel_rfl) (by kernel_rfl) (by kernel_rfl) Hrgt8c.out (fun Frgt8 mg=>?_);simp only [Reg.frame,Reg.dsts,List.map_cons,List.map_nil,Mix.put_lit,Reg.put_none,List.set_cons_succ,List.set_cons_zero,Nat.zero_add,Nat.reduceAdd] at mg;refine ⟨⟨?_,?_,?_,?_,trivial⟩,?_⟩
    ·intro Lq wq xq hh;simp only [mg];refine Reg.go rfl ?_;unfold Reg.upon;have hc:l7 Lq wq:=hh.cls;rw [l3.out] at hc;rw [bX rfl];exact ⟨oS.out 0 Lq wq  hh.cls,(by rw [nU.out];try rfl),oK.out _⟩
    ·intro Lq wq xq hh;simp only [mg];refine Reg.go rfl ?_;have hc:l7 Lq wq:=hh.cls;rw [l3.out] at hc;have q0:(wq).cell? ⟨2,0,none⟩=some (.iface 186 (.pointer (some (sa 1)))):=(pS.out.below (oa.out.trans (hc.2.below oa.out.size (fun b e=>by have e:b=gr:=e;have:=m0.out;omega)))).cell 1 (by decide);clear hc;have HK:=oG.out 1 _ _ _ hh.cls ((nN.out _ _).mpr rfl);go_simp;exact HK.out
    ·intro Lq wq xq hh;simp only [mg,(nU.out _ _).mp (hh.v 0)];refine Reg.go rfl ?_;unfold Reg.upon;have hc:l7 Lq wq:=hh.cls;rw [l3.out] at hc;rw [cb rfl rfl [Value.int .i64 0,.int .i64 0,.slice none 0 0,.int .i64 0,.int .i64 0,.bool false,.bool false] rfl (dm hc.1 _ (by decide)) aS (by simp [Value.oneCell'])];refine ⟨?_,by rw [Hrgt8e2.out],by rw [Hrgt8hX.out];trivial⟩;rw [l3.out];have h2:=bw gr 44 [Value.int .i64 0,.int .i64 0,.slice none 0 0,.int .i64 0,.int .i64 0,.bool false,.bool false] [] [Value.int .i64 0,.int .i64 0,.slice none 0 0,.int .i64 0,.int .i64 0,.bool false,.bool false] wq hc.1 (by decide);exact ⟨by simpa using h2,hc.2.trans (Upd.ofBut (aW gr (wq).heap.size wq [Value.int .i64 0,.int .i64 0,.slice none 0 0,.int .i64 0,.int .i64 0,.bool false,.bool false] 0 wq (But.refl _ _ _)))⟩
    ·intro Lq wq xq hh;simp only [mg,(nN.out _ _).mp (hh.v 1)];refine Reg.go rfl ?_;have HK:=oG.out 3 _ _ _ hh.cls ((nP.out _ _).mpr rfl);go_simp;exact HK.out
    intro xq wrgt8 oU hvrgt8;rw [l3.out] at oU;simp only [mg];have vrgt83:=(nP.out _ _).mp (hvrgt8 3 (by decide));rw [vrgt83];clear hvrgt8 mg oG oS oK Hrgt8st Hrgt8c l3 Hrgt8hX Hrgt8b Hrgt8xb nU nN Hrgt8e2 nP;have nI:=oa.out.trans (oU.2.below oa.out.size (fun b e=>by have e:b=gr:=e;have:=m0.out;omega));go_wp2;exact bodyPost_ret (v:=.tuple #[.agg [Value.int .i64 0,.int .i64 0,.slice none 0 0,.int .i64 0,.int .i64 0,.bool false,.bool false].toArray,.iface 186 (.pointer (some (sa 1)))]) (bP Tryd.results21 _ _ gr 44 [Value.int .i64 0,.int .i64 0,.slice none 0 0,.int .i64 0,.int .i64 0,.bool false,.bool false] _ 7 _ rfl rfl oU.1 Tryd.underlying44 rfl aS rfl) rfl ⟨nI,.inr ⟨rfl,qn.out⟩⟩
end Go.Proofs.YtechjomepdahiaaDoor
