import Derived.Test.YtechjomepdahiaaDoorZ0
import Derived.Test.YtechjomepdahiaaDoorWirJ
import Derived.Test.YtechjomepdahiaaDoorWirE
import Derived.Test.YtechjomepdahiaaDoorRgnL
set_option maxRecDepth 100000
set_option linter.unusedVariables false
set_option linter.unusedSimpArgs false
set_option maxHeartbeats 4000000
namespace Go.Proofs.YtechjomepdahiaaDoor
open Go.RowKit Go.ChangeShapes Go.WideShapes
theorem eA{xs ys:List Int}(hx:aL xs)(hy:aL ys):((strOfNums xs).toList == (strOfNums ys).toList)=decide (xs=ys):=by
 rw [Lib.strOfNums_toList,Lib.strOfNums_toList];have key:∀ (xs ys:List Int),aL xs->aL ys->Lib.bytesOf xs=Lib.bytesOf ys->xs=ys:=by
  intro xs
  induction xs with
  |nil =>
   intro ys _ _ h
   cases ys with
   |nil=>rfl
   |cons y ys=>cases h
  |cons x xs ih =>
   intro ys hx hy h
   cases ys with
   |nil=>cases h
   |cons y ys =>
    have h:UInt8.ofNat x.toNat :: Lib.bytesOf xs=UInt8.ofNat y.toNat :: Lib.bytesOf ys:=h
    injection h with h1 h2
    have b1:=hx x (List.mem_cons_self ..);have b2:=hy y (List.mem_cons_self ..);have e:=congrArg UInt8.toNat h1
    simp at e
    have e2:x=y:=by omega
    rw [e2,ih ys (fun z hz=>hx z (List.mem_cons_of_mem _ hz)) (fun z hz=>hy z (List.mem_cons_of_mem _ hz)) h2]
 by_cases h:xs=ys
 ·rw [decide_eq_true h,h];simp
 ·rw [decide_eq_false h,beq_eq_false_iff_ne];exact fun e=>h (key xs ys hx hy e)
theorem gP(v u:Value)(xs ys:List Int)(w:World)(hv:Held .u8 w v xs)(hu:Held .u8 w u ys)(hx:aL xs)(hy:aL ys):Calls Tryd.prog 57 #[v,u] w (fun e w'=>e=.returned (.bool (decide (xs=ys)))/\w=w'):=by
 have h1:=cn (P:=Tryd.prog) hv 46 5 9 Tryd.underlying46 Tryd.underlying5 Tryd.underlying9;have h2:=cn (P:=Tryd.prog) hu 46 5 9 Tryd.underlying46 Tryd.underlying5 Tryd.underlying9;have HS:=aa (eA hx hy);generalize strOfNums xs=s at *;generalize strOfNums ys=t at *;clear hv hu
 go_enter Tryd.func57,Tryd.ntmps57
 go_wp2;go_ret;exact ⟨by rw [HS.out];rfl,rfl⟩
theorem aP{a b:List Int}(ha:aL a)(hb:aL b):aL (a++b):=fun x h=>by
 rcases List.mem_append.1 h with h | h
 ·exact ha x h
 ·exact hb x h
theorem da{α:Type}{f:α->List Int}{l:List α}(h:∀ x ∈ l,aL (f x)):aL (l.flatMap f):=fun x hx=>by
 obtain ⟨y,hy,h2⟩:=List.mem_flatMap.1 hx;exact h y hy x h2
theorem eB(c:Cl):aL (clB c):=by
 unfold clB
 split
 ·exact fun x h=>absurd h List.not_mem_nil
 ·exact aP (bO _) (da fun x _ y hy=>by have:=fD x y hy;omega)
theorem dT:∀ (n:Nat) (l:List Cl),l.length<=n->aL (aD l)
 |n,[],_=>by rw [ci];exact fun x h=>absurd h List.not_mem_nil
 |0,c :: l,h=>absurd h (by simp)
 |n+1,c :: l,h=>by
  rw [cC];exact aP (aP (bO _) (aP (eB c) (da fun d _=>eB d))) (dT n _ (by rw [List.length_drop];simp only [List.length_cons] at h;omega))
theorem dU(v:Vw):aL (bG v):=by
 unfold bG;intro x hx
 rcases List.mem_cons.1 hx with rfl | hx
 ·decide
 ·refine aP (aP (aP (aP (aP (bO _) (bO _)) (bO _)) (bO _)) ?_) ?_ x hx
  ·intro y hy;rw [List.mem_singleton.1 hy];unfold cD
   split <;> split <;> omega
  ·refine da fun l _=>?_
   unfold lnB;intro y hy
   rcases List.mem_cons.1 hy with rfl | hy
   ·split <;> omega
   ·exact dT _ _ (Nat.le_refl _) y hy
theorem bP{ρ:Operand->Value}{o:Oper}{w:World}(ho:o.op=.build 44 #[]):(execOp ρ o).run Tryd.prog w=.ok (.value (.agg #[.int .i64 0,.int .i64 0,.slice none 0 0,.int .i64 0,.int .i64 0,.bool false,.bool false])) w:=by
 unfold execOp
 simp [ho,go_sem]
theorem bJ{P:Program}{fn:Func}{p q:Tmp}{ty:TypeId}(h:fn.results=#[.cell p ty,.tmp q])(tmps:Array Value)(w:World)(g:Nat)(t:TypeId)(C:List Value)(d:TypeDesc)(n:Nat)(u:Value)
  (hp:tmps.getD p undef=.pointer (some ⟨g,0,none⟩)) (hq:tmps.getD q undef=u) (hg:Has w g C t)
  (hu:P.underlying ty=some d) (hd:(match d with | .struct _ | .array _ _=>true | _=>false)=true)
  (hi:(P.info? ty).map (·.size)=some n) (hn:C.length=n) :
  (results fn tmps).run P w=.ok (.tuple #[.agg C.toArray,u]) w:=by
 rw [results_cell_tmp h,hp,hq]
 simp [asAddr,run_loadVar_row w g t ty C.toArray (0,0) d hg hu hd (by rw [hi];simp [hn]),Result.andThen]
def zv:Vw:=⟨0,0,[],0,0,false,false⟩
def jW(sa:Nat->Addr)(xs:List Int)(w:World)(e:Ending)(w':World):Prop:=Below w.heap.size w w'/\((∃ V u,e=.returned (.tuple #[bb V u,.nilIface])/\HeldE lineE (fun b=>w.heap.size<=b) w' u V.L/\aI V=true/\bG V=xs)\/(e=.returned (.tuple #[bb zv (.slice none 0 0),.iface 186 (.pointer (some (sa 1)))])/\∀ V,bQ xs=(V,[],false)->aI V=true->bG V≠xs))
theorem iz(sa:Nat->Addr)(v:Value)(xs:List Int)(w:World)(hs:Five w sa)(hv:HeldE (bh .u8) (fun b=>b<w.heap.size) w v xs)(hx:aL xs)(hl:xs.length<=1000000):Calls Tryd.prog 21 #[v] w (jW sa xs w):=by
 obtain ⟨ao,cap,ev⟩:=hv.len;subst ev;obtain ⟨N,hN⟩:=ab (xs.length);rw [<-hN] at hv hl ⊢;have lf:=aa hN;have HV:=aa hv;have oo:=aa hs;have HX:=aa hx;obtain ⟨W1,hW1⟩:=ab (w.alloc (.cells [Value.int .i64 0,.int .i64 0,.slice none 0 0,.int .i64 0,.int .i64 0,.bool false,.bool false].toArray 44));have b1:Below w.heap.size w W1:=by rw [hW1];exact j0 _ _
 have j2:Has W1 w.heap.size [Value.int .i64 0,.int .i64 0,.slice none 0 0,.int .i64 0,.int .i64 0,.bool false,.bool false] 44:=by rw [hW1];exact Has.new w _ _
 have s1:W1.heap.size=w.heap.size+1:=by rw [hW1];exact Array.size_push _
 obtain ⟨W2,hW2⟩:=ab (W1.alloc (.cells [Value.slice ao N cap,.bool false].toArray 104));have b2:Below W1.heap.size W1 W2:=by rw [hW2];exact j0 _ _
 have lW:Has W2 W1.heap.size [Value.slice ao N cap,.bool false] 104:=by rw [hW2];exact Has.new W1 _ _
 have kQ:=aa hW1.symm;have pJ:=aa hW2.symm;obtain ⟨gr,hgr⟩:=ab (w.heap.size);obtain ⟨g,hg⟩:=ab (W1.heap.size);have sJ:w.heap.size+1=g:=by omega
 have hgg:gr<g:=by omega
 rw [<-hgr] at j2;rw [<-hg] at lW;have no:=aa hgr;have pH:=aa sJ;have j2:=j2.below b2 j2.lt;have kP:=aa (b1.trans (b2.mono (by omega)));have oa:=aa (And.intro j2 lW);clear hW1 hW2 b1 b2 j2 lW s1 hgr hg sJ hv hs hx hN;obtain ⟨V,ys,bd,uT⟩ : ∃ a b c,bQ xs=(a,b,c):=⟨_,_,_,rfl⟩;have pG:=aa uT;have rt:=aa (show Calls Tryd.prog 55 #[.pointer (some ⟨g,0,none⟩)] W2 (fun e w'=>∃ vl,e=.returned (.agg #[.int .i64 V.w,.int .i64 V.h,vl,.int .i64 V.r,.int .i64 V.c,.bool V.pd,.bool V.au])/\HeldE lineE (fun b=>W2.heap.size<=b) w' vl V.L/\RdAt w.heap.size w' g ys bd/\Upd (fun b=>b=g) W2 w'/\0<=V.w/\V.w<2097152/\0<=V.h/\V.h<2097152) from by
  have:=gQ w.heap.size g xs W2 ⟨by have:=pH.out;omega,HX.out,.slice ao N cap,oa.out.2,HV.out.below kP.out⟩ (by rw [<-lf.out];exact hl);rw [uT] at this;exact this)
 clear uT
 go_enter Tryd.func21,Tryd.ntmps21
 go_upto_region 2 with (fail)
 rw [kQ.out,pJ.out,pH.out,<-no.out];refine' _
 go_wp2_with fail
 refine rt.out.mono ?_;rintro e w3 ⟨vl,rfl,hL3,hr3,m5,lQ,hv2,hv3,hv4⟩;obtain ⟨a1,c1,ev1⟩:=hL3.len;subst ev1;obtain ⟨nl,ky⟩:=ab (V.L.length);rw [<-ky] at hL3 ⊢;have pu:=aa ky;have hgx:g<W2.heap.size:=oa.out.2.lt;have me:=aa (show Below w.heap.size w w3 from kP.out.trans (m5.below (by have:=pH.out;omega) (fun b e=>by have e:b=g:=e;have:=pH.out;omega)));have us:=m5.keep.has oa.out.1 (fun e=>by omega);obtain ⟨W4,oK⟩:=ab (w3.alloc (.cells [Value.int .i64 V.w,.int .i64 V.h,.slice a1 nl c1,.int .i64 V.r,.int .i64 V.c,.bool V.pd,.bool V.au].toArray 44));have b4:Below w3.heap.size w3 W4:=by rw [oK];exact j0 _ _
 obtain ⟨gv,lL⟩:=ab (w3.heap.size);have mh:Has W4 gv [Value.int .i64 V.w,.int .i64 V.h,.slice a1 nl c1,.int .i64 V.r,.int .i64 V.c,.bool V.pd,.bool V.au] 44:=by rw [oK,lL];exact Has.new w3 _ _
 have hg3:W2.heap.size<=gv:=by have:=m5.size;omega
 have lV:=aa (And.intro (us.below b4 us.lt) mh);have kD:=aa (me.out.trans (b4.mono me.out.size));have rW:=aa (hL3.below b4);have lS:=aa (jh w.heap.size g ys bd W4 (hr3.below b4));have rK:=aa oK.symm;have nK:=aa lL.symm;have hg0:w.heap.size=gr:=no.out.symm;have lH:=aa hg0;have h02:w.heap.size<W2.heap.size:=by omega
 obtain ⟨okv,kF⟩:=ab ((!bd && decide (ys.length=0)));rw [<-kF] at lS;have qM:=aa kF;have dl:decide ((16777216:Int)<(N:Int))=false:=ah (by omega);have dn:¬ (16777216:Int)<(N:Int):=by omega
 clear ky kF lL mh b4 hL3 hr3 m5 me rt us kQ pJ pH oa kP oK hg0
 go_upto_region 3 with (fail)
 rw [rK.out,nK.out]
 go_wp2_with fail
 refine lS.out.mono ?_;rintro e w5 ⟨rfl,rfl⟩;clear lS rK nK
 cases okv with
 |false =>
  have pa:=aa (show ∀ V',bQ xs=(V',[],false)->aI V'=true->bG V'≠xs from fun V' e _ _=>by
   rw [pG.out] at e
   cases e
   have:=qM.out;exact absurd this (by decide))
  have mj:=kD;have pL:=aa lV.out.1;obtain ⟨wt,hwt⟩:=ab (W4);rw [<-hwt] at mj pL ⊢;clear hwt lV kD rW qM
  go_upto_region 9 with (fail)
  obtain ⟨ks,lp⟩ : ∃ CC:Array Bool->World->Prop,CC=fun _ w'=>Has w' gr [Value.int .i64 0,.int .i64 0,.slice none 0 0,.int .i64 0,.int .i64 0,.bool false,.bool false] 44/\Upd (fun b=>b=gr) wt w':=⟨_,rfl⟩
  obtain ⟨Xrgt4,hXrgt4,mI,Hrgt4xb⟩:=Reg.xT;obtain ⟨Ergt4,Hrgt4st,l6,l4,Hrgt4e2,mb⟩:=Reg.e4 Xrgt4
   (fun xx _=>xx=.agg #[.int .i64 0,.int .i64 0,.slice none 0 0,.int .i64 0,.int .i64 0,.bool false,.bool false])
   (fun xx _=>xx=.iface 186 (.pointer (some (sa 1))))
   (fun xx _=>xx=undef)
   (fun xx _=>xx=.iface 186 (.pointer (some (sa 1))))
  have mN:Hid (∀ i L w, ks L w->ks (L.setIfInBounds i true) w):=aa (by
   intro i L w h;rw [lp] at h ⊢;exact h)
  have Hrgt4b:Hid (∀ L w w1,ks L w->Below w.heap.size w w1->ks L w1):=aa (by
   intro L w w1 h hb;rw [lp] at h ⊢
   (obtain ⟨q1,q2⟩:=h;exact ⟨q1.below hb q1.lt,q2.trans (.ofBelow hb)⟩))
  have Hrgt4c:=aa (show ks (Array.replicate 4 false) wt.drew from by rw [lp];exact ⟨pL.out.drewN 1,(Upd.refl _ _).drew⟩);have mL:=aa (fun (i:Nat) L w v (h:ks L w) (e:Ergt4 i v w)=>Reg.hk (mN.out i L w h) e (mI.out w));have kp:=aa lp;have Hrgt4hX:=aa hXrgt4;clear lp hXrgt4
  go_wp2_with fail
  refine Reg.regionF Ergt4 ks Xrgt4 Hrgt4st.out (by kernel_rfl) (by kernel_rfl) (by kernel_rfl) Hrgt4c.out (fun Frgt4 kC=>?_);simp only [Reg.frame,Reg.dsts,List.map_cons,List.map_nil,Mix.put_lit,Reg.put_none,List.set_cons_succ,List.set_cons_zero,Nat.zero_add,Nat.reduceAdd] at kC;refine ⟨⟨?_,?_,?_,?_,trivial⟩,?_⟩
  ·intro Lq wq xq hh;simp only [kC];refine Reg.go rfl ?_;unfold Reg.upon;have hc:ks Lq wq:=hh.cls;rw [kp.out] at hc;rw [bP rfl];exact ⟨mN.out 0 Lq wq  hh.cls,(by rw [l6.out];try rfl),mI.out _⟩
  ·intro Lq wq xq hh;simp only [kC];refine Reg.go rfl ?_;have hc:ks Lq wq:=hh.cls;rw [kp.out] at hc;have q0:(wq).cell? ⟨2,0,none⟩=some (.iface 186 (.pointer (some (sa 1)))):=(oo.out.below (mj.out.trans (hc.2.below mj.out.size (fun b e=>by have e:b=gr:=e;have:=lH.out;omega)))).cell 1 (by decide);clear hc;have HK:=mL.out 1 _ _ _ hh.cls ((l4.out _ _).mpr rfl);go_simp;exact HK.out
  ·intro Lq wq xq hh;simp only [kC,(l6.out _ _).mp (hh.v 0)];refine Reg.go rfl ?_;unfold Reg.upon;have hc:ks Lq wq:=hh.cls;rw [kp.out] at hc;rw [bT rfl rfl [Value.int .i64 0,.int .i64 0,.slice none 0 0,.int .i64 0,.int .i64 0,.bool false,.bool false] rfl (cY hc.1 _ (by decide)) aN (by simp [Value.oneCell'])];refine ⟨?_,by rw [Hrgt4e2.out],by rw [Hrgt4hX.out];trivial⟩;rw [kp.out];have h2:=bj gr 44 [Value.int .i64 0,.int .i64 0,.slice none 0 0,.int .i64 0,.int .i64 0,.bool false,.bool false] [] [Value.int .i64 0,.int .i64 0,.slice none 0 0,.int .i64 0,.int .i64 0,.bool false,.bool false] wq hc.1 (by decide);exact ⟨by simpa using h2,hc.2.trans (Upd.ofBut (aQ gr (wq).heap.size wq [Value.int .i64 0,.int .i64 0,.slice none 0 0,.int .i64 0,.int .i64 0,.bool false,.bool false] 0 wq (But.refl _ _ _)))⟩
  ·intro Lq wq xq hh;simp only [kC,(l4.out _ _).mp (hh.v 1)];refine Reg.go rfl ?_;have HK:=mL.out 3 _ _ _ hh.cls ((mb.out _ _).mpr rfl);go_simp;exact HK.out
  intro xq wrgt4 mU hvrgt4;rw [kp.out] at mU;simp only [kC];have vrgt43:=(mb.out _ _).mp (hvrgt4 3 (by decide));rw [vrgt43];clear hvrgt4 kC mL mN mI Hrgt4st Hrgt4c kp Hrgt4hX Hrgt4b Hrgt4xb l6 l4 Hrgt4e2 mb;have l7:=mj.out.trans (mU.2.below mj.out.size (fun b e=>by have e:b=gr:=e;have:=lH.out;omega));go_wp2;exact bodyPost_ret (v:=.tuple #[.agg [Value.int .i64 0,.int .i64 0,.slice none 0 0,.int .i64 0,.int .i64 0,.bool false,.bool false].toArray,.iface 186 (.pointer (some (sa 1)))]) (bJ Tryd.results21 _ _ gr 44 [Value.int .i64 0,.int .i64 0,.slice none 0 0,.int .i64 0,.int .i64 0,.bool false,.bool false] _ 7 _ rfl rfl mU.1 Tryd.underlying44 rfl aN rfl) rfl ⟨l7,.inr ⟨rfl,pa.out⟩⟩
 |true =>
  have hoe:bd=false/\ys=[]:=by
   have:=qM.out.symm;rw [Bool.and_eq_true,decide_eq_true_eq] at this;exact ⟨by cases bd;rfl;exact absurd this.1 (by decide),List.eq_nil_of_length_eq_zero this.2⟩
  obtain ⟨rfl,rfl⟩:=hoe;have nX:ViewAt W4 V (.slice a1 nl c1):=⟨rW.out.zone (fun _ _ _=>trivial),by omega,by omega,by omega,by omega⟩
  cases hrt:aI V with
  |false =>
   have r7:=aa (show Calls Tryd.prog 18 #[.agg #[.int .i64 V.w,.int .i64 V.h,.slice a1 nl c1,.int .i64 V.r,.int .i64 V.c,.bool V.pd,.bool V.au]] W4 (Gives W4 (.tuple #[.slice none 0 0,.iface 186 (.pointer (some (sa 4)))])) from iD sa V (.slice a1 nl c1) W4 (oo.out.below kD.out) nX hrt);have pa:=aa (show ∀ V',bQ xs=(V',[],false)->aI V'=true->bG V'≠xs from fun V' e h _=>by
    rw [pG.out] at e
    cases e
    rw [hrt] at h
    cases h)
   clear hrt nX qM rW;have oY:=lV.out.2
   go_upto_region 4 with (fail)
   go_wp2_with (refine aV rfl 44 (.tmp 5) rfl gv rfl 44 _ _ 7 oY Tryd.underlying44 rfl aN rfl ?_)
   refine r7.out.mono ?_;rintro e wt ⟨rfl,bt⟩;have mj:=aa (kD.out.trans (bt.mono kD.out.size));have pL:=aa (lV.out.1.below bt lV.out.1.lt);clear oY lV kD r7 bt
   go_upto_region 9 with (fail)
   obtain ⟨kx,lw⟩ : ∃ CC:Array Bool->World->Prop,CC=fun _ w'=>Has w' gr [Value.int .i64 0,.int .i64 0,.slice none 0 0,.int .i64 0,.int .i64 0,.bool false,.bool false] 44/\Upd (fun b=>b=gr) wt w':=⟨_,rfl⟩
   obtain ⟨Xrgt6,hXrgt6,mV,Hrgt6xb⟩:=Reg.xT;obtain ⟨Ergt6,Hrgt6st,mg,l5,Hrgt6e2,l9⟩:=Reg.e4 Xrgt6
    (fun xx _=>xx=.agg #[.int .i64 0,.int .i64 0,.slice none 0 0,.int .i64 0,.int .i64 0,.bool false,.bool false])
    (fun xx _=>xx=.iface 186 (.pointer (some (sa 1))))
    (fun xx _=>xx=undef)
    (fun xx _=>xx=.iface 186 (.pointer (some (sa 1))))
   have mP:Hid (∀ i L w, kx L w->kx (L.setIfInBounds i true) w):=aa (by
    intro i L w h;rw [lw] at h ⊢;exact h)
   have Hrgt6b:Hid (∀ L w w1,kx L w->Below w.heap.size w w1->kx L w1):=aa (by
    intro L w w1 h hb;rw [lw] at h ⊢
    (obtain ⟨q1,q2⟩:=h;exact ⟨q1.below hb q1.lt,q2.trans (.ofBelow hb)⟩))
   have Hrgt6c:=aa (show kx (Array.replicate 4 false) wt.drew from by rw [lw];exact ⟨pL.out.drewN 1,(Upd.refl _ _).drew⟩);have mH:=aa (fun (i:Nat) L w v (h:kx L w) (e:Ergt6 i v w)=>Reg.hk (mP.out i L w h) e (mV.out w));have ko:=aa lw;have Hrgt6hX:=aa hXrgt6;clear lw hXrgt6
   go_wp2_with fail
   refine Reg.regionF Ergt6 kx Xrgt6 Hrgt6st.out (by kernel_rfl) (by kernel_rfl) (by kernel_rfl) Hrgt6c.out (fun Frgt6 kA=>?_);simp only [Reg.frame,Reg.dsts,List.map_cons,List.map_nil,Mix.put_lit,Reg.put_none,List.set_cons_succ,List.set_cons_zero,Nat.zero_add,Nat.reduceAdd] at kA;refine ⟨⟨?_,?_,?_,?_,trivial⟩,?_⟩
   ·intro Lq wq xq hh;simp only [kA];refine Reg.go rfl ?_;unfold Reg.upon;have hc:kx Lq wq:=hh.cls;rw [ko.out] at hc;rw [bP rfl];exact ⟨mP.out 0 Lq wq  hh.cls,(by rw [mg.out];try rfl),mV.out _⟩
   ·intro Lq wq xq hh;simp only [kA];refine Reg.go rfl ?_;have hc:kx Lq wq:=hh.cls;rw [ko.out] at hc;have q0:(wq).cell? ⟨2,0,none⟩=some (.iface 186 (.pointer (some (sa 1)))):=(oo.out.below (mj.out.trans (hc.2.below mj.out.size (fun b e=>by have e:b=gr:=e;have:=lH.out;omega)))).cell 1 (by decide);clear hc;have HK:=mH.out 1 _ _ _ hh.cls ((l5.out _ _).mpr rfl);go_simp;exact HK.out
   ·intro Lq wq xq hh;simp only [kA,(mg.out _ _).mp (hh.v 0)];refine Reg.go rfl ?_;unfold Reg.upon;have hc:kx Lq wq:=hh.cls;rw [ko.out] at hc;rw [bT rfl rfl [Value.int .i64 0,.int .i64 0,.slice none 0 0,.int .i64 0,.int .i64 0,.bool false,.bool false] rfl (cY hc.1 _ (by decide)) aN (by simp [Value.oneCell'])];refine ⟨?_,by rw [Hrgt6e2.out],by rw [Hrgt6hX.out];trivial⟩;rw [ko.out];have h2:=bj gr 44 [Value.int .i64 0,.int .i64 0,.slice none 0 0,.int .i64 0,.int .i64 0,.bool false,.bool false] [] [Value.int .i64 0,.int .i64 0,.slice none 0 0,.int .i64 0,.int .i64 0,.bool false,.bool false] wq hc.1 (by decide);exact ⟨by simpa using h2,hc.2.trans (Upd.ofBut (aQ gr (wq).heap.size wq [Value.int .i64 0,.int .i64 0,.slice none 0 0,.int .i64 0,.int .i64 0,.bool false,.bool false] 0 wq (But.refl _ _ _)))⟩
   ·intro Lq wq xq hh;simp only [kA,(l5.out _ _).mp (hh.v 1)];refine Reg.go rfl ?_;have HK:=mH.out 3 _ _ _ hh.cls ((l9.out _ _).mpr rfl);go_simp;exact HK.out
   intro xq wrgt6 mJ hvrgt6;rw [ko.out] at mJ;simp only [kA];have vrgt63:=(l9.out _ _).mp (hvrgt6 3 (by decide));rw [vrgt63];clear hvrgt6 kA mH mP mV Hrgt6st Hrgt6c ko Hrgt6hX Hrgt6b Hrgt6xb mg l5 Hrgt6e2 l9;have l7:=mj.out.trans (mJ.2.below mj.out.size (fun b e=>by have e:b=gr:=e;have:=lH.out;omega));go_wp2;exact bodyPost_ret (v:=.tuple #[.agg [Value.int .i64 0,.int .i64 0,.slice none 0 0,.int .i64 0,.int .i64 0,.bool false,.bool false].toArray,.iface 186 (.pointer (some (sa 1)))]) (bJ Tryd.results21 _ _ gr 44 [Value.int .i64 0,.int .i64 0,.slice none 0 0,.int .i64 0,.int .i64 0,.bool false,.bool false] _ 7 _ rfl rfl mJ.1 Tryd.underlying44 rfl aN rfl) rfl ⟨l7,.inr ⟨rfl,pa.out⟩⟩
  |true =>
   have r7:=aa (show Calls Tryd.prog 18 #[.agg #[.int .i64 V.w,.int .i64 V.h,.slice a1 nl c1,.int .i64 V.r,.int .i64 V.c,.bool V.pd,.bool V.au]] W4 (fun e w'=>∃ u,e=.returned (.tuple #[u,.nilIface])/\BOwn w' W4.heap.size u (bG V)/\Below W4.heap.size W4 w') from dW sa V (.slice a1 nl c1) W4 (oo.out.below kD.out) nX hrt);have r9:=aa hrt;clear nX qM hrt;have oY:=lV.out.2
   go_upto_region 4 with (fail)
   go_wp2_with (refine aV rfl 44 (.tmp 5) rfl gv rfl 44 _ _ 7 oY Tryd.underlying44 rfl aN rfl ?_)
   refine r7.out.mono ?_;rintro e wt ⟨u,rfl,ho,bt⟩;have mj:=aa (kD.out.trans (bt.mono kD.out.size));have pL:=aa (lV.out.1.below bt lV.out.1.lt);have HAv:=aa (lV.out.2.below bt lV.out.2.lt);have HLt:=aa (rW.out.below bt);have pe:=(OwnE.held (Z:=fun _=>True) (OwnE.zone ho (Y:=fun _=>True) (fun _ _ _=>trivial)) (fun _ _ _=>trivial)).ints;have sZ:=aa (gP u (.slice ao N cap) (bG V) xs wt pe (HV.out.below mj.out).ints (dU V) HX.out);obtain ⟨eqv,qg⟩:=ab (decide (bG V=xs));rw [<-qg] at sZ;have ug:=aa qg;obtain ⟨a5,c5,ev5⟩:=(OwnE.held (Z:=fun _=>True) (OwnE.zone ho (Y:=fun _=>True) (fun _ _ _=>trivial)) (fun _ _ _=>trivial)).len;subst ev5;obtain ⟨n5,hn5⟩:=ab ((bG V).length);rw [<-hn5] at sZ ⊢;clear oY lV kD r7 bt ho pe qg hn5 rW
   go_wp2_with fail
   refine sZ.out.mono ?_;rintro e w7 ⟨rfl,rfl⟩;clear sZ
   cases eqv with
   |true =>
    have hav:=HAv.out;have hat:=pL.out
    go_upto_region 6 with (fail)
    go_wp2_with (first | (refine aV rfl 44 (.tmp 5) rfl gv rfl 44 _ _ 7 hav Tryd.underlying44 rfl aN rfl ?_) | (refine ct rfl 44 (.tmp 2) (.tmp 24) rfl gr rfl 44 [Value.int .i64 0,.int .i64 0,.slice none 0 0,.int .i64 0,.int .i64 0,.bool false,.bool false] [Value.int .i64 V.w,.int .i64 V.h,.slice a1 nl c1,.int .i64 V.r,.int .i64 V.c,.bool V.pd,.bool V.au] 7 rfl hat aN rfl rfl (by simp [Value.oneCell']) ?_;intro wz hz oF))
    have oF:Upd (fun b=>b=gr) wt wz:=Upd.ofBut oF;have l7:=mj.out.trans (oF.below mj.out.size (fun b e=>by have e:b=gr:=e;have:=lH.out;omega));have hlz:=(HLt.out.upd oF (fun b hb e=>by have e:b=gr:=e;have hb:W2.heap.size<=b:=hb;omega)).zone (Y:=fun b=>w.heap.size<=b) (fun b _ h=>by have h:W2.heap.size<=b:=h;omega);have sW:bG V=xs:=of_decide_eq_true ug.out.symm;exact bodyPost_ret (v:=.tuple #[.agg [Value.int .i64 V.w,.int .i64 V.h,.slice a1 nl c1,.int .i64 V.r,.int .i64 V.c,.bool V.pd,.bool V.au].toArray,.nilIface]) (bJ Tryd.results21 _ _ gr 44 [Value.int .i64 V.w,.int .i64 V.h,.slice a1 nl c1,.int .i64 V.r,.int .i64 V.c,.bool V.pd,.bool V.au] _ 7 _ rfl rfl hz Tryd.underlying44 rfl aN rfl) rfl ⟨l7,.inl ⟨V,.slice a1 nl c1,rfl,hlz,r9.out,sW⟩⟩
   |false =>
    have pa:=aa (show ∀ V',bQ xs=(V',[],false)->aI V'=true->bG V'≠xs from fun V' e h e2=>by
     rw [pG.out] at e
     cases e
     have:=ug.out;rw [decide_eq_true e2] at this
     cases this)
    clear HAv HLt ug
    go_upto_region 9 with (fail)
    obtain ⟨kt,lz⟩ : ∃ CC:Array Bool->World->Prop,CC=fun _ w'=>Has w' gr [Value.int .i64 0,.int .i64 0,.slice none 0 0,.int .i64 0,.int .i64 0,.bool false,.bool false] 44/\Upd (fun b=>b=gr) wt w':=⟨_,rfl⟩
    obtain ⟨Xrgt8,hXrgt8,mM,Hrgt8xb⟩:=Reg.xT;obtain ⟨Ergt8,Hrgt8st,l3,l8,Hrgt8e2,ma⟩:=Reg.e4 Xrgt8
     (fun xx _=>xx=.agg #[.int .i64 0,.int .i64 0,.slice none 0 0,.int .i64 0,.int .i64 0,.bool false,.bool false])
     (fun xx _=>xx=.iface 186 (.pointer (some (sa 1))))
     (fun xx _=>xx=undef)
     (fun xx _=>xx=.iface 186 (.pointer (some (sa 1))))
    have mY:Hid (∀ i L w, kt L w->kt (L.setIfInBounds i true) w):=aa (by
     intro i L w h;rw [lz] at h ⊢;exact h)
    have Hrgt8b:Hid (∀ L w w1,kt L w->Below w.heap.size w w1->kt L w1):=aa (by
     intro L w w1 h hb;rw [lz] at h ⊢
     (obtain ⟨q1,q2⟩:=h;exact ⟨q1.below hb q1.lt,q2.trans (.ofBelow hb)⟩))
    have Hrgt8c:=aa (show kt (Array.replicate 4 false) wt.drew from by rw [lz];exact ⟨pL.out.drewN 1,(Upd.refl _ _).drew⟩);have mT:=aa (fun (i:Nat) L w v (h:kt L w) (e:Ergt8 i v w)=>Reg.hk (mY.out i L w h) e (mM.out w));have kq:=aa lz;have Hrgt8hX:=aa hXrgt8;clear lz hXrgt8
    go_wp2_with fail
    refine Reg.regionF Ergt8 kt Xrgt8 Hrgt8st.out (by kernel_rfl) (by kernel_rfl) (by kernel_rfl) Hrgt8c.out (fun Frgt8 kB=>?_);simp only [Reg.frame,Reg.dsts,List.map_cons,List.map_nil,Mix.put_lit,Reg.put_none,List.set_cons_succ,List.set_cons_zero,Nat.zero_add,Nat.reduceAdd] at kB;refine ⟨⟨?_,?_,?_,?_,trivial⟩,?_⟩
    ·intro Lq wq xq hh;simp only [kB];refine Reg.go rfl ?_;unfold Reg.upon;have hc:kt Lq wq:=hh.cls;rw [kq.out] at hc;rw [bP rfl];exact ⟨mY.out 0 Lq wq  hh.cls,(by rw [l3.out];try rfl),mM.out _⟩
    ·intro Lq wq xq hh;simp only [kB];refine Reg.go rfl ?_;have hc:kt Lq wq:=hh.cls;rw [kq.out] at hc;have q0:(wq).cell? ⟨2,0,none⟩=some (.iface 186 (.pointer (some (sa 1)))):=(oo.out.below (mj.out.trans (hc.2.below mj.out.size (fun b e=>by have e:b=gr:=e;have:=lH.out;omega)))).cell 1 (by decide);clear hc;have HK:=mT.out 1 _ _ _ hh.cls ((l8.out _ _).mpr rfl);go_simp;exact HK.out
    ·intro Lq wq xq hh;simp only [kB,(l3.out _ _).mp (hh.v 0)];refine Reg.go rfl ?_;unfold Reg.upon;have hc:kt Lq wq:=hh.cls;rw [kq.out] at hc;rw [bT rfl rfl [Value.int .i64 0,.int .i64 0,.slice none 0 0,.int .i64 0,.int .i64 0,.bool false,.bool false] rfl (cY hc.1 _ (by decide)) aN (by simp [Value.oneCell'])];refine ⟨?_,by rw [Hrgt8e2.out],by rw [Hrgt8hX.out];trivial⟩;rw [kq.out];have h2:=bj gr 44 [Value.int .i64 0,.int .i64 0,.slice none 0 0,.int .i64 0,.int .i64 0,.bool false,.bool false] [] [Value.int .i64 0,.int .i64 0,.slice none 0 0,.int .i64 0,.int .i64 0,.bool false,.bool false] wq hc.1 (by decide);exact ⟨by simpa using h2,hc.2.trans (Upd.ofBut (aQ gr (wq).heap.size wq [Value.int .i64 0,.int .i64 0,.slice none 0 0,.int .i64 0,.int .i64 0,.bool false,.bool false] 0 wq (But.refl _ _ _)))⟩
    ·intro Lq wq xq hh;simp only [kB,(l8.out _ _).mp (hh.v 1)];refine Reg.go rfl ?_;have HK:=mT.out 3 _ _ _ hh.cls ((ma.out _ _).mpr rfl);go_simp;exact HK.out
    intro xq wrgt8 mQ hvrgt8;rw [kq.out] at mQ;simp only [kB];have vrgt83:=(ma.out _ _).mp (hvrgt8 3 (by decide));rw [vrgt83];clear hvrgt8 kB mT mY mM Hrgt8st Hrgt8c kq Hrgt8hX Hrgt8b Hrgt8xb l3 l8 Hrgt8e2 ma;have l7:=mj.out.trans (mQ.2.below mj.out.size (fun b e=>by have e:b=gr:=e;have:=lH.out;omega));go_wp2;exact bodyPost_ret (v:=.tuple #[.agg [Value.int .i64 0,.int .i64 0,.slice none 0 0,.int .i64 0,.int .i64 0,.bool false,.bool false].toArray,.iface 186 (.pointer (some (sa 1)))]) (bJ Tryd.results21 _ _ gr 44 [Value.int .i64 0,.int .i64 0,.slice none 0 0,.int .i64 0,.int .i64 0,.bool false,.bool false] _ 7 _ rfl rfl mQ.1 Tryd.underlying44 rfl aN rfl) rfl ⟨l7,.inr ⟨rfl,pa.out⟩⟩
end Go.Proofs.YtechjomepdahiaaDoor
