import Derived.Test.YtechjomepdahiaaDoorZ0
import Derived.Test.YtechjomepdahiaaDoorWirJ
import Derived.Test.YtechjomepdahiaaDoorWirE
import Derived.Test.YtechjomepdahiaaDoorRgnL
set_option maxRecDepth 100000
set_option linter.unusedVariables false
set_option linter.unusedSimpArgs false
set_option maxHeartbeats 4000000
namespace Go.Proofs.YtechjomepdahiaaDoor
open Go.RowKit Go.ChangeShapes Go.WideShapes
theorem fr{xs ys:List Int}(hx:aR xs)(hy:aR ys):((strOfNums xs).toList == (strOfNums ys).toList)=decide (xs=ys):=by
 rw [Lib.strOfNums_toList,Lib.strOfNums_toList];have key:∀ (xs ys:List Int),aR xs->aR ys->Lib.bytesOf xs=Lib.bytesOf ys->xs=ys:=by
  intro xs
  induction xs with
  |nil =>
   intro ys _ _ h
   cases ys with
   |nil=>rfl
   |cons y ys=>cases h
  |cons x xs ih =>
   intro ys hx hy h
   cases ys with
   |nil=>cases h
   |cons y ys =>
    have h:UInt8.ofNat x.toNat :: Lib.bytesOf xs=UInt8.ofNat y.toNat :: Lib.bytesOf ys:=h
    injection h with h1 h2
    have b1:=hx x (List.mem_cons_self ..);have b2:=hy y (List.mem_cons_self ..);have e:=congrArg UInt8.toNat h1
    simp at e
    have e2:x=y:=by omega
    rw [e2,ih ys (fun z hz=>hx z (List.mem_cons_of_mem _ hz)) (fun z hz=>hy z (List.mem_cons_of_mem _ hz)) h2]
 by_cases h:xs=ys
 ·rw [decide_eq_true h,h];simp
 ·rw [decide_eq_false h,beq_eq_false_iff_ne];exact fun e=>h (key xs ys hx hy e)
theorem jp(v u:Value)(xs ys:List Int)(w:World)(hv:Held .u8 w v xs)(hu:Held .u8 w u ys)(hx:aR xs)(hy:aR ys):Calls Tryd.prog 57 #[v,u] w (fun e w'=>e=.returned (.bool (decide (xs=ys)))/\w=w'):=by
 have h1:=cC (P:=Tryd.prog) hv 46 5 9 Tryd.underlying46 Tryd.underlying5 Tryd.underlying9;have h2:=cC (P:=Tryd.prog) hu 46 5 9 Tryd.underlying46 Tryd.underlying5 Tryd.underlying9;have HS:=aa (fr hx hy);generalize strOfNums xs=s at *;generalize strOfNums ys=t at *;clear hv hu
 go_enter Tryd.func57,Tryd.ntmps57
 go_wp2;go_ret;exact ⟨by rw [HS.out];rfl,rfl⟩
theorem aX{a b:List Int}(ha:aR a)(hb:aR b):aR (a++b):=fun x h=>by
 rcases List.mem_append.1 h with h | h
 ·exact ha x h
 ·exact hb x h
theorem dz{α:Type}{f:α->List Int}{l:List α}(h:∀ x ∈ l,aR (f x)):aR (l.flatMap f):=fun x hx=>by
 obtain ⟨y,hy,h2⟩:=List.mem_flatMap.1 hx;exact h y hy x h2
theorem fs(c:Cl):aR (clB c):=by
 unfold clB
 split
 ·exact fun x h=>absurd h List.not_mem_nil
 ·exact aX (bX _) (dz fun x _ y hy=>by have:=gV x y hy;omega)
theorem eF:∀ (n:Nat) (l:List Cl),l.length<=n->aR (aF l)
 |n,[],_=>by rw [bG];exact fun x h=>absurd h List.not_mem_nil
 |0,c :: l,h=>absurd h (by simp)
 |n+1,c :: l,h=>by
  rw [b8];exact aX (aX (bX _) (aX (fs c) (dz fun d _=>fs d))) (eF n _ (by rw [List.length_drop];simp only [List.length_cons] at h;omega))
theorem cM(v:Vw):aR (aS v):=by
 unfold aS;intro x hx
 rcases List.mem_cons.1 hx with rfl | hx
 ·decide
 ·refine aX (aX (aX (aX (aX (bX _) (bX _)) (bX _)) (bX _)) ?_) ?_ x hx
  ·intro y hy;rw [List.mem_singleton.1 hy];unfold bQ
   split <;> split <;> omega
  ·refine dz fun l _=>?_
   unfold lnB;intro y hy
   rcases List.mem_cons.1 hy with rfl | hy
   ·split <;> omega
   ·exact eF _ _ (Nat.le_refl _) y hy
theorem bZ{ρ:Operand->Value}{o:Oper}{w:World}(ho:o.op=.build 44 #[]):(execOp ρ o).run Tryd.prog w=.ok (.value (.agg #[.int .i64 0,.int .i64 0,.slice none 0 0,.int .i64 0,.int .i64 0,.bool false,.bool false])) w:=by
 unfold execOp
 simp [ho,go_sem]
theorem bS{P:Program}{fn:Func}{p q:Tmp}{ty:TypeId}(h:fn.results=#[.cell p ty,.tmp q])(tmps:Array Value)(w:World)(g:Nat)(t:TypeId)(C:List Value)(d:TypeDesc)(n:Nat)(u:Value)
  (hp:tmps.getD p undef=.pointer (some ⟨g,0,none⟩)) (hq:tmps.getD q undef=u) (hg:Has w g C t)
  (hu:P.underlying ty=some d) (hd:(match d with | .struct _ | .array _ _=>true | _=>false)=true)
  (hi:(P.info? ty).map (·.size)=some n) (hn:C.length=n) :
  (results fn tmps).run P w=.ok (.tuple #[.agg C.toArray,u]) w:=by
 rw [results_cell_tmp h,hp,hq]
 simp [asAddr,run_loadVar_row w g t ty C.toArray (0,0) d hg hu hd (by rw [hi];simp [hn]),Result.andThen]
def zv:Vw:=⟨0,0,[],0,0,false,false⟩
def l2(sa:Nat->Addr)(xs:List Int)(w:World)(e:Ending)(w':World):Prop:=Below w.heap.size w w'/\((∃ V u,e=.returned (.tuple #[aZ V u,.nilIface])/\HeldE lineE (fun b=>w.heap.size<=b) w' u V.L/\aH V=true/\aS V=xs)\/(e=.returned (.tuple #[aZ zv (.slice none 0 0),.iface 186 (.pointer (some (sa 1)))])/\∀ V,bC xs=(V,[],false)->aH V=true->aS V≠xs))
theorem j8(sa:Nat->Addr)(v:Value)(xs:List Int)(w:World)(hs:Five w sa)(hv:HeldE (a8 .u8) (fun b=>b<w.heap.size) w v xs)(hx:aR xs)(hl:xs.length<=1000000):Calls Tryd.prog 21 #[v] w (l2 sa xs w):=by
 obtain ⟨ao,cap,ev⟩:=hv.len;subst ev;obtain ⟨N,hN⟩:=ab (xs.length);rw [<-hN] at hv hl ⊢;have nS:=aa hN;have HV:=aa hv;have pK:=aa hs;have HX:=aa hx;obtain ⟨W1,hW1⟩:=ab (w.alloc (.cells [Value.int .i64 0,.int .i64 0,.slice none 0 0,.int .i64 0,.int .i64 0,.bool false,.bool false].toArray 44));have b1:Below w.heap.size w W1:=by rw [hW1];exact l7 _ _
 have l8:Has W1 w.heap.size [Value.int .i64 0,.int .i64 0,.slice none 0 0,.int .i64 0,.int .i64 0,.bool false,.bool false] 44:=by rw [hW1];exact Has.new w _ _
 have s1:W1.heap.size=w.heap.size+1:=by rw [hW1];exact Array.size_push _
 obtain ⟨W2,hW2⟩:=ab (W1.alloc (.cells [Value.slice ao N cap,.bool false].toArray 104));have b2:Below W1.heap.size W1 W2:=by rw [hW2];exact l7 _ _
 have mQ:Has W2 W1.heap.size [Value.slice ao N cap,.bool false] 104:=by rw [hW2];exact Has.new W1 _ _
 have mG:=aa hW1.symm;have rn:=aa hW2.symm;obtain ⟨gr,hgr⟩:=ab (w.heap.size);obtain ⟨g,hg⟩:=ab (W1.heap.size);have rt:w.heap.size+1=g:=by omega
 have hgg:gr<g:=by omega
 rw [<-hgr] at l8;rw [<-hg] at mQ;have oq:=aa hgr;have qd:=aa rt;have l8:=l8.below b2 l8.lt;have mV:=aa (b1.trans (b2.mono (by omega)));have qi:=aa (And.intro l8 mQ);clear hW1 hW2 b1 b2 l8 mQ s1 hgr hg rt hv hs hx hN;obtain ⟨V,ys,bd,ya⟩ : ∃ a b c,bC xs=(a,b,c):=⟨_,_,_,rfl⟩;have rL:=aa ya;have t6:=aa (show Calls Tryd.prog 55 #[.pointer (some ⟨g,0,none⟩)] W2 (fun e w'=>∃ vl,e=.returned (.agg #[.int .i64 V.w,.int .i64 V.h,vl,.int .i64 V.r,.int .i64 V.c,.bool V.pd,.bool V.au])/\HeldE lineE (fun b=>W2.heap.size<=b) w' vl V.L/\RdAt w.heap.size w' g ys bd/\Upd (fun b=>b=g) W2 w'/\0<=V.w/\V.w<2097152/\0<=V.h/\V.h<2097152) from by
  have:=jq w.heap.size g xs W2 ⟨by have:=qd.out;omega,HX.out,.slice ao N cap,qi.out.2,HV.out.below mV.out⟩ (by rw [<-nS.out];exact hl);rw [ya] at this;exact this)
 clear ya
 go_enter Tryd.func21,Tryd.ntmps21
 go_upto_region 2 with (fail)
 rw [mG.out,rn.out,qd.out,<-oq.out];refine' _
 go_wp2_with fail
 refine t6.out.mono ?_;rintro e w3 ⟨vl,rfl,hL3,hr3,o6,m7,hv2,hv3,hv4⟩;obtain ⟨a1,c1,ev1⟩:=hL3.len;subst ev1;obtain ⟨nl,mA⟩:=ab (V.L.length);rw [<-mA] at hL3 ⊢;have rS:=aa mA;have hgx:g<W2.heap.size:=qi.out.2.lt;have m5:=aa (show Below w.heap.size w w3 from mV.out.trans (o6.below (by have:=qd.out;omega) (fun b e=>by have e:b=g:=e;have:=qd.out;omega)));have wV:=o6.keep.has qi.out.1 (fun e=>by omega);obtain ⟨W4,ra⟩:=ab (w3.alloc (.cells [Value.int .i64 V.w,.int .i64 V.h,.slice a1 nl c1,.int .i64 V.r,.int .i64 V.c,.bool V.pd,.bool V.au].toArray 44));have b4:Below w3.heap.size w3 W4:=by rw [ra];exact l7 _ _
 obtain ⟨gv,oa⟩:=ab (w3.heap.size);have rh:Has W4 gv [Value.int .i64 V.w,.int .i64 V.h,.slice a1 nl c1,.int .i64 V.r,.int .i64 V.c,.bool V.pd,.bool V.au] 44:=by rw [ra,oa];exact Has.new w3 _ _
 have hg3:W2.heap.size<=gv:=by have:=o6.size;omega
 have om:=aa (And.intro (wV.below b4 wV.lt) rh);have mu:=aa (m5.out.trans (b4.mono m5.out.size));have uQ:=aa (hL3.below b4);have od:=aa (kX w.heap.size g ys bd W4 (hr3.below b4));have ve:=aa ra.symm;have pI:=aa oa.symm;have hg0:w.heap.size=gr:=oq.out.symm;have nP:=aa hg0;have h02:w.heap.size<W2.heap.size:=by omega
 obtain ⟨okv,mH⟩:=ab ((!bd && decide (ys.length=0)));rw [<-mH] at od;have sR:=aa mH;have dl:decide ((16777216:Int)<(N:Int))=false:=ah (by omega);have dn:¬ (16777216:Int)<(N:Int):=by omega
 clear mA mH oa rh b4 hL3 hr3 o6 m5 t6 wV mG rn qd qi mV ra hg0
 go_upto_region 3 with (fail)
 rw [ve.out,pI.out]
 go_wp2_with fail
 refine od.out.mono ?_;rintro e w5 ⟨rfl,rfl⟩;clear od ve pI
 cases okv with
 |false =>
  have pu:=aa (show ∀ V',bC xs=(V',[],false)->aH V'=true->aS V'≠xs from fun V' e _ _=>by
   rw [rL.out] at e
   cases e
   have:=sR.out;exact absurd this (by decide))
  have oN:=mu;have sE:=aa om.out.1;obtain ⟨wt,hwt⟩:=ab (W4);rw [<-hwt] at oN sE ⊢;clear hwt om mu uQ sR
  go_upto_region 9 with (fail)
  obtain ⟨mI,nF⟩ : ∃ CC:Array Bool->World->Prop,CC=fun _ w'=>Has w' gr [Value.int .i64 0,.int .i64 0,.slice none 0 0,.int .i64 0,.int .i64 0,.bool false,.bool false] 44/\Upd (fun b=>b=gr) wt w':=⟨_,rfl⟩
  obtain ⟨Xrgt4,hXrgt4,pb,Hrgt4xb⟩:=Reg.xT;obtain ⟨Ergt4,Hrgt4st,oF,oE,Hrgt4e2,oz⟩:=Reg.e4 Xrgt4
   (fun xx _=>xx=.agg #[.int .i64 0,.int .i64 0,.slice none 0 0,.int .i64 0,.int .i64 0,.bool false,.bool false])
   (fun xx _=>xx=.iface 186 (.pointer (some (sa 1))))
   (fun xx _=>xx=undef)
   (fun xx _=>xx=.iface 186 (.pointer (some (sa 1))))
  have pj:Hid (∀ i L w, mI L w->mI (L.setIfInBounds i true) w):=aa (by
   intro i L w h;rw [nF] at h ⊢;exact h)
  have Hrgt4b:Hid (∀ L w w1,mI L w->Below w.heap.size w w1->mI L w1):=aa (by
   intro L w w1 h hb;rw [nF] at h ⊢
   (obtain ⟨q1,q2⟩:=h;exact ⟨q1.below hb q1.lt,q2.trans (.ofBelow hb)⟩))
  have Hrgt4c:=aa (show mI (Array.replicate 4 false) wt.drew from by rw [nF];exact ⟨sE.out.drewN 1,(Upd.refl _ _).drew⟩);have pi:=aa (fun (i:Nat) L w v (h:mI L w) (e:Ergt4 i v w)=>Reg.hk (pj.out i L w h) e (pb.out w));have mE:=aa nF;have Hrgt4hX:=aa hXrgt4;clear nF hXrgt4
  go_wp2_with fail
  refine Reg.regionF Ergt4 mI Xrgt4 Hrgt4st.out (by kernel_rfl) (by kernel_rfl) (by kernel_rfl) Hrgt4c.out (fun Frgt4 mN=>?_);simp only [Reg.frame,Reg.dsts,List.map_cons,List.map_nil,Mix.put_lit,Reg.put_none,List.set_cons_succ,List.set_cons_zero,Nat.zero_add,Nat.reduceAdd] at mN;refine ⟨⟨?_,?_,?_,?_,trivial⟩,?_⟩
  ·intro Lq wq xq hh;simp only [mN];refine Reg.go rfl ?_;unfold Reg.upon;have hc:mI Lq wq:=hh.cls;rw [mE.out] at hc;rw [bZ rfl];exact ⟨pj.out 0 Lq wq  hh.cls,(by rw [oF.out];try rfl),pb.out _⟩
  ·intro Lq wq xq hh;simp only [mN];refine Reg.go rfl ?_;have hc:mI Lq wq:=hh.cls;rw [mE.out] at hc;have q0:(wq).cell? ⟨2,0,none⟩=some (.iface 186 (.pointer (some (sa 1)))):=(pK.out.below (oN.out.trans (hc.2.below oN.out.size (fun b e=>by have e:b=gr:=e;have:=nP.out;omega)))).cell 1 (by decide);clear hc;have HK:=pi.out 1 _ _ _ hh.cls ((oE.out _ _).mpr rfl);go_simp;exact HK.out
  ·intro Lq wq xq hh;simp only [mN,(oF.out _ _).mp (hh.v 0)];refine Reg.go rfl ?_;unfold Reg.upon;have hc:mI Lq wq:=hh.cls;rw [mE.out] at hc;rw [cf rfl rfl [Value.int .i64 0,.int .i64 0,.slice none 0 0,.int .i64 0,.int .i64 0,.bool false,.bool false] rfl (dt hc.1 _ (by decide)) aU (by simp [Value.oneCell'])];refine ⟨?_,by rw [Hrgt4e2.out],by rw [Hrgt4hX.out];trivial⟩;rw [mE.out];have h2:=bz gr 44 [Value.int .i64 0,.int .i64 0,.slice none 0 0,.int .i64 0,.int .i64 0,.bool false,.bool false] [] [Value.int .i64 0,.int .i64 0,.slice none 0 0,.int .i64 0,.int .i64 0,.bool false,.bool false] wq hc.1 (by decide);exact ⟨by simpa using h2,hc.2.trans (Upd.ofBut (aY gr (wq).heap.size wq [Value.int .i64 0,.int .i64 0,.slice none 0 0,.int .i64 0,.int .i64 0,.bool false,.bool false] 0 wq (But.refl _ _ _)))⟩
  ·intro Lq wq xq hh;simp only [mN,(oE.out _ _).mp (hh.v 1)];refine Reg.go rfl ?_;have HK:=pi.out 3 _ _ _ hh.cls ((oz.out _ _).mpr rfl);go_simp;exact HK.out
  intro xq wrgt4 pt hvrgt4;rw [mE.out] at pt;simp only [mN];have vrgt43:=(oz.out _ _).mp (hvrgt4 3 (by decide));rw [vrgt43];clear hvrgt4 mN pi pj pb Hrgt4st Hrgt4c mE Hrgt4hX Hrgt4b Hrgt4xb oF oE Hrgt4e2 oz;have oB:=oN.out.trans (pt.2.below oN.out.size (fun b e=>by have e:b=gr:=e;have:=nP.out;omega));go_wp2;exact bodyPost_ret (v:=.tuple #[.agg [Value.int .i64 0,.int .i64 0,.slice none 0 0,.int .i64 0,.int .i64 0,.bool false,.bool false].toArray,.iface 186 (.pointer (some (sa 1)))]) (bS Tryd.results21 _ _ gr 44 [Value.int .i64 0,.int .i64 0,.slice none 0 0,.int .i64 0,.int .i64 0,.bool false,.bool false] _ 7 _ rfl rfl pt.1 Tryd.underlying44 rfl aU rfl) rfl ⟨oB,.inr ⟨rfl,pu.out⟩⟩
 |true =>
  have hoe:bd=false/\ys=[]:=by
   have:=sR.out.symm;rw [Bool.and_eq_true,decide_eq_true_eq] at this;exact ⟨by cases bd;rfl;exact absurd this.1 (by decide),List.eq_nil_of_length_eq_zero this.2⟩
  obtain ⟨rfl,rfl⟩:=hoe;have sQ:ViewAt W4 V (.slice a1 nl c1):=⟨uQ.out.zone (fun _ _ _=>trivial),by omega,by omega,by omega,by omega⟩
  cases hrt:aH V with
  |false =>
   have qr:=aa (show Calls Tryd.prog 18 #[.agg #[.int .i64 V.w,.int .i64 V.h,.slice a1 nl c1,.int .i64 V.r,.int .i64 V.c,.bool V.pd,.bool V.au]] W4 (Gives W4 (.tuple #[.slice none 0 0,.iface 186 (.pointer (some (sa 4)))])) from gF sa V (.slice a1 nl c1) W4 (pK.out.below mu.out) sQ hrt);have pu:=aa (show ∀ V',bC xs=(V',[],false)->aH V'=true->aS V'≠xs from fun V' e h _=>by
    rw [rL.out] at e
    cases e
    rw [hrt] at h
    cases h)
   clear hrt sQ sR uQ;have rB:=om.out.2
   go_upto_region 4 with (fail)
   go_wp2_with (refine be rfl 44 (.tmp 5) rfl gv rfl 44 _ _ 7 rB Tryd.underlying44 rfl aU rfl ?_)
   refine qr.out.mono ?_;rintro e wt ⟨rfl,bt⟩;have oN:=aa (mu.out.trans (bt.mono mu.out.size));have sE:=aa (om.out.1.below bt om.out.1.lt);clear rB om mu qr bt
   go_upto_region 9 with (fail)
   obtain ⟨mL,nT⟩ : ∃ CC:Array Bool->World->Prop,CC=fun _ w'=>Has w' gr [Value.int .i64 0,.int .i64 0,.slice none 0 0,.int .i64 0,.int .i64 0,.bool false,.bool false] 44/\Upd (fun b=>b=gr) wt w':=⟨_,rfl⟩
   obtain ⟨Xrgt6,hXrgt6,pm,Hrgt6xb⟩:=Reg.xT;obtain ⟨Ergt6,Hrgt6st,oA,oH,Hrgt6e2,oD⟩:=Reg.e4 Xrgt6
    (fun xx _=>xx=.agg #[.int .i64 0,.int .i64 0,.slice none 0 0,.int .i64 0,.int .i64 0,.bool false,.bool false])
    (fun xx _=>xx=.iface 186 (.pointer (some (sa 1))))
    (fun xx _=>xx=undef)
    (fun xx _=>xx=.iface 186 (.pointer (some (sa 1))))
   have pv:Hid (∀ i L w, mL L w->mL (L.setIfInBounds i true) w):=aa (by
    intro i L w h;rw [nT] at h ⊢;exact h)
   have Hrgt6b:Hid (∀ L w w1,mL L w->Below w.heap.size w w1->mL L w1):=aa (by
    intro L w w1 h hb;rw [nT] at h ⊢
    (obtain ⟨q1,q2⟩:=h;exact ⟨q1.below hb q1.lt,q2.trans (.ofBelow hb)⟩))
   have Hrgt6c:=aa (show mL (Array.replicate 4 false) wt.drew from by rw [nT];exact ⟨sE.out.drewN 1,(Upd.refl _ _).drew⟩);have o7:=aa (fun (i:Nat) L w v (h:mL L w) (e:Ergt6 i v w)=>Reg.hk (pv.out i L w h) e (pm.out w));have mC:=aa nT;have Hrgt6hX:=aa hXrgt6;clear nT hXrgt6
   go_wp2_with fail
   refine Reg.regionF Ergt6 mL Xrgt6 Hrgt6st.out (by kernel_rfl) (by kernel_rfl) (by kernel_rfl) Hrgt6c.out (fun Frgt6 mM=>?_);simp only [Reg.frame,Reg.dsts,List.map_cons,List.map_nil,Mix.put_lit,Reg.put_none,List.set_cons_succ,List.set_cons_zero,Nat.zero_add,Nat.reduceAdd] at mM;refine ⟨⟨?_,?_,?_,?_,trivial⟩,?_⟩
   ·intro Lq wq xq hh;simp only [mM];refine Reg.go rfl ?_;unfold Reg.upon;have hc:mL Lq wq:=hh.cls;rw [mC.out] at hc;rw [bZ rfl];exact ⟨pv.out 0 Lq wq  hh.cls,(by rw [oA.out];try rfl),pm.out _⟩
   ·intro Lq wq xq hh;simp only [mM];refine Reg.go rfl ?_;have hc:mL Lq wq:=hh.cls;rw [mC.out] at hc;have q0:(wq).cell? ⟨2,0,none⟩=some (.iface 186 (.pointer (some (sa 1)))):=(pK.out.below (oN.out.trans (hc.2.below oN.out.size (fun b e=>by have e:b=gr:=e;have:=nP.out;omega)))).cell 1 (by decide);clear hc;have HK:=o7.out 1 _ _ _ hh.cls ((oH.out _ _).mpr rfl);go_simp;exact HK.out
   ·intro Lq wq xq hh;simp only [mM,(oA.out _ _).mp (hh.v 0)];refine Reg.go rfl ?_;unfold Reg.upon;have hc:mL Lq wq:=hh.cls;rw [mC.out] at hc;rw [cf rfl rfl [Value.int .i64 0,.int .i64 0,.slice none 0 0,.int .i64 0,.int .i64 0,.bool false,.bool false] rfl (dt hc.1 _ (by decide)) aU (by simp [Value.oneCell'])];refine ⟨?_,by rw [Hrgt6e2.out],by rw [Hrgt6hX.out];trivial⟩;rw [mC.out];have h2:=bz gr 44 [Value.int .i64 0,.int .i64 0,.slice none 0 0,.int .i64 0,.int .i64 0,.bool false,.bool false] [] [Value.int .i64 0,.int .i64 0,.slice none 0 0,.int .i64 0,.int .i64 0,.bool false,.bool false] wq hc.1 (by decide);exact ⟨by simpa using h2,hc.2.trans (Upd.ofBut (aY gr (wq).heap.size wq [Value.int .i64 0,.int .i64 0,.slice none 0 0,.int .i64 0,.int .i64 0,.bool false,.bool false] 0 wq (But.refl _ _ _)))⟩
   ·intro Lq wq xq hh;simp only [mM,(oH.out _ _).mp (hh.v 1)];refine Reg.go rfl ?_;have HK:=o7.out 3 _ _ _ hh.cls ((oD.out _ _).mpr rfl);go_simp;exact HK.out
   intro xq wrgt6 pq hvrgt6;rw [mC.out] at pq;simp only [mM];have vrgt63:=(oD.out _ _).mp (hvrgt6 3 (by decide));rw [vrgt63];clear hvrgt6 mM o7 pv pm Hrgt6st Hrgt6c mC Hrgt6hX Hrgt6b Hrgt6xb oA oH Hrgt6e2 oD;have oB:=oN.out.trans (pq.2.below oN.out.size (fun b e=>by have e:b=gr:=e;have:=nP.out;omega));go_wp2;exact bodyPost_ret (v:=.tuple #[.agg [Value.int .i64 0,.int .i64 0,.slice none 0 0,.int .i64 0,.int .i64 0,.bool false,.bool false].toArray,.iface 186 (.pointer (some (sa 1)))]) (bS Tryd.results21 _ _ gr 44 [Value.int .i64 0,.int .i64 0,.slice none 0 0,.int .i64 0,.int .i64 0,.bool false,.bool false] _ 7 _ rfl rfl pq.1 Tryd.underlying44 rfl aU rfl) rfl ⟨oB,.inr ⟨rfl,pu.out⟩⟩
  |true =>
   have qr:=aa (show Calls Tryd.prog 18 #[.agg #[.int .i64 V.w,.int .i64 V.h,.slice a1 nl c1,.int .i64 V.r,.int .i64 V.c,.bool V.pd,.bool V.au]] W4 (fun e w'=>∃ u,e=.returned (.tuple #[u,.nilIface])/\BOwn w' W4.heap.size u (aS V)/\Below W4.heap.size W4 w') from dA sa V (.slice a1 nl c1) W4 (pK.out.below mu.out) sQ hrt);have sw:=aa hrt;clear sQ sR hrt;have rB:=om.out.2
   go_upto_region 4 with (fail)
   go_wp2_with (refine be rfl 44 (.tmp 5) rfl gv rfl 44 _ _ 7 rB Tryd.underlying44 rfl aU rfl ?_)
   refine qr.out.mono ?_;rintro e wt ⟨u,rfl,ho,bt⟩;have oN:=aa (mu.out.trans (bt.mono mu.out.size));have sE:=aa (om.out.1.below bt om.out.1.lt);have HAv:=aa (om.out.2.below bt om.out.2.lt);have HLt:=aa (uQ.out.below bt);have qQ:=(OwnE.held (Z:=fun _=>True) (OwnE.zone ho (Y:=fun _=>True) (fun _ _ _=>trivial)) (fun _ _ _=>trivial)).ints;have vV:=aa (jp u (.slice ao N cap) (aS V) xs wt qQ (HV.out.below oN.out).ints (cM V) HX.out);obtain ⟨eqv,tz⟩:=ab (decide (aS V=xs));rw [<-tz] at vV;have xV:=aa tz;obtain ⟨a5,c5,ev5⟩:=(OwnE.held (Z:=fun _=>True) (OwnE.zone ho (Y:=fun _=>True) (fun _ _ _=>trivial)) (fun _ _ _=>trivial)).len;subst ev5;obtain ⟨n5,hn5⟩:=ab ((aS V).length);rw [<-hn5] at vV ⊢;clear rB om mu qr bt ho qQ tz hn5 uQ
   go_wp2_with fail
   refine vV.out.mono ?_;rintro e w7 ⟨rfl,rfl⟩;clear vV
   cases eqv with
   |true =>
    have hav:=HAv.out;have hat:=sE.out
    go_upto_region 6 with (fail)
    go_wp2_with (first | (refine be rfl 44 (.tmp 5) rfl gv rfl 44 _ _ 7 hav Tryd.underlying44 rfl aU rfl ?_) | (refine cG rfl 44 (.tmp 2) (.tmp 24) rfl gr rfl 44 [Value.int .i64 0,.int .i64 0,.slice none 0 0,.int .i64 0,.int .i64 0,.bool false,.bool false] [Value.int .i64 V.w,.int .i64 V.h,.slice a1 nl c1,.int .i64 V.r,.int .i64 V.c,.bool V.pd,.bool V.au] 7 rfl hat aU rfl rfl (by simp [Value.oneCell']) ?_;intro wz hz qE))
    have qE:Upd (fun b=>b=gr) wt wz:=Upd.ofBut qE;have oB:=oN.out.trans (qE.below oN.out.size (fun b e=>by have e:b=gr:=e;have:=nP.out;omega));have hlz:=(HLt.out.upd qE (fun b hb e=>by have e:b=gr:=e;have hb:W2.heap.size<=b:=hb;omega)).zone (Y:=fun b=>w.heap.size<=b) (fun b _ h=>by have h:W2.heap.size<=b:=h;omega);have hpx:aS V=xs:=of_decide_eq_true xV.out.symm;exact bodyPost_ret (v:=.tuple #[.agg [Value.int .i64 V.w,.int .i64 V.h,.slice a1 nl c1,.int .i64 V.r,.int .i64 V.c,.bool V.pd,.bool V.au].toArray,.nilIface]) (bS Tryd.results21 _ _ gr 44 [Value.int .i64 V.w,.int .i64 V.h,.slice a1 nl c1,.int .i64 V.r,.int .i64 V.c,.bool V.pd,.bool V.au] _ 7 _ rfl rfl hz Tryd.underlying44 rfl aU rfl) rfl ⟨oB,.inl ⟨V,.slice a1 nl c1,rfl,hlz,sw.out,hpx⟩⟩
   |false =>
    have pu:=aa (show ∀ V',bC xs=(V',[],false)->aH V'=true->aS V'≠xs from fun V' e h e2=>by
     rw [rL.out] at e
     cases e
     have:=xV.out;rw [decide_eq_true e2] at this
     cases this)
    clear HAv HLt xV
    go_upto_region 9 with (fail)
    obtain ⟨mK,nH⟩ : ∃ CC:Array Bool->World->Prop,CC=fun _ w'=>Has w' gr [Value.int .i64 0,.int .i64 0,.slice none 0 0,.int .i64 0,.int .i64 0,.bool false,.bool false] 44/\Upd (fun b=>b=gr) wt w':=⟨_,rfl⟩
    obtain ⟨Xrgt8,hXrgt8,pw,Hrgt8xb⟩:=Reg.xT;obtain ⟨Ergt8,Hrgt8st,ow,oG,Hrgt8e2,ox⟩:=Reg.e4 Xrgt8
     (fun xx _=>xx=.agg #[.int .i64 0,.int .i64 0,.slice none 0 0,.int .i64 0,.int .i64 0,.bool false,.bool false])
     (fun xx _=>xx=.iface 186 (.pointer (some (sa 1))))
     (fun xx _=>xx=undef)
     (fun xx _=>xx=.iface 186 (.pointer (some (sa 1))))
    have pA:Hid (∀ i L w, mK L w->mK (L.setIfInBounds i true) w):=aa (by
     intro i L w h;rw [nH] at h ⊢;exact h)
    have Hrgt8b:Hid (∀ L w w1,mK L w->Below w.heap.size w w1->mK L w1):=aa (by
     intro L w w1 h hb;rw [nH] at h ⊢
     (obtain ⟨q1,q2⟩:=h;exact ⟨q1.below hb q1.lt,q2.trans (.ofBelow hb)⟩))
    have Hrgt8c:=aa (show mK (Array.replicate 4 false) wt.drew from by rw [nH];exact ⟨sE.out.drewN 1,(Upd.refl _ _).drew⟩);have o9:=aa (fun (i:Nat) L w v (h:mK L w) (e:Ergt8 i v w)=>Reg.hk (pA.out i L w h) e (pw.out w));have mB:=aa nH;have Hrgt8hX:=aa hXrgt8;clear nH hXrgt8
    go_wp2_with fail
    refine Reg.regionF Ergt8 mK Xrgt8 Hrgt8st.out (by kernel_rfl) (by kernel_rfl) (by kernel_rfl) Hrgt8c.out (fun Frgt8 mO=>?_);simp only [Reg.frame,Reg.dsts,List.map_cons,List.map_nil,Mix.put_lit,Reg.put_none,List.set_cons_succ,List.set_cons_zero,Nat.zero_add,Nat.reduceAdd] at mO;refine ⟨⟨?_,?_,?_,?_,trivial⟩,?_⟩
    ·intro Lq wq xq hh;simp only [mO];refine Reg.go rfl ?_;unfold Reg.upon;have hc:mK Lq wq:=hh.cls;rw [mB.out] at hc;rw [bZ rfl];exact ⟨pA.out 0 Lq wq  hh.cls,(by rw [ow.out];try rfl),pw.out _⟩
    ·intro Lq wq xq hh;simp only [mO];refine Reg.go rfl ?_;have hc:mK Lq wq:=hh.cls;rw [mB.out] at hc;have q0:(wq).cell? ⟨2,0,none⟩=some (.iface 186 (.pointer (some (sa 1)))):=(pK.out.below (oN.out.trans (hc.2.below oN.out.size (fun b e=>by have e:b=gr:=e;have:=nP.out;omega)))).cell 1 (by decide);clear hc;have HK:=o9.out 1 _ _ _ hh.cls ((oG.out _ _).mpr rfl);go_simp;exact HK.out
    ·intro Lq wq xq hh;simp only [mO,(ow.out _ _).mp (hh.v 0)];refine Reg.go rfl ?_;unfold Reg.upon;have hc:mK Lq wq:=hh.cls;rw [mB.out] at hc;rw [cf rfl rfl [Value.int .i64 0,.int .i64 0,.slice none 0 0,.int .i64 0,.int .i64 0,.bool false,.bool false] rfl (dt hc.1 _ (by decide)) aU (by simp [Value.oneCell'])];refine ⟨?_,by rw [Hrgt8e2.out],by rw [Hrgt8hX.out];trivial⟩;rw [mB.out];have h2:=bz gr 44 [Value.int .i64 0,.int .i64 0,.slice none 0 0,.int .i64 0,.int .i64 0,.bool false,.bool false] [] [Value.int .i64 0,.int .i64 0,.slice none 0 0,.int .i64 0,.int .i64 0,.bool false,.bool false] wq hc.1 (by decide);exact ⟨by simpa using h2,hc.2.trans (Upd.ofBut (aY gr (wq).heap.size wq [Value.int .i64 0,.int .i64 0,.slice none 0 0,.int .i64 0,.int .i64 0,.bool false,.bool false] 0 wq (But.refl _ _ _)))⟩
    ·intro Lq wq xq hh;simp only [mO,(oG.out _ _).mp (hh.v 1)];refine Reg.go rfl ?_;have HK:=o9.out 3 _ _ _ hh.cls ((ox.out _ _).mpr rfl);go_simp;exact HK.out
    intro xq wrgt8 o5 hvrgt8;rw [mB.out] at o5;simp only [mO];have vrgt83:=(ox.out _ _).mp (hvrgt8 3 (by decide));rw [vrgt83];clear hvrgt8 mO o9 pA pw Hrgt8st Hrgt8c mB Hrgt8hX Hrgt8b Hrgt8xb ow oG Hrgt8e2 ox;have oB:=oN.out.trans (o5.2.below oN.out.size (fun b e=>by have e:b=gr:=e;have:=nP.out;omega));go_wp2;exact bodyPost_ret (v:=.tuple #[.agg [Value.int .i64 0,.int .i64 0,.slice none 0 0,.int .i64 0,.int .i64 0,.bool false,.bool false].toArray,.iface 186 (.pointer (some (sa 1)))]) (bS Tryd.results21 _ _ gr 44 [Value.int .i64 0,.int .i64 0,.slice none 0 0,.int .i64 0,.int .i64 0,.bool false,.bool false] _ 7 _ rfl rfl o5.1 Tryd.underlying44 rfl aU rfl) rfl ⟨oB,.inr ⟨rfl,pu.out⟩⟩
end Go.Proofs.YtechjomepdahiaaDoor
