import Derived.Test.YtechjomepdahiaaDoorZ0
import Derived.Test.YtechjomepdahiaaDoorMg7
import Derived.Test.YtechjomepdahiaaDoorMg5
import Derived.Test.YtechjomepdahiaaDoorMg1
import Derived.Test.YtechjomepdahiaaDoorCards
import Derived.Test.YtechjomepdahiaaDoorTie
import Derived.ProofKit
import Derived.Lib.MinMax
import Derived.Deep.Cut
set_option maxRecDepth 100000
set_option linter.unusedVariables false
set_option linter.unusedSimpArgs false
set_option maxHeartbeats 8000000
namespace Go.Proofs.YtechjomepdahiaaDoor.lawWirePuts
open Go.ChangeShapes Go.WideShapes Go.ChangeAt Go.RowKit
theorem walkN(W:World)(sa:Nat->Addr)(hs:Sents W sa)(v:Vw)(lv:Value)(oo:HeldE lineE (fun _=>True) W lv v.L)(h0:(Lit.int .i64 v.w).wf=true)(h1:(Lit.int .i64 v.h).wf=true)(hr:∀ l ∈ v.L,l.1.length * 32<=reachBytes):Calls Tryd.prog 4 #[.agg #[.int .i64 v.w,.int .i64 v.h,lv,.int .i64 v.r,.int .i64 v.c,.bool v.pd,.bool v.au]] W (Yes W):=by
 have rY:=j5 oo h0 h1;have px:∀ k,k<v.L.length->(v.L.getD k zl).1.length<=4398046511104:=fun k hk=>by
  have h:=hr (v.L.getD k zl) (by rw [List.getD_eq_getElem?_getD,List.getElem?_eq_getElem hk];exact List.getElem_mem hk);have hq:reachBytes=140737488351232:=rfl;rw [hq] at h;omega
 obtain ⟨lo,lc,rfl⟩:=oo.len;obtain ⟨nl,mA⟩:=ab (v.L.length);rw [<-mA] at oo rY ⊢;have oq:=aa (fun (w':World) (b:Below W.heap.size W w')=>show Calls Tryd.prog 17 #[.agg #[.int .i64 v.w,.int .i64 v.h,.slice lo nl lc,.int .i64 v.r,.int .i64 v.c,.bool v.pd,.bool v.au]] w' (Gives w' (.bool (dX v))) from gC v (.slice lo nl lc) w' (oo.below b) px);have vN:=aa (fun (w':World) (b:Below W.heap.size W w')=>gB sa w' (i8 (hs.below b)));have uI:=aa (fun (w':World) (b:Below W.heap.size W w')=>show Calls Tryd.prog 19 #[.agg #[.int .i64 v.w,.int .i64 v.h,.slice lo nl lc,.int .i64 v.r,.int .i64 v.c,.bool v.pd,.bool v.au]] w' (Gives w' (.bool (aH v))) from f9 v (.slice lo nl lc) w' ⟨rY.1.below b,rY.2⟩);have qr:=aa (fun (h:aH v=true) (w':World) (b:Below W.heap.size W w')=>show Calls Tryd.prog 23 #[.agg #[.int .i64 v.w,.int .i64 v.h,.slice lo nl lc,.int .i64 v.r,.int .i64 v.c,.bool v.pd,.bool v.au]] w' (je w' (aS v)) from iZ v (.slice lo nl lc) w' ⟨rY.1.below b,rY.2⟩ h);have qR:=aa (fun (w':World) (b:Below W.heap.size W w')=>(show ViewAt w' v (.slice lo nl lc) from ⟨rY.1.below b,rY.2⟩));have HS:=aa hs;obtain ⟨W1,hW1⟩:=ab (W.alloc (.cells [Value.int .i64 v.w,.int .i64 v.h,.slice lo nl lc,.int .i64 v.r,.int .i64 v.c,.bool v.pd,.bool v.au].toArray 44));have b1:Below W.heap.size W W1:=by rw [hW1];exact l7 _ _
 obtain ⟨gv,oa⟩:=ab (W.heap.size);have l8:Has W1 gv [Value.int .i64 v.w,.int .i64 v.h,.slice lo nl lc,.int .i64 v.r,.int .i64 v.c,.bool v.pd,.bool v.au] 44:=by rw [hW1,oa];exact Has.new W _ _
 have nu:=aa b1;have og:=aa l8;have mG:=aa hW1.symm;have pI:=aa oa.symm;clear rY px oo h0 h1 hr hs hW1 b1 oa l8 mA
 cases hG:dX v with
 |true =>
  rw [hG] at oq;clear hG
  go_enter Tryd.func4,Tryd.ntmps4
  go_upto_region 1 with (fail)
  rw [mG.out,pI.out];clear mG pI
  go_wp2_with fail
  refine (vN.out _ nu.out).mono ?_;rintro e w1 ⟨rfl,b1⟩;have m3:=aa (og.out.below b1 og.out.lt);have mV:=aa (nu.out.trans (b1.mono nu.out.size));clear b1 og;have q0:=m3.out.cell 0 _ rfl;have q1:=m3.out.cell 1 _ rfl;have q2:=m3.out.cell 2 _ rfl;have q3:=m3.out.cell 3 _ rfl;have q4:=m3.out.cell 4 _ rfl;have q5:=m3.out.cell 5 _ rfl;have q6:=m3.out.cell 6 _ rfl
  go_wp2_with fail
  refine (oq.out _ mV.out).mono ?_;rintro e w2 ⟨rfl,b2⟩;have m5:=aa (mV.out.trans (b2.mono mV.out.size));clear b2
  go_wp2_with fail
  refine (vN.out _ m5.out).mono ?_;rintro e w3 ⟨rfl,b3⟩;have HF:=aa (m5.out.trans (b3.mono m5.out.size));clear b3;go_wp2;go_ret;exact ⟨ae,HF.out⟩
 |false =>
  rw [hG] at oq
  go_enter Tryd.func4,Tryd.ntmps4
  go_upto_region 1 with (fail)
  rw [mG.out,pI.out];clear mG pI
  go_wp2_with fail
  refine (vN.out _ nu.out).mono ?_;rintro e w1 ⟨rfl,b1⟩;have m3:=aa (og.out.below b1 og.out.lt);have mV:=aa (nu.out.trans (b1.mono nu.out.size));clear b1 og;have q0:=m3.out.cell 0 _ rfl;have q1:=m3.out.cell 1 _ rfl;have q2:=m3.out.cell 2 _ rfl;have q3:=m3.out.cell 3 _ rfl;have q4:=m3.out.cell 4 _ rfl;have q5:=m3.out.cell 5 _ rfl;have q6:=m3.out.cell 6 _ rfl
  go_wp2_with fail
  refine (oq.out _ mV.out).mono ?_;rintro e w2 ⟨rfl,b2⟩;have m5:=aa (mV.out.trans (b2.mono mV.out.size));have pO:=aa (m3.out.below b2 m3.out.lt);clear b2 m3;clear q0 q1 q2 q3 q4 q5 q6;have q0:=pO.out.cell 0 _ rfl;have q1:=pO.out.cell 1 _ rfl;have q2:=pO.out.cell 2 _ rfl;have q3:=pO.out.cell 3 _ rfl;have q4:=pO.out.cell 4 _ rfl;have q5:=pO.out.cell 5 _ rfl;have q6:=pO.out.cell 6 _ rfl
  cases hR:aH v with
  |false =>
   rw [hR] at uI;have vY:=aa (show Calls Tryd.prog 18 #[.agg #[.int .i64 v.w,.int .i64 v.h,.slice lo nl lc,.int .i64 v.r,.int .i64 v.c,.bool v.pd,.bool v.au]] w2 (Gives w2 (.tuple #[.slice none 0 0,.iface 186 (.pointer (some (sa 4)))])) from gF sa v (.slice lo nl lc) w2 (i8 (HS.out.below m5.out)) (qR.out _ m5.out) hR);clear hG hR qr
   go_wp2_with fail
   refine (vY.out).mono ?_;rintro e w3 ⟨rfl,b3⟩;have mu:=aa (m5.out.trans (b3.mono m5.out.size));have oh:=aa (pO.out.below b3 pO.out.lt);clear b3 pO;clear q0 q1 q2 q3 q4 q5 q6;have q0:=oh.out.cell 0 _ rfl;have q1:=oh.out.cell 1 _ rfl;have q2:=oh.out.cell 2 _ rfl;have q3:=oh.out.cell 3 _ rfl;have q4:=oh.out.cell 4 _ rfl;have q5:=oh.out.cell 5 _ rfl;have q6:=oh.out.cell 6 _ rfl
   go_wp2_with fail
   refine (uI.out _ mu.out).mono ?_;rintro e w4 ⟨rfl,b4⟩;have ob:=aa (mu.out.trans (b4.mono mu.out.size));have HCD:=aa (jG sa w4 (HS.out.below ob.out) 4 (by decide));clear b4
   go_wp2_with fail
   refine (HCD.out).mono ?_;rintro e w5 ⟨rfl,rfl⟩;go_wp2;go_ret;exact ⟨ae,ob.out⟩
  |true =>
   obtain ⟨oS,ou⟩:=ix hR hG;have vY:=aa (show Calls Tryd.prog 18 #[.agg #[.int .i64 v.w,.int .i64 v.h,.slice lo nl lc,.int .i64 v.r,.int .i64 v.c,.bool v.pd,.bool v.au]] w2 (fun e w'=>∃ u,e=.returned (.tuple #[u,.nilIface])/\BOwn w' w2.heap.size u (aS v)/\Below w2.heap.size w2 w') from dA sa v (.slice lo nl lc) w2 (i8 (HS.out.below m5.out)) (qR.out _ m5.out) hR);have qr:=aa (qr.out hR);have sw:=aa hR;rw [hR] at uI;clear hG hR
   go_wp2_with fail
   refine (vY.out).mono ?_;rintro e w3 ⟨u,rfl,oy,b3⟩;have mu:=aa (m5.out.trans (b3.mono m5.out.size));have oh:=aa (pO.out.below b3 pO.out.lt);have qM:HeldE (a8 .u8) (fun b=>b<w3.heap.size) w3 u (aS v):=(OwnE.held (OwnE.zone oy (Y:=fun _=>True) (fun _ _ _=>trivial)) (fun _ _ _=>trivial)).zone (fun b hb _=>hb);obtain ⟨ao,cap,eu⟩:=qM.len;subst eu;obtain ⟨n,hn⟩:=ab ((aS v).length);rw [<-hn] at qM oS ou ⊢;have nn:=aa qM;have HN:=aa hn;clear b3 pO oy qM hn vY;clear q0 q1 q2 q3 q4 q5 q6;have q0:=oh.out.cell 0 _ rfl;have q1:=oh.out.cell 1 _ rfl;have q2:=oh.out.cell 2 _ rfl;have q3:=oh.out.cell 3 _ rfl;have q4:=oh.out.cell 4 _ rfl;have q5:=oh.out.cell 5 _ rfl;have q6:=oh.out.cell 6 _ rfl
   go_wp2_with fail
   refine (uI.out _ mu.out).mono ?_;rintro e w4 ⟨rfl,b4⟩;have ob:=aa (mu.out.trans (b4.mono mu.out.size));have uq:=aa (oh.out.below b4 oh.out.lt);have tD:=aa ((nn.out.below b4).zone (Y:=fun b=>b<w4.heap.size) (fun b h _=>h));have xp:=aa (j8 sa (.slice ao n cap) (aS v) w4 (i8 (HS.out.below ob.out)) ((nn.out.below b4).zone (fun b h _=>h)) (cM v) (by rw [<-HN.out];omega));clear b4 oh mu nn uI;clear q0 q1 q2 q3 q4 q5 q6
   go_wp2_with fail
   refine xp.out.mono ?_;rintro e w5 ⟨b5,h5⟩;obtain ⟨lu,h5,pk⟩ : ∃ lu,e=.returned (.tuple #[.agg #[.int .i64 v.w,.int .i64 v.h,lu,.int .i64 v.r,.int .i64 v.c,.bool v.pd,.bool v.au],.nilIface])/\HeldE lineE (fun b=>w4.heap.size<=b) w5 lu v.L:=by
    rcases h5 with ⟨V,lu,h1,h2,h3,h4⟩ | ⟨_,h2⟩
    ·obtain ⟨e1,_⟩:=kh h3 sw.out [] [] (by rw [h4]);subst e1;exact ⟨lu,h1,h2⟩
    ·exact absurd rfl (h2 v (j4 sw.out) sw.out)
   subst h5;obtain ⟨mo,mc,el⟩:=pk.len;subst el;obtain ⟨nm,hnm⟩:=ab (v.L.length);rw [<-hnm] at pk ⊢;have sV:=aa (ob.out.trans (b5.mono ob.out.size));have xM:=uq.out.below b5 uq.out.lt;have hu6:=tD.out.below b5;obtain ⟨W6,pE⟩:=ab (w5.alloc (.cells [Value.int .i64 v.w,.int .i64 v.h,.slice mo nm mc,.int .i64 v.r,.int .i64 v.c,.bool v.pd,.bool v.au].toArray 44));have b6:Below w5.heap.size w5 W6:=by rw [pE];exact l7 _ _
   obtain ⟨gw,rt⟩:=ab (w5.heap.size);have hg6:Has W6 gw [Value.int .i64 v.w,.int .i64 v.h,.slice mo nm mc,.int .i64 v.r,.int .i64 v.c,.bool v.pd,.bool v.au] 44:=by rw [pE,rt];exact Has.new w5 _ _
   have wS:=aa hg6;have qL:=aa (xM.below b6 xM.lt);have HU6:=aa (hu6.below b6);have HL6:=aa (pk.below b6);have qC:=aa (sV.out.trans (b6.mono sV.out.size));have HW6:=aa pE.symm;have qd:=aa rt.symm;clear xp b5 pE b6 rt hg6 xM hu6 pk tD uq ob sV hnm
   go_upto_region 7 with (fail)
   rw [HW6.out,qd.out];have q0:=qL.out.cell 0 _ rfl;have q1:=qL.out.cell 1 _ rfl;have q2:=qL.out.cell 2 _ rfl;have q3:=qL.out.cell 3 _ rfl;have q4:=qL.out.cell 4 _ rfl;have q5:=qL.out.cell 5 _ rfl;have q6:=qL.out.cell 6 _ rfl
   go_wp2_with fail
   refine (qr.out _ qC.out).mono ?_;rintro e w7 ⟨u7,rfl,ur,b7⟩;have xk:=aa (qC.out.trans (b7.mono qC.out.size));have qQ:=(OwnE.held (Z:=fun _=>True) (OwnE.zone ur (Y:=fun _=>True) (fun _ _ _=>trivial)) (fun _ _ _=>trivial));have xh:=jB (.slice ao n cap) u7 (aS v) (aS v) w7 (HU6.out.below b7).ints qQ.ints;rw [fr (cM v) (cM v),decide_eq_true rfl] at xh;have xH:=aa xh;have sI:=aa (qL.out.below b7 qL.out.lt);have s9:=aa (wS.out.below b7 wS.out.lt);have HSM:=aa (show Calls Tryd.prog 24 #[.agg #[.int .i64 v.w,.int .i64 v.h,.slice lo nl lc,.int .i64 v.r,.int .i64 v.c,.bool v.pd,.bool v.au],.agg #[.int .i64 v.w,.int .i64 v.h,.slice mo nm mc,.int .i64 v.r,.int .i64 v.c,.bool v.pd,.bool v.au]] w7 (Gives w7 (.bool true)) from fU _ _ v (.slice lo nl lc) (.slice mo nm mc) w7 (qR.out _ xk.out).1 (HL6.out.below b7));obtain ⟨a7,c7,eu7⟩:=qQ.len;subst eu7;clear b7 ur qQ xh qL wS HU6 HL6 qC HW6 qd qr vN oq;clear q0 q1 q2 q3 q4 q5 q6
   go_wp2_with fail
   refine xH.out.mono ?_;rintro e w8 ⟨rfl,rfl⟩;have q0:=sI.out.cell 0 _ rfl;have q1:=sI.out.cell 1 _ rfl;have q2:=sI.out.cell 2 _ rfl;have q3:=sI.out.cell 3 _ rfl;have q4:=sI.out.cell 4 _ rfl;have q5:=sI.out.cell 5 _ rfl;have q6:=sI.out.cell 6 _ rfl;have p0:=s9.out.cell 0 _ rfl;have p1:=s9.out.cell 1 _ rfl;have p2:=s9.out.cell 2 _ rfl;have p3:=s9.out.cell 3 _ rfl;have p4:=s9.out.cell 4 _ rfl;have p5:=s9.out.cell 5 _ rfl;have p6:=s9.out.cell 6 _ rfl
   go_wp2_with fail
   refine HSM.out.mono ?_;rintro e w9 ⟨rfl,b9⟩;have HF:=aa (xk.out.trans (b9.mono xk.out.size));clear b9;go_wp2;go_ret;exact ⟨ae,HF.out⟩
theorem walk{H:Type}{enc:TypeId × Value->H}(W:World)(x:Value){bs0:Nat}{d0:DataW H}{p0:List MemPlace}(hx:Value.okWide Tryd.prog W .any bs0 44 x)(h0:DataW.Trod enc Tryd.prog W 0 (fun _=>true) true 44 x d0 p0)
  (hL:laidMetH Tryd.prog Rows.wirePutsRow.laid W) (hsz:(DataW.weightsEach Tryd.prog (#[44].toList++Rows.wirePutsSpec.plain.varTypes Tryd.prog) ([d0]++[])).all (· <= reachBytes)=true):Calls Tryd.prog 4 #[x] W (Yes W):=by
 obtain ⟨sa,hsa⟩:=gm hL;have hw:∀ z ∈ d0.weights Tryd.prog 44,z<=reachBytes:=by
  simp only [List.all_eq_true,DataW.weightsEach,List.cons_append,List.nil_append] at hsz;intro z hz;exact of_decide_eq_true (hsz z (List.mem_append.2 (.inl hz)))
 obtain ⟨v,lv,rfl,hl,e0,e1,hr⟩:=j3 hx h0 hw;exact walkN W sa hsa v lv hl e0 e1 hr
theorem door_met(os:Os):laidMetH Tryd.prog Rows.wirePutsRow.laid ((World.doorLaid Tryd.prog 400 os).forCall (fun _ _=>0) ⟨#[],#[.agg #[.int .i64 0,.int .i64 0,.slice none 0 0,.int .i64 0,.int .i64 0,.bool false,.bool false]],[]⟩).memory :=
 laidMetH_of_parts3 (fuel:=8) (laidMet_of_run' 8 (by kernel_rfl) (by kernel_rfl)) (by kernel_rfl) (by kernel_rfl)
theorem lifted(os:Os)(started:os.Started)(H:Type)(enc:TypeId × Value->H) :
  ReturnsInHanded {} Tryd.checked os 4 .any (fun w args=>(Rows.wirePutsSpec.pre enc Tryd.prog Tryd.f4 [] false w args/\laidMetH Tryd.prog Rows.wirePutsRow.laid w)/\sizedMet enc Tryd.prog Tryd.f4 (OpenSpec.ofChange Rows.wirePutsSpec) false w args)
   (Rows.wirePutsSpec.post enc Tryd.prog Tryd.f4 false true false false):=by
 refine j2 (C:=Tryd.checked) (tb:=4) (by kernel_rfl) started (by kernel_rfl) Tryd.func4 (by kernel_rfl) (by kernel_rfl) Tryd.underlying4 rfl
  (by rw [Tryd.params4];intro t ht;simp at ht;subst ht <;> exact ⟨by kernel_rfl,of_decide_eq_true (by kernel_rfl)⟩)
  (by rw [Tryd.params4];intro ds hd;match ds,hd with | [_],_=>rfl)
  (ChangeSpec.witness_shaped (enc:=enc) (C:=Tryd.checked) (os:=os) (X:=fun w _=>laidMetH Tryd.prog Rows.wirePutsRow.laid w) false (World.doorLaid Tryd.prog 400 os) #[.agg #[.int .i64 0,.int .i64 0,.slice none 0 0,.int .i64 0,.int .i64 0,.bool false,.bool false]] 8 rfl (World.shaped_of_RefB (by kernel_rfl) (by kernel_rfl)) (by kernel_rfl) (by kernel_rfl) (by kernel_rfl) (door_met os)) ?_
 intro W base args ds before hval hA hsz hL;rw [Tryd.params4] at hA hval hsz;obtain ⟨v0,vs0,d0,ds0,p0,q0,hargs,rfl,rfl,h0,r0⟩:=trodAll_cons hA;obtain ⟨rfl,rfl,rfl⟩:=trodAll_nil r0;obtain rfl:args=#[v0]:=by cases args;simp_all
 exact walk W v0 (hval 0 44 v0 rfl rfl) h0 hL hsz
theorem and_two{a b:Bool}(ha:a=true)(hb:b=true):(a && b)=true:=by rw [ha,hb];rfl
theorem joined:joinedFacts Tryd.pinned.checked.prog 4 Tryd.f4 Rows.wirePutsSpec Rows.wirePutsRow=true:=by
 unfold joinedFacts
 repeat' (with_reducible refine and_two ?_ ?_)
 all_goals (as_aux_lemma=>kernel_rfl)
theorem said:Rows.WirePutsSaid :=
 OpenClaim.holds_of_wide 4 Tryd.f4 rfl rfl rfl rfl rfl rfl rfl ⟨rfl,rfl,rfl,rfl,rfl⟩ rfl rfl rfl rfl rfl (by kernel_rfl) Tryd.func4 joined
  (of_decide_eq_true (by kernel_rfl)) (by unfold Func.isWrapper;first | (rw [if_pos (by decide +kernel)];kernel_rfl) | (rw [if_neg (by decide +kernel)];exact ⟨rfl,rfl⟩))
  (fun os started H enc _=>lifted os started H enc)
theorem plain (f : FuncId) (fn : Func) (hf : Tryd.pinned.checked.prog.funcNamed "linotype/linotypelaw55.WirePuts" = some f) (hfn : Tryd.pinned.checked.prog.funcs[f]? = some fn) :
  true=Tryd.pinned.checked.prog.looks []/\∀ (j:Nat) t,fn.params[j]? = some t->Tryd.pinned.checked.prog.wantsStandIn t=false:=by
 obtain rfl : f = 4 := Option.some.inj ((show Tryd.prog.funcNamed "linotype/linotypelaw55.WirePuts" = some 4 by kernel_rfl).symm.trans hf) |>.symm
 obtain rfl:fn=Tryd.f4:=(Option.some.inj (Tryd.func4.symm.trans hfn)).symm;refine ⟨by kernel_rfl,fun j t ht=>?_⟩;rw [Tryd.params4] at ht;have hm:t ∈ [44]:=by simpa using Array.mem_of_getElem? ht
 have hall:([44].all fun u=>!Tryd.prog.wantsStandIn u)=true:=by kernel_rfl
 exact (show Tryd.prog.wantsStandIn t=false by simpa using List.all_eq_true.1 hall t hm)
theorem card:Rows.WirePutsCardSaid :=
 Claim7.holds_tied_plain_at .later [] _ _ _ _ said (fun _ h=>by cases h) (by kernel_rfl) (fun _ h=>by cases h) wirePuts_row_tie rfl ⟨rfl,rfl⟩ (by kernel_rfl) rfl plain (by kernel_rfl)
#print axioms card
end Go.Proofs.YtechjomepdahiaaDoor.lawWirePuts
