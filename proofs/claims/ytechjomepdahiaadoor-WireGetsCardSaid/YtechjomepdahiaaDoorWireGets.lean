import Derived.Test.YtechjomepdahiaaDoorZ0
import Derived.Test.YtechjomepdahiaaDoorWirV
import Derived.Test.YtechjomepdahiaaDoorErrS
import Derived.Test.YtechjomepdahiaaDoorMg1
import Derived.Test.YtechjomepdahiaaDoorCards
import Derived.Test.YtechjomepdahiaaDoorTie
import Derived.ProofKit
set_option maxRecDepth 100000
set_option linter.unusedVariables false
set_option linter.unusedSimpArgs false
set_option maxHeartbeats 8000000
namespace Go.Proofs.YtechjomepdahiaaDoor.lawWireGets
open Go.ChangeShapes Go.WideShapes Go.ChangeAt Go.RowKit
theorem fiveS{w:World}{sa:Nat->Addr}(h:Sents w sa):Five w sa:=⟨fun k hk=>by
 simp only [List.mem_cons,List.not_mem_nil,or_false] at hk
 rcases hk with rfl | rfl | rfl | rfl | rfl
 ·exact h.cell 1 (by decide)
 ·exact h.cell 2 (by decide)
 ·exact h.cell 3 (by decide)
 ·exact h.cell 4 (by decide)
 ·exact h.cell 7 (by decide)⟩
theorem walkH(w:World)(sa:Nat->Addr)(hs:Sents w sa)(v:Value)(xs:List Int)(hv:HeldE (bh .u8) (fun b=>b<w.heap.size) w v xs)(hx:aL xs):Calls Tryd.prog 5 #[v] w (Yes w):=by
 obtain ⟨ao,cap,ev⟩:=hv.len;subst ev;obtain ⟨N,hN⟩:=ab (xs.length);rw [<-hN] at hv ⊢;have lf:=aa hN;have HV:=aa hv;have HX:=aa hx;have HS:=aa hs;clear hN hv hx hs
 by_cases h5:N<=5000
 ·have dl:decide ((5000:Int)<(N:Int))=false:=ah (by omega);have dn:¬ (5000:Int)<(N:Int):=by omega
  go_enter Tryd.func5,Tryd.ntmps5
  go_wp2_with fail
  refine (cM sa w (fiveS HS.out)).mono ?_;rintro e w1 ⟨rfl,b1⟩;have lT:=aa b1;have ur:=aa (iz sa (.slice ao N cap) xs w1 ((fiveS HS.out).below b1) ((HV.out.below b1).zone (fun b _ h=>by have:=b1.size;omega)) HX.out (by rw [<-lf.out];omega));clear b1
  go_wp2_with fail
  refine ur.out.mono ?_;rintro e w2 ⟨b2,h2⟩;have kP:=aa (lT.out.trans (b2.mono lT.out.size));have sQ:=aa (HS.out.below kP.out);clear ur b2 lT
  rcases h2 with ⟨V,u,rfl,hL,hrt,sW⟩ | ⟨rfl,_⟩
  ·unfold bb;obtain ⟨a1,c1,ev1⟩:=hL.len;subst ev1;obtain ⟨nl,ky⟩:=ab (V.L.length);rw [<-ky] at hL ⊢;have hb9:=dx hrt;obtain ⟨W3,hW3⟩:=ab (w2.alloc (.cells [Value.int .i64 V.w,.int .i64 V.h,.slice a1 nl c1,.int .i64 V.r,.int .i64 V.c,.bool V.pd,.bool V.au].toArray 44));have b3:Below w2.heap.size w2 W3:=by rw [hW3];exact j0 _ _
   obtain ⟨gv,lL⟩:=ab (w2.heap.size);have ny:Has W3 gv [Value.int .i64 V.w,.int .i64 V.h,.slice a1 nl c1,.int .i64 V.r,.int .i64 V.c,.bool V.pd,.bool V.au] 44:=by rw [hW3,lL];exact Has.new w2 _ _
   have nX:ViewAt W3 V (.slice a1 nl c1):=⟨(hL.below b3).zone (fun _ _ _=>trivial),by omega,by omega,by omega,by omega⟩;have HR:=aa (show Calls Tryd.prog 19 #[.agg #[.int .i64 V.w,.int .i64 V.h,.slice a1 nl c1,.int .i64 V.r,.int .i64 V.c,.bool V.pd,.bool V.au]] W3 (Gives W3 (.bool true)) from by have:=eZ V (.slice a1 nl c1) W3 nX;rw [hrt] at this;exact this);have me:=aa (kP.out.trans (b3.mono kP.out.size));have rG:=aa nX;have HPX:=aa sW;have r9:=aa hrt;have oB:=aa ny;have o2:=aa hW3.symm;have nK:=aa lL.symm;clear hL hb9 hW3 b3 lL nX sW hrt ky ny
   go_upto_region 6 with (fail)
   rw [o2.out,nK.out];have q0:=oB.out.cell 0 _ rfl;have q1:=oB.out.cell 1 _ rfl;have q2:=oB.out.cell 2 _ rfl;have q3:=oB.out.cell 3 _ rfl;have q4:=oB.out.cell 4 _ rfl;have q5:=oB.out.cell 5 _ rfl;have q6:=oB.out.cell 6 _ rfl
   go_wp2_with fail
   refine HR.out.mono ?_;rintro e w4 ⟨rfl,b4⟩;have kD:=aa (me.out.trans (b4.mono me.out.size));have mh:=oB.out.below b4 oB.out.lt;have HP:=aa (show Calls Tryd.prog 23 #[.agg #[.int .i64 V.w,.int .i64 V.h,.slice a1 nl c1,.int .i64 V.r,.int .i64 V.c,.bool V.pd,.bool V.au]] w4 (gF w4 (bG V)) from gC V (.slice a1 nl c1) w4 ⟨rG.out.1.below b4,rG.out.2⟩ r9.out);clear q0 q1 q2 q3 q4 q5 q6 oB HR b4 me o2 nK;have q0:=mh.cell 0 _ rfl;have q1:=mh.cell 1 _ rfl;have q2:=mh.cell 2 _ rfl;have q3:=mh.cell 3 _ rfl;have q4:=mh.cell 4 _ rfl;have q5:=mh.cell 5 _ rfl;have q6:=mh.cell 6 _ rfl
   go_wp2_with fail
   refine HP.out.mono ?_;rintro e w5 ⟨u5,rfl,kH,b5⟩;have mr:=aa (kD.out.trans (b5.mono kD.out.size));have pe:=(OwnE.held (Z:=fun _=>True) (OwnE.zone kH (Y:=fun _=>True) (fun _ _ _=>trivial)) (fun _ _ _=>trivial)).ints;have t9:=g9 u5 (.slice ao N cap) (bG V) xs w5 pe (HV.out.below mr.out).ints;rw [eA (dU V) HX.out,decide_eq_true HPX.out] at t9;have um:=aa t9;obtain ⟨a5,c5,ev5⟩:=(OwnE.held (Z:=fun _=>True) (OwnE.zone kH (Y:=fun _=>True) (fun _ _ _=>trivial)) (fun _ _ _=>trivial)).len;subst ev5;clear q0 q1 q2 q3 q4 q5 q6 mh HP b5 kD kH pe t9
   go_wp2_with fail
   refine um.out.mono ?_;rintro e w6 ⟨rfl,rfl⟩;go_wp2;go_ret;exact ⟨ae,mr.out⟩
  ·unfold bb zv;have tS:=ia sa (w2.alloc (.cells [Value.int .i64 0,.int .i64 0,.slice none 0 0,.int .i64 0,.int .i64 0,.bool false,.bool false].toArray 44)) (sQ.out.below (j0 _ _)) 1 (by decide);obtain ⟨W3,hW3⟩:=ab (w2.alloc (.cells [Value.int .i64 0,.int .i64 0,.slice none 0 0,.int .i64 0,.int .i64 0,.bool false,.bool false].toArray 44));have b3:Below w2.heap.size w2 W3:=by rw [hW3];exact j0 _ _
   obtain ⟨gv,lL⟩:=ab (w2.heap.size);have ny:Has W3 gv [Value.int .i64 0,.int .i64 0,.slice none 0 0,.int .i64 0,.int .i64 0,.bool false,.bool false] 44:=by rw [hW3,lL];exact Has.new w2 _ _
   have q0:=ny.cell 0 _ rfl;have q1:=ny.cell 1 _ rfl;have q2:=ny.cell 2 _ rfl;rw [<-hW3] at tS;have HCD:=aa tS;have me:=aa (kP.out.trans (b3.mono kP.out.size));have o2:=aa hW3.symm;have nK:=aa lL.symm;clear tS hW3 b3 lL ny
   go_upto_region 5 with (fail)
   rw [o2.out,nK.out]
   go_wp2_with fail
   refine HCD.out.mono ?_;rintro e w6 ⟨rfl,rfl⟩;go_wp2;go_ret;exact ⟨ae,me.out⟩
 ·have dl:decide ((5000:Int)<(N:Int))=true:=ag (by omega);have dn:(5000:Int)<(N:Int):=by omega
  go_enter Tryd.func5,Tryd.ntmps5
  go_wp2_with fail
  refine (cM sa w (fiveS HS.out)).mono ?_;rintro e w1 ⟨rfl,b1⟩
  go_wp2_with fail
  refine (cM sa w1 ((fiveS HS.out).below b1)).mono ?_;rintro e w2 ⟨rfl,b2⟩;have b2:=b1.trans (b2.mono b1.size);go_wp2;go_ret;exact ⟨ae,b2⟩
theorem walk{H:Type}{enc:TypeId × Value->H}(W:World)(v:Value){base:Nat}{d:DataW H}{p:List MemPlace}(hv:Value.okWide Tryd.prog W .any base 46 v)(h:DataW.Trod enc Tryd.prog W 0 (fun _=>true) true 46 v d p)(hL:laidMetH Tryd.prog Rows.wireGetsRow.laid W):Calls Tryd.prog 5 #[v] W (Yes W):=by
 obtain ⟨xs,hh,hw⟩:=g8 (E:=bh .u8) Tryd.underlying46 (by kernel_rfl) (by decide) (g6 (k:=.u8) Tryd.underlying5 (by kernel_rfl)) hv h;obtain ⟨sa,hsa⟩:=ff hL;exact walkH W sa hsa v xs hh (fun x hx=>by have:=bounds_u8 (hw x hx);omega)
theorem door_met(os:Os):laidMetH Tryd.prog Rows.wireGetsRow.laid ((World.doorLaid Tryd.prog 400 os).forCall (fun _ _=>0) ⟨#[],#[.slice none 0 0],[]⟩).memory :=
 laidMetH_of_parts3 (fuel:=8) (laidMet_of_run' 8 (by kernel_rfl) (by kernel_rfl)) (by kernel_rfl) (by kernel_rfl)
theorem lifted(os:Os)(started:os.Started)(H:Type)(enc:TypeId × Value->H) :
  ReturnsInHanded {} Tryd.checked os 5 .any (fun w args=>(Rows.wireGetsSpec.pre enc Tryd.prog Tryd.f5 [] false w args/\laidMetH Tryd.prog Rows.wireGetsRow.laid w)/\sizedMet enc Tryd.prog Tryd.f5 (OpenSpec.ofChange Rows.wireGetsSpec) false w args)
   (Rows.wireGetsSpec.post enc Tryd.prog Tryd.f5 false true false false):=by
 refine iw (C:=Tryd.checked) (tb:=4) (by kernel_rfl) started (by kernel_rfl) Tryd.func5 (by kernel_rfl) (by kernel_rfl) Tryd.underlying4 rfl
  (by rw [Tryd.params5];intro t ht;simp at ht;subst ht <;> exact ⟨by kernel_rfl,of_decide_eq_true (by kernel_rfl)⟩)
  (by rw [Tryd.params5];intro ds hd;match ds,hd with | [_],_=>rfl)
  (ChangeSpec.witness_shaped (enc:=enc) (C:=Tryd.checked) (os:=os) (X:=fun w _=>laidMetH Tryd.prog Rows.wireGetsRow.laid w) false (World.doorLaid Tryd.prog 400 os) #[.slice none 0 0] 8 rfl (World.shaped_of_RefB (by kernel_rfl) (by kernel_rfl)) (by kernel_rfl) (by kernel_rfl) (by kernel_rfl) (door_met os)) ?_
 intro W base args ds before hval hA hsz hL;rw [Tryd.params5] at hA hval;obtain ⟨v0,vs0,d0,ds0,p0,q0,hargs,rfl,rfl,h0,r0⟩:=trodAll_cons hA;obtain ⟨rfl,rfl,rfl⟩:=trodAll_nil r0;obtain rfl:args=#[v0]:=by cases args;simp_all
 exact walk W v0 (hval 0 46 v0 rfl rfl) h0 hL
theorem and_two{a b:Bool}(ha:a=true)(hb:b=true):(a && b)=true:=by rw [ha,hb];rfl
theorem joined:joinedFacts Tryd.pinned.checked.prog 5 Tryd.f5 Rows.wireGetsSpec Rows.wireGetsRow=true:=by
 unfold joinedFacts
 repeat' (with_reducible refine and_two ?_ ?_)
 all_goals (as_aux_lemma=>kernel_rfl)
theorem said:Rows.WireGetsSaid :=
 OpenClaim.holds_of_wide 5 Tryd.f5 rfl rfl rfl rfl rfl rfl rfl ⟨rfl,rfl,rfl,rfl,rfl⟩ rfl rfl rfl rfl rfl (by kernel_rfl) Tryd.func5 joined
  (of_decide_eq_true (by kernel_rfl)) (by unfold Func.isWrapper;first | (rw [if_pos (by decide +kernel)];kernel_rfl) | (rw [if_neg (by decide +kernel)];exact ⟨rfl,rfl⟩))
  (fun os started H enc _=>lifted os started H enc)
theorem plain (f : FuncId) (fn : Func) (hf : Tryd.pinned.checked.prog.funcNamed "linotype/linotypelaw55.WireGets" = some f) (hfn : Tryd.pinned.checked.prog.funcs[f]? = some fn) :
  true=Tryd.pinned.checked.prog.looks []/\∀ (j:Nat) t,fn.params[j]? = some t->Tryd.pinned.checked.prog.wantsStandIn t=false:=by
 obtain rfl : f = 5 := Option.some.inj ((show Tryd.prog.funcNamed "linotype/linotypelaw55.WireGets" = some 5 by kernel_rfl).symm.trans hf) |>.symm
 obtain rfl:fn=Tryd.f5:=(Option.some.inj (Tryd.func5.symm.trans hfn)).symm;refine ⟨by kernel_rfl,fun j t ht=>?_⟩;rw [Tryd.params5] at ht;have hm:t ∈ [46]:=by simpa using Array.mem_of_getElem? ht
 have hall:([46].all fun u=>!Tryd.prog.wantsStandIn u)=true:=by kernel_rfl
 exact (show Tryd.prog.wantsStandIn t=false by simpa using List.all_eq_true.1 hall t hm)
theorem card:Rows.WireGetsCardSaid :=
 Claim7.holds_tied_plain_at .later [] _ _ _ _ said (fun _ h=>by cases h) (by kernel_rfl) (fun _ h=>by cases h) wireGets_row_tie rfl ⟨rfl,rfl⟩ (by kernel_rfl) rfl plain (by kernel_rfl)
#print axioms card
end Go.Proofs.YtechjomepdahiaaDoor.lawWireGets
