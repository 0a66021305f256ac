import Derived.Test.YthdphijabffpiaaDoorZ0
import Derived.Test.YthdphijabffpiaaDoorMg6
import Derived.Test.YthdphijabffpiaaDoorAudF
import Derived.Test.YthdphijabffpiaaDoorMg5
import Derived.Test.YthdphijabffpiaaDoorMg1
import Derived.Test.YthdphijabffpiaaDoorCards
import Derived.Test.YthdphijabffpiaaDoorTie
import Derived.ProofKit
import Derived.Lib.MinMax
import Derived.Deep.Cut
set_option maxRecDepth 100000
set_option linter.unusedVariables false
set_option linter.unusedSimpArgs false
set_option maxHeartbeats 8000000
namespace Go.Proofs.YthdphijabffpiaaDoor.lawAuditRight
open Go.ChangeShapes Go.WideShapes Go.ChangeAt Go.RowKit
theorem room_law{W:World}{v:Vw}{lv:Value}(hv:HeldE lineE (fun _=>True) W lv v.L)(h0:(Lit.int .i64 v.w).wf=true)(h1:(Lit.int .i64 v.h).wf=true):ViewAt W v lv:=by
 simp [Lit.wf] at h0 h1
 exact ⟨hv,h0.1,h0.2,h1.1,h1.2⟩
theorem walkN(W:World)(sa:Nat->Addr)(hs:F.Sents W sa)(hh:F.Handle W)(v:Vw)(lv:Value)(fh:HeldE lineE (fun _=>True) W lv v.L)(h0:(Lit.int .i64 v.w).wf=true)(h1:(Lit.int .i64 v.h).wf=true):Calls Tryd.prog 4 #[.agg #[.int .i64 v.w,.int .i64 v.h,lv,.int .i64 v.r,.int .i64 v.c,.bool v.pd,.bool v.au]] W (Yes W):=by
 obtain ⟨vw,vh,Ls,r,c,pd,au⟩:=v;simp only at fh h0 h1;simp only;obtain ⟨lo,lc,rfl⟩:=fh.len;have hlc:=(aK fh).2.1;have fS:=aa (aK fh).2.2;have HS:=aa hs;have HH:=aa hh;have HVA:=aa (room_law (v:=⟨vw,vh,Ls,r,c,pd,au⟩) fh h0 h1);obtain ⟨n,hn⟩:=ab (Ls.length);have fx:=aa hn;rw [<-hn] at hlc fS HVA ⊢;obtain ⟨W1,hW1⟩:=ab (W.alloc (.cells [Value.int .i64 vw,.int .i64 vh,.slice lo n lc,.int .i64 r,.int .i64 c,.bool pd,.bool au].toArray 26));obtain ⟨gv,fH⟩:=ab (W.heap.size);have hb1:Below W.heap.size W W1:=by rw [hW1];exact af _ _
 have fo:Has W1 gv [.int .i64 vw,.int .i64 vh,.slice lo n lc,.int .i64 r,.int .i64 c,.bool pd,.bool au] 26:=by rw [hW1,fH];exact Has.new W _ _
 have HV:=aa fo;have HB:=aa hb1;have fj:W.alloc (.cells #[Value.int .i64 vw,.int .i64 vh,.slice lo n lc,.int .i64 r,.int .i64 c,.bool pd,.bool au] 26)=W1:=hW1.symm;have g9:=aa fH;clear hW1 hb1 fo fH hn fh h0 h1 hs hh
 by_cases hU:200<n
 ·have d2:decide ((200:Int)<n)=true:=ag (by omega)
  go_enter Tryd.func4,Tryd.ntmps4
  go_upto_region 1 with (fail)
  rw [<-g9.out];clear fj;have q2:=HV.out.cell 2 _ rfl
  go_wp2_with fail
  refine (bl sa _ (HS.out.below HB.out) (HH.out.keep HB.out)).mono ?_;rintro e w1 ⟨rfl,b1⟩;have fI:=aa (HB.out.trans (b1.mono HB.out.size));have q2:=(HV.out.below b1 HV.out.lt).cell 2 _ rfl;clear b1
  go_wp2_with fail
  refine (bl sa _ (HS.out.below fI.out) (HH.out.keep fI.out)).mono ?_;rintro e w2 ⟨rfl,b2⟩;have gh:=aa (fI.out.trans (b2.mono fI.out.size));clear b2;go_wp2;go_ret;exact ⟨ae,gh.out⟩
 have d2:decide ((200:Int)<n)=false:=ah (by omega)
 go_enter Tryd.func4,Tryd.ntmps4
 go_upto_region 1 with (fail)
 rw [<-g9.out];clear fj
 go_wp2_with fail
 refine (bl sa _ (HS.out.below HB.out) (HH.out.keep HB.out)).mono ?_;rintro e w1 ⟨rfl,b1⟩;have fI:=aa (HB.out.trans (b1.mono HB.out.size));have HV1:=aa (HV.out.below b1 HV.out.lt);have q2:=HV1.out.cell 2 _ rfl;clear b1;go_wp2
 go_loopw [3,4] (fun nv iv wr=>∃ (k:Nat) (s:Int),k<=n/\nv=.int .i64 s/\iv=.int .i64 k/\Below W.heap.size W wr/\Has wr gv [.int .i64 vw,.int .i64 vh,.slice lo n lc,.int .i64 r,.int .i64 c,.bool pd,.bool au] 26) (fun _ iv _=>n - (intOf iv).toNat)
 case atStart=>exact ⟨0,0,Nat.zero_le _,rfl,rfl,fI.out,HV1.out⟩
 case round =>
  obtain ⟨k,s,hk,rfl,rfl,hb,fv⟩:=hrel;obtain ⟨wq,fO⟩:=ab (wr);subst fO;have fb:=aa hb;have fr:=aa fv;have q2:=fv.cell 2 _ rfl;clear hb fv
  by_cases hlt:k<n
  ·obtain ⟨b,off,cv,eo,hb,_,hc0,hc1,hcv⟩:=fS.out k hlt;subst eo;have c0:=(fb.out.cell (p:=⟨b,off+k * 2,none⟩) hb).trans hc0;obtain ⟨co,cc,ecv⟩:=hcv.len;obtain ⟨nk,fA⟩:=ab ((Ls.getD k zl).1.length);rw [<-fA] at ecv;subst ecv;have gx:(k:Int)<(n:Int):=by omega
   have gH:IntKind.i64.wrap ((k:Int)+1)=(k:Int)+1:=by rw [IntKind.wrap_i64];omega
   obtain ⟨s2,hs2⟩:=ab (IntKind.i64.wrap (s+(nk:Int)));have hws:IntKind.i64.wrap (s+(nk:Int))=s2:=hs2.symm;have gy:k<lc:=by omega
   clear hc0 hc1 hb fA hs2 hcv
   by_cases hg:3000<s2
   ·have dg:decide (3000<s2)=true:=ag (by omega);go_wp2;go_ret;exact ⟨ae,fb.out⟩
   ·have dg:decide (3000<s2)=false:=ah (by omega);go_wp2
    go_roundw
    case rel=>exact ⟨k+1,s2,by omega,by go_num,by go_num,fb.out,fr.out⟩
    case measure=>simp [intOf] <;> omega
  ·obtain rfl:k=n:=by omega
   have iZ:=HVA;have k0:=an (fr.out.cell 0 _ rfl);have k1:=an (fr.out.cell 1 _ rfl);have k2:=an (fr.out.cell 2 _ rfl);have k3:=an (fr.out.cell 3 _ rfl);have k4:=an (fr.out.cell 4 _ rfl);have k5:=an (fr.out.cell 5 _ rfl);have k6:=an (fr.out.cell 6 _ rfl);have ic:=aa (fun (u:Growth wq)=>dr sa ⟨vw,vh,Ls,r,c,pd,au⟩ _ (ext wq u) (HS.out.below (aD fb.out u)) (iZ.out.below (aD fb.out u)));have iQ:=aa (fun (u:Growth wq)=>c3 ⟨vw,vh,Ls,r,c,pd,au⟩ _ (ext wq u) (iZ.out.below (aD fb.out u)));have iK:=aa (fun (u:Growth wq)=>dG ⟨vw,vh,Ls,r,c,pd,au⟩ _ (ext wq u) (iZ.out.below (aD fb.out u)));have HX4:=aa (fun (u:Growth wq)=>aD fb.out u);obtain ⟨rv,gE⟩:=ab (aN ⟨vw,vh,Ls,r,c,pd,au⟩);rw [<-gE] at ic iQ iK;unfold a6 at ic iQ iK;simp only at ic iQ iK;have hqq:(rv == rv)=true:=by simp
   clear gE
   go_upto_region 10 with (fail)
   clear q2;refine aC (by kernel_rfl) (by kernel_rfl) ?_
   repeat (go_big_quiet_step ((first | (go_at_call 14;exact cK (ic.out _)) | (go_at_call 18;exact cK (iQ.out _)) | (go_at_call 19;exact cK (iK.out _)))))
   refine wpQuiet_nil ?_;intro _ hw';obtain ⟨u,hw''⟩:=hw';subst hw'';have HF:=aa (HX4.out u);clear k0 k1 k2 k3 k4 k5 k6;go_wp2;go_ret;exact ⟨ae,HF.out⟩
theorem walk{H:Type}{enc:TypeId × Value->H}(W:World)(x:Value){base:Nat}{d:DataW H}{p:List MemPlace}(hv:Value.okWide Tryd.prog W .any base 26 x)(h:DataW.Trod enc Tryd.prog W 0 (fun _=>true) true 26 x d p)(hL:laidMetH Tryd.prog Rows.auditRightRow.laid W):Calls Tryd.prog 4 #[x] W (Yes W):=by
 obtain ⟨hhd,sa,hsa⟩:=F.errs_of_laid hL;obtain ⟨v,lv,rfl,hl,h0,h1⟩:=eG hv h;exact walkN W sa hsa hhd v lv hl h0 h1
theorem door_met(os:Os):laidMetH Tryd.prog Rows.auditRightRow.laid ((World.doorLaid Tryd.prog 400 os).forCall (fun _ _=>0) ⟨#[],#[.agg #[.int .i64 0,.int .i64 0,.slice none 0 0,.int .i64 0,.int .i64 0,.bool false,.bool false]],[]⟩).memory :=
 laidMetH_of_parts3 (fuel:=8) (laidMet_of_run' 8 (by kernel_rfl) (by kernel_rfl)) (by kernel_rfl) (by kernel_rfl)
theorem lifted(os:Os)(started:os.Started)(H:Type)(enc:TypeId × Value->H) :
  ReturnsInHanded {} Tryd.checked os 4 .any (fun w args=>(Rows.auditRightSpec.pre enc Tryd.prog Tryd.f4 [] false w args/\laidMetH Tryd.prog Rows.auditRightRow.laid w)/\sizedMet enc Tryd.prog Tryd.f4 (OpenSpec.ofChange Rows.auditRightSpec) false w args)
   (Rows.auditRightSpec.post enc Tryd.prog Tryd.f4 false true false false):=by
 refine ee (C:=Tryd.checked) (tb:=4) (by kernel_rfl) started (by kernel_rfl) Tryd.func4 (by kernel_rfl) (by kernel_rfl) Tryd.underlying4 rfl
  (by rw [Tryd.params4];intro t ht;simp at ht;subst ht <;> exact ⟨by kernel_rfl,of_decide_eq_true (by kernel_rfl)⟩)
  (by rw [Tryd.params4];intro ds hd;match ds,hd with | [_],_=>rfl)
  (ChangeSpec.witness_shaped (enc:=enc) (C:=Tryd.checked) (os:=os) (X:=fun w _=>laidMetH Tryd.prog Rows.auditRightRow.laid w) false (World.doorLaid Tryd.prog 400 os) #[.agg #[.int .i64 0,.int .i64 0,.slice none 0 0,.int .i64 0,.int .i64 0,.bool false,.bool false]] 8 rfl (World.shaped_of_RefB (by kernel_rfl) (by kernel_rfl)) (by kernel_rfl) (by kernel_rfl) (by kernel_rfl) (door_met os)) ?_
 intro W base args ds before hval hA hsz hL;rw [Tryd.params4] at hA hval;obtain ⟨v0,vs0,d0,ds0,p0,q0,hargs,rfl,rfl,h0,r0⟩:=trodAll_cons hA;obtain ⟨rfl,rfl,rfl⟩:=trodAll_nil r0;obtain rfl:args=#[v0]:=by cases args;simp_all
 exact walk W v0 (hval 0 26 v0 rfl rfl) h0 hL
theorem and_two{a b:Bool}(ha:a=true)(hb:b=true):(a && b)=true:=by rw [ha,hb];rfl
theorem joined:joinedFacts Tryd.pinned.checked.prog 4 Tryd.f4 Rows.auditRightSpec Rows.auditRightRow=true:=by
 unfold joinedFacts
 repeat' (with_reducible refine and_two ?_ ?_)
 all_goals (as_aux_lemma=>kernel_rfl)
theorem said:Rows.AuditRightSaid :=
 OpenClaim.holds_of_wide 4 Tryd.f4 rfl rfl rfl rfl rfl rfl rfl ⟨rfl,rfl,rfl,rfl,rfl⟩ rfl rfl rfl rfl rfl (by kernel_rfl) Tryd.func4 joined
  (of_decide_eq_true (by kernel_rfl)) (by unfold Func.isWrapper;first | (rw [if_pos (by decide +kernel)];kernel_rfl) | (rw [if_neg (by decide +kernel)];exact ⟨rfl,rfl⟩))
  (fun os started H enc _=>lifted os started H enc)
theorem plain (f : FuncId) (fn : Func) (hf : Tryd.pinned.checked.prog.funcNamed "linotype/linotypelaw47.AuditRight" = some f) (hfn : Tryd.pinned.checked.prog.funcs[f]? = some fn) :
  true=Tryd.pinned.checked.prog.looks []/\∀ (j:Nat) t,fn.params[j]? = some t->Tryd.pinned.checked.prog.wantsStandIn t=false:=by
 obtain rfl : f = 4 := Option.some.inj ((show Tryd.prog.funcNamed "linotype/linotypelaw47.AuditRight" = some 4 by kernel_rfl).symm.trans hf) |>.symm
 obtain rfl:fn=Tryd.f4:=(Option.some.inj (Tryd.func4.symm.trans hfn)).symm;refine ⟨by kernel_rfl,fun j t ht=>?_⟩;rw [Tryd.params4] at ht;have hm:t ∈ [26]:=by simpa using Array.mem_of_getElem? ht
 have hall:([26].all fun u=>!Tryd.prog.wantsStandIn u)=true:=by kernel_rfl
 exact (show Tryd.prog.wantsStandIn t=false by simpa using List.all_eq_true.1 hall t hm)
theorem card:Rows.AuditRightCardSaid :=
 Claim7.holds_tied_plain_at .later [] _ _ _ _ said (fun _ h=>by cases h) (by kernel_rfl) (fun _ h=>by cases h) auditRight_row_tie rfl ⟨rfl,rfl⟩ (by kernel_rfl) rfl plain (by kernel_rfl)
#print axioms card
end Go.Proofs.YthdphijabffpiaaDoor.lawAuditRight
