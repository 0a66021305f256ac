import Derived.Test.YthdphijabffpiaaDoorZ0
import Derived.Test.YthdphijabffpiaaDoorMg7
import Derived.Test.YthdphijabffpiaaDoorRflK
import Derived.Test.YthdphijabffpiaaDoorMg3
import Derived.Test.YthdphijabffpiaaDoorMg2
import Derived.Test.YthdphijabffpiaaDoorMg4
import Derived.Test.YthdphijabffpiaaDoorMg1
import Derived.Test.YthdphijabffpiaaDoorCards
import Derived.Test.YthdphijabffpiaaDoorTie
import Derived.ProofKit
import Derived.Lib.MinMax
import Derived.Deep.Cut
set_option maxRecDepth 100000
set_option linter.unusedVariables false
set_option linter.unusedSimpArgs false
set_option maxHeartbeats 8000000
namespace Go.Proofs.YthdphijabffpiaaDoor.lawReflowBreaks
open Go.ChangeShapes Go.WideShapes Go.ChangeAt Go.RowKit
theorem sound_cases(X:List Ln):∃ m,m<=X.length/\(∀ k,k<m->al (X.getD k zl).1=true)/\(m<X.length->al (X.getD m zl).1=false):=by
 have key:∀ n,n<=X.length->∃ m,m<=n/\(∀ k,k<m->al (X.getD k zl).1=true)/\(m<n->al (X.getD m zl).1=false):=by
  intro n
  induction n with
  |zero=>exact fun _=>⟨0,Nat.le_refl _,fun k hk=>absurd hk (Nat.not_lt_zero _),fun h=>absurd h (Nat.lt_irrefl _)⟩
  |succ n ih =>
   intro hn;obtain ⟨m,h1,h2,h3⟩:=ih (by omega)
   by_cases hm:m<n
   ·exact ⟨m,by omega,h2,fun _=>h3 hm⟩
   ·have e:m=n:=by omega
    subst e
    by_cases hb:al (X.getD m zl).1=true
    ·refine ⟨m+1,Nat.le_refl _,fun k hk=>?_,fun h=>absurd h (Nat.lt_irrefl _)⟩
     rcases Nat.lt_or_ge k m with h9 | h9
     ·exact h2 k h9
     ·rw [show k=m by omega];exact hb
    ·exact ⟨m,by omega,h2,fun _=>Bool.eq_false_iff.2 hb⟩
 exact key _ (Nat.le_refl _)
theorem walkGreat(W:World)(lo:Option Addr)(n lc:Nat)(Ls:List Ln)(hv:HeldE lineE (fun b=>b<W.heap.size) W (.slice lo n lc) Ls)(hr:∀ k,k<Ls.length->(Ls.getD k zl).1.length<=4398046511104)(w0:Int)(hg:cm Ls=true):Calls Tryd.prog 5 #[.slice lo n lc,.int .i64 w0] W (Yes W):=by
 have kD:=aa (fun (w':World) (b:Below W.heap.size W w')=>bS _ _ Ls w' (hv.below b) hr);rw [hg] at kD;clear hv hr hg
 go_enter Tryd.func5,Tryd.ntmps5
 go_wp2_with fail
 refine (bp _).mono ?_;rintro e w1 ⟨rfl,b1⟩;have gZ:=aa b1;clear b1
 go_wp2_with fail
 refine (kD.out w1 gZ.out).mono ?_;rintro e w2 ⟨rfl,b2⟩;have hG:=aa (gZ.out.trans (b2.mono gZ.out.size));clear b2
 go_wp2_with fail
 refine (bp _).mono ?_;rintro e w3 ⟨rfl,b3⟩;have iJ:=aa (hG.out.trans (b3.mono hG.out.size));clear b3;go_wp2;go_ret;exact ⟨ae,iJ.out⟩
theorem walkBad(W:World)(sa:Nat->Addr)(iH:F.Sents W sa)(lg:F.Handle W)(lo:Option Addr)(n lc:Nat)(Ls:List Ln)(hv:HeldE lineE (fun b=>b<W.heap.size) W (.slice lo n lc) Ls)(hr:∀ k,k<Ls.length->(Ls.getD k zl).1.length<=4398046511104)(w0:Int)(hg:cm Ls=false)(hl:Ls.length<=100)(m:Nat)(hm:m<Ls.length)(hs:∀ k,k<m->al (Ls.getD k zl).1=true)(hb:al (Ls.getD m zl).1=false):Calls Tryd.prog 5 #[.slice lo n lc,.int .i64 w0] W (Yes W):=by
 have kD:=aa (fun (w':World) (b:Below W.heap.size W w')=>bS _ _ Ls w' (hv.below b) hr);rw [hg] at kD;have ju:=aa iH;have HHD:=aa lg;have jM:=aa (fun (w':World) (b:Below W.heap.size W w')=>eg sa _ _ Ls w' (iH.below b) (hv.below b) (by omega) m hm hs hb);have kY:=aa (fun (w':World) (b:Below W.heap.size W w')=>eL sa _ _ Ls w' w0 (iH.below b) (hv.below b) (by omega) m hm hs hb);have lF:=aa (fun (w':World) (b:Below W.heap.size W w')=>cB _ _ Ls w' (hv.below b) m (by omega) hs (fun _=>hb));rw [if_pos hm] at lF;have hm0:decide ((0:Int)<=(m:Int))=true:=ag (by omega);have HH1:=aa (show [(m:Int)].headD (-1)=(m:Int) from rfl);clear hv hr hg iH lg hs hb hm hl
 go_enter Tryd.func5,Tryd.ntmps5
 go_wp2_with fail
 refine (bp _).mono ?_;rintro e w1 ⟨rfl,b1⟩;have gZ:=aa b1;clear b1
 go_wp2_with fail
 refine (kD.out w1 gZ.out).mono ?_;rintro e w2 ⟨rfl,b2⟩;have hG:=aa (gZ.out.trans (b2.mono gZ.out.size));clear b2
 go_wp2_with fail
 refine (jM.out w2 hG.out).mono ?_;rintro e w3 ⟨u,rfl,he,_,b3⟩;have iJ:=aa (hG.out.trans (b3.mono hG.out.size));have HE3:=aa he;clear b3 he
 go_wp2_with fail
 refine (kY.out w3 iJ.out).mono ?_;rintro e w4 ⟨u2,rfl,he2,b4⟩;have iI:=aa (iJ.out.trans (b4.mono iJ.out.size));have HE4:=aa (HE3.out.keep b4);have HE5:=aa he2;clear b4 he2 HE3
 go_wp2_with fail
 refine (lF.out w4 iI.out).mono ?_;rintro e w5 ⟨rfl,b5⟩;have iM:=aa (iI.out.trans (b5.mono iI.out.size));have mU:=aa (show F.ErrV sa w5 u [(m:Int)] 5 from .inr (HE4.out.keep b5));have HE7:=aa (show F.ErrV sa w5 u2 [(m:Int)] 5 from .inr (HE5.out.keep b5));clear b5 HE4 HE5
 go_wp2_with fail
 refine (F.code_any sa w5 (ju.out.below iM.out) u _ 5 mU.out).mono ?_;rintro e w6 ⟨rfl,rfl⟩;have j2:=aa (F.at_any sa w5 (HHD.out.keep iM.out) u _ 5 mU.out);rw [HH1.out] at j2
 go_wp2_with fail
 refine (j2.out).mono ?_;rintro e w7 ⟨rfl,b7⟩;have j5:=aa (iM.out.trans (b7.mono iM.out.size));have HE8:=aa (HE7.out.below b7);clear b7 mU HE7 j2
 go_wp2_with fail
 refine (F.code_any sa w7 (ju.out.below j5.out) u2 _ 5 HE8.out).mono ?_;rintro e w8 ⟨rfl,rfl⟩;have j2:=aa (F.at_any sa w7 (HHD.out.keep j5.out) u2 _ 5 HE8.out);rw [HH1.out] at j2
 go_wp2_with fail
 refine (j2.out).mono ?_;rintro e w9 ⟨rfl,b9⟩;have HB9:=aa (j5.out.trans (b9.mono j5.out.size));clear b9;go_wp2;go_ret;exact ⟨ae,HB9.out⟩
theorem walkGood(W:World)(lo:Option Addr)(n lc:Nat)(Ls:List Ln)(hv:HeldE lineE (fun b=>b<W.heap.size) W (.slice lo n lc) Ls)(hr:∀ k,k<Ls.length->(Ls.getD k zl).1.length<=4398046511104)(w0:Int)(hg:cm Ls=false)(hl:Ls.length<=100)(ht:aC Ls Ls.length<=1500)(hs:∀ k,k<Ls.length->al (Ls.getD k zl).1=true):Calls Tryd.prog 5 #[.slice lo n lc,.int .i64 w0] W (Yes W):=by
 have kD:=aa (fun (w':World) (b:Below W.heap.size W w')=>bS _ _ Ls w' (hv.below b) hr);rw [hg] at kD;have jM:=aa (fun (w':World) (b:Below W.heap.size W w')=>fp _ Ls w' ((hv.below b).zone fun x hx _=>hx) (by omega) (by omega) hs);have kY:=aa (fun (w':World) (b:Below W.heap.size W w')=>dE _ Ls w0 w' ((hv.below b).zone fun x hx _=>hx) (by omega) (by omega) hs);have lF:=aa (fun (w':World) (b:Below W.heap.size W w')=>cB _ _ Ls w' (hv.below b) Ls.length (Nat.le_refl _) hs (fun h=>absurd h (Nat.lt_irrefl _)));rw [if_neg (Nat.lt_irrefl _)] at lF;have HRL:=aa (fun (w':World) (b:Below W.heap.size W w')=>c6 _ Ls w' ((hv.below b).zone fun x hx _=>hx) (by omega) (by omega));have ku:=aa (fun (w':World) (b:Below W.heap.size W w')=>ed _ Ls w0 w' ((hv.below b).zone fun x hx _=>hx) (by omega) (by omega));have jk:(aY Ls).length<=100:=by have:=(br Ls Ls.length).1;unfold aY;omega
 obtain ⟨A,hA⟩:=ab (aY Ls);obtain ⟨M,hM⟩:=ab (bK (wdN w0) Ls);rw [<-hA] at jM HRL jk;rw [<-hM] at kY ku;obtain ⟨na,nf⟩:=ab (A.length);rw [<-nf] at jk;have mH:=aa nf;clear hv hr hg hs hl ht hA hM nf
 go_enter Tryd.func5,Tryd.ntmps5
 go_wp2_with fail
 refine (bp _).mono ?_;rintro e w1 ⟨rfl,b1⟩;have gZ:=aa b1;clear b1
 go_wp2_with fail
 refine (kD.out w1 gZ.out).mono ?_;rintro e w2 ⟨rfl,b2⟩;have hG:=aa (gZ.out.trans (b2.mono gZ.out.size));clear b2
 go_wp2_with fail
 refine (jM.out w2 hG.out).mono ?_;rintro e w3 ⟨u,rfl,ho,b3⟩;have iJ:=aa (hG.out.trans (b3.mono hG.out.size));have m8:=aa (ho.held (fun _ _ _=>trivial));obtain ⟨uo,uc,eu⟩:=m8.out.len;rw [<-mH.out] at eu;subst eu;clear b3 ho
 go_wp2_with fail
 refine (kY.out w3 iJ.out).mono ?_;rintro e w4 ⟨q,rfl,hq,b4⟩;have iI:=aa (iJ.out.trans (b4.mono iJ.out.size));have HU4:=aa (m8.out.below b4);have HQ4:=aa (hq.held (fun _ hb _=>hb));clear b4 hq m8
 go_wp2_with fail
 refine (lF.out w4 iI.out).mono ?_;rintro e w5 ⟨rfl,b5⟩;have iM:=aa (iI.out.trans (b5.mono iI.out.size));have HU5:=aa (HU4.out.below b5);have HQ5:=aa (HQ4.out.below b5);clear b5 HU4 HQ4
 go_wp2_with fail
 refine (HRL.out w5 iM.out).mono ?_;rintro e w6 ⟨z,rfl,hz,b6⟩;obtain ⟨zo,zc,ez⟩:=hz.len;rw [<-mH.out] at ez;subst ez;have kg:=aa (iM.out.trans (b6.mono iM.out.size));have HU6:=aa (HU5.out.below b6);have HQ6:=aa (HQ5.out.below b6);have HZ6:=aa hz;clear b6 HU5 HQ5 hz
 go_wp2_with fail
 refine (ku.out w6 kg.out).mono ?_;rintro e w7 ⟨s,rfl,hs7,b7⟩;have j5:=aa (kg.out.trans (b7.mono kg.out.size));have HU7:=aa (HU6.out.below b7);have HZ7:=aa (HZ6.out.below b7);have HSM:=aa (dt _ _ _ _ M M w7 (HQ6.out.below b7) hs7);rw [dr] at HSM;clear b7 HU6 HQ6 HZ6 hs7
 go_wp2_with fail
 refine (HSM.out).mono ?_;rintro e w8 ⟨rfl,b8⟩;have ls:=aa (j5.out.trans (b8.mono j5.out.size));have HU8:=aa (HU7.out.below b8);have HZ8:=aa (HZ7.out.below b8);have HUS:=aa (aV HU8.out).2.2;have HZS:=aa (aV HZ8.out).2.2;have huc:=(aV HU8.out).2.1;have hzc:=(aV HZ8.out).2.1;clear b8 HU7 HZ7;go_wp2
 go_loopw [11] (fun iv wr=>∃ k:Nat,k<=na/\iv=.int .i64 k/\Below w8.heap.size w8 wr) (fun iv _=>na - (intOf iv).toNat)
 case atStart=>exact ⟨0,Nat.zero_le _,rfl,Below.refl _ _⟩
 case round =>
  obtain ⟨k,hk,rfl,g3⟩:=hrel;obtain ⟨wo,jS⟩:=ab (wr);subst jS;have gW:=aa g3
  by_cases hkn:k<na
  ·have d1:(k:Int)<(na:Int):=by omega
   have d1b:decide ((k:Int)<(na:Int))=true:=ag (by omega);obtain ⟨b,off,x,e0,hb,c0,hx⟩:=HUS.out k (by rw [<-mH.out];exact hkn);obtain ⟨b2,off2,y,e2,hb2,c2,hy⟩:=HZS.out k (by rw [<-mH.out];exact hkn);subst e0;subst e2;have c0:=aw ((g3.cell (p:=⟨b,off+k,none⟩) hb).trans c0);have c2:=aw ((g3.cell (p:=⟨b2,off2+k,none⟩) hb2).trans c2);have ju:=aa (show ∀ g:Growth wo,_ from fun g=>fm _ _ x y _ _ (ext wo g) ((hx.below g3).below g.ok) ((hy.below g3).below g.ok));have mz:=aa (eW (A.getD k []));rw [mz.out] at ju;have hku:k<uc:=by omega
   have kF:k<zc:=by omega
   clear hb hb2 hx hy g3
   go_upto_region 14 with (fail)
   refine aq (by kernel_rfl) (by kernel_rfl) ?_
   repeat (go_big_quiet_step ((go_at_call 28;exact dq (ju.out _))))
   refine wpQuiet_nil ?_;intro _ hw';obtain ⟨u,hw''⟩:=hw';subst hw'';have HF:=aa (aG gW.out u);clear c0 c2 ju;go_wp2
   go_roundw
   case rel=>exact ⟨k+1,by omega,by go_num,HF.out⟩
   case measure=>simp [intOf] <;> omega
  ·obtain rfl:k=na:=by omega
   have d1:¬ (k:Int)<(k:Int):=by omega
   have d1b:decide ((k:Int)<(k:Int))=false:=ah (by omega);have HF:=aa (ls.out.trans (gW.out.mono ls.out.size));clear hkn g3;go_wp2;go_ret;exact ⟨ae,HF.out⟩
theorem walkN(W:World)(sa:Nat->Addr)(iH:F.Sents W sa)(lg:F.Handle W)(v:Value)(Ls:List Ln)(hv:HeldE lineE (fun b=>b<W.heap.size) W v Ls)(hr:∀ k,k<Ls.length->(Ls.getD k zl).1.length<=4398046511104)(w0:Int):Calls Tryd.prog 5 #[v,.int .i64 w0] W (Yes W):=by
 obtain ⟨lo,lc,rfl⟩:=hv.len
 cases hg:cm Ls with
 |true=>exact walkGreat W lo _ lc Ls hv hr w0 hg
 |false =>
  have h2:=hg;unfold cm at h2;rw [Bool.or_eq_false_iff,decide_eq_false_iff_not,decide_eq_false_iff_not] at h2;obtain ⟨m,h3,h4,h5⟩:=sound_cases Ls
  by_cases hm:m<Ls.length
  ·exact walkBad W sa iH lg lo _ lc Ls hv hr w0 hg (by omega) m hm h4 (h5 hm)
  ·obtain rfl:m=Ls.length:=by omega
   exact walkGood W lo _ lc Ls hv hr w0 hg (by omega) (by omega) h4
theorem walk{H:Type}{enc:TypeId × Value->H}(W:World)(x:Value){bs0:Nat}{d0:DataW H}{p0:List MemPlace}(hx:Value.okWide Tryd.prog W .any bs0 22 x)(h0:DataW.Trod enc Tryd.prog W 0 (fun _=>true) true 22 x d0 p0)(y:Int)(hy:(Lit.int .i64 y).wf=true){d1:DataW H}(hL:laidMetH Tryd.prog Rows.reflowBreaksRow.laid W)(hsz:(DataW.weightsEach Tryd.prog (#[22,3].toList++Rows.reflowBreaksSpec.plain.varTypes Tryd.prog) ([d0,d1]++[])).all (· <= reachBytes)=true):Calls Tryd.prog 5 #[x,.int .i64 y] W (Yes W):=by
 obtain ⟨lg,sa,iH⟩:=F.errs_of_laid hL;have hw:∀ z ∈ d0.weights Tryd.prog 22,z<=reachBytes:=by
  simp only [List.all_eq_true,DataW.weightsEach,List.cons_append,List.nil_append] at hsz;intro z hz;exact of_decide_eq_true (hsz z (List.mem_append.2 (.inl hz)))
 obtain ⟨Ls,hl,hr⟩:=fg hx h0 hw;exact walkN W sa iH lg x Ls hl hr y
theorem door_met(os:Os):laidMetH Tryd.prog Rows.reflowBreaksRow.laid ((World.doorLaid Tryd.prog 400 os).forCall (fun _ _=>0) ⟨#[],#[.slice none 0 0,.int .i64 0],[]⟩).memory :=
 laidMetH_of_parts3 (fuel:=8) (laidMet_of_run' 8 (by kernel_rfl) (by kernel_rfl)) (by kernel_rfl) (by kernel_rfl)
theorem lifted(os:Os)(started:os.Started)(H:Type)(enc:TypeId × Value->H) :
  ReturnsInHanded {} Tryd.checked os 5 .any (fun w args=>(Rows.reflowBreaksSpec.pre enc Tryd.prog Tryd.f5 [] false w args/\laidMetH Tryd.prog Rows.reflowBreaksRow.laid w)/\sizedMet enc Tryd.prog Tryd.f5 (OpenSpec.ofChange Rows.reflowBreaksSpec) false w args)
   (Rows.reflowBreaksSpec.post enc Tryd.prog Tryd.f5 false true false false):=by
 refine fU (C:=Tryd.checked) (tb:=4) (by kernel_rfl) started (by kernel_rfl) Tryd.func5 (by kernel_rfl) (by kernel_rfl) Tryd.underlying4 rfl
  (by rw [Tryd.params5];intro t ht;simp at ht;rcases ht with rfl | rfl <;> exact ⟨by kernel_rfl,of_decide_eq_true (by kernel_rfl)⟩)
  (by rw [Tryd.params5];intro ds hd;match ds,hd with | [_,_],_=>rfl)
  (ChangeSpec.witness_shaped (enc:=enc) (C:=Tryd.checked) (os:=os) (X:=fun w _=>laidMetH Tryd.prog Rows.reflowBreaksRow.laid w) false (World.doorLaid Tryd.prog 400 os) #[.slice none 0 0,.int .i64 0] 8 rfl (World.shaped_of_RefB (by kernel_rfl) (by kernel_rfl)) (by kernel_rfl) (by kernel_rfl) (by kernel_rfl) (door_met os)) ?_
 intro W base args ds before hval hA hsz hL;rw [Tryd.params5] at hA hval hsz;obtain ⟨v0,vs0,d0,ds0,p0,q0,hargs,rfl,rfl,h0,r0⟩:=trodAll_cons hA;obtain ⟨v1,vs1,d1,ds1,p1,q1,rfl,rfl,rfl,h1,r1⟩:=trodAll_cons r0;obtain ⟨rfl,rfl,rfl⟩:=trodAll_nil r1;obtain rfl:args=#[v0,v1]:=by cases args;simp_all
 obtain ⟨x1,rfl,rfl,rfl,wx1⟩:=open_int Tryd.underlying3 (hval 1 3 v1 rfl rfl) h1;exact walk W v0 (hval 0 22 v0 rfl rfl) h0 x1 wx1 hL hsz
theorem and_two{a b:Bool}(ha:a=true)(hb:b=true):(a && b)=true:=by rw [ha,hb];rfl
theorem joined:joinedFacts Tryd.pinned.checked.prog 5 Tryd.f5 Rows.reflowBreaksSpec Rows.reflowBreaksRow=true:=by
 unfold joinedFacts
 repeat' (with_reducible refine and_two ?_ ?_)
 all_goals (as_aux_lemma=>kernel_rfl)
theorem said:Rows.ReflowBreaksSaid :=
 OpenClaim.holds_of_wide 5 Tryd.f5 rfl rfl rfl rfl rfl rfl rfl ⟨rfl,rfl,rfl,rfl,rfl⟩ rfl rfl rfl rfl rfl (by kernel_rfl) Tryd.func5 joined
  (of_decide_eq_true (by kernel_rfl)) (by unfold Func.isWrapper;first | (rw [if_pos (by decide +kernel)];kernel_rfl) | (rw [if_neg (by decide +kernel)];exact ⟨rfl,rfl⟩))
  (fun os started H enc _=>lifted os started H enc)
theorem plain (f : FuncId) (fn : Func) (hf : Tryd.pinned.checked.prog.funcNamed "linotype/linotypelaw51.ReflowBreaks" = some f) (hfn : Tryd.pinned.checked.prog.funcs[f]? = some fn) :
  true=Tryd.pinned.checked.prog.looks []/\∀ (j:Nat) t,fn.params[j]? = some t->Tryd.pinned.checked.prog.wantsStandIn t=false:=by
 obtain rfl : f = 5 := Option.some.inj ((show Tryd.prog.funcNamed "linotype/linotypelaw51.ReflowBreaks" = some 5 by kernel_rfl).symm.trans hf) |>.symm
 obtain rfl:fn=Tryd.f5:=(Option.some.inj (Tryd.func5.symm.trans hfn)).symm;refine ⟨by kernel_rfl,fun j t ht=>?_⟩;rw [Tryd.params5] at ht;have hm:t ∈ [22,3]:=by simpa using Array.mem_of_getElem? ht
 have hall:([22,3].all fun u=>!Tryd.prog.wantsStandIn u)=true:=by kernel_rfl
 exact (show Tryd.prog.wantsStandIn t=false by simpa using List.all_eq_true.1 hall t hm)
theorem card:Rows.ReflowBreaksCardSaid :=
 Claim7.holds_tied_plain_at .later [] _ _ _ _ said (fun _ h=>by cases h) (by kernel_rfl) (fun _ h=>by cases h) reflowBreaks_row_tie rfl ⟨rfl,rfl⟩ (by kernel_rfl) rfl plain (by kernel_rfl)
#print axioms card
end Go.Proofs.YthdphijabffpiaaDoor.lawReflowBreaks
