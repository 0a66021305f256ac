import Derived.Test.YthdphijabffpiaaDoorZ0
import Derived.Test.YthdphijabffpiaaDoorMg7
import Derived.Test.YthdphijabffpiaaDoorMg5
import Derived.Test.YthdphijabffpiaaDoorRflH
import Derived.Test.YthdphijabffpiaaDoorItmC
import Derived.Test.YthdphijabffpiaaDoorCellS
import Derived.Test.YthdphijabffpiaaDoorMg2
import Derived.Test.YthdphijabffpiaaDoorMg1
import Derived.Test.YthdphijabffpiaaDoorCards
import Derived.Test.YthdphijabffpiaaDoorTie
import Derived.ProofKit
import Derived.Lib.MinMax
import Derived.Deep.Cut
set_option maxRecDepth 100000
set_option linter.unusedVariables false
set_option linter.unusedSimpArgs false
set_option maxHeartbeats 8000000
namespace Go.Proofs.YthdphijabffpiaaDoor.lawReflowItems
open Go.ChangeShapes Go.WideShapes Go.ChangeAt Go.RowKit
theorem items_arg{H:Type}{enc:TypeId × Value->H}{W:World}{base:Nat}{v:Value}{d:DataW H}{p:List MemPlace}(hv:Value.okWide Tryd.prog W .any base 53 v)(h:DataW.Trod enc Tryd.prog W 0 (fun _=>true) true 53 v d p):∃ L,HeldE cellE (fun b=>b<W.heap.size) W v L:=by
 obtain ⟨L,hL,_⟩:=e9 (E:=cellE) Tryd.underlying53 (by kernel_rfl) (by decide) (em Tryd.underlying59 (by kernel_rfl) rfl rfl (dn Tryd.underlying3 (by kernel_rfl)) (cA Tryd.underlying57 (by kernel_rfl) (by decide) (dn Tryd.underlying21 (by kernel_rfl)))) hv h;exact ⟨L,hL⟩
theorem walkBad(W:World)(sa:Nat->Addr)(ic:F.Sents W sa)(jS:F.Handle W)(xo:Option Addr)(n xc:Nat)(X:List Cl)(hn:n=X.length)(hv:HeldE cellE (fun b=>b<W.heap.size) W (.slice xo n xc) X)(w0:Int)(h3:n<=300)(m:Nat)(hm:m<X.length)(hr:∀ k,k<m->ap (X.getD k zc)=true)(hb:ap (X.getD m zc)=false):Calls Tryd.prog 6 #[.slice xo n xc,.int .i64 w0] W (Yes W):=by
 have jq:=aa ic;have HHD:=aa jS;have HV:=aa hv;have gS:=(az hv).2.1;have iG:=aa (az hv).2.2;have HR:=aa hr;have ia:=aa hb;have HM:=aa hm;have iF:=aa (fun (w':World) (b:Below W.heap.size W w')=>eV sa _ _ X w' (ic.below b) (hv.below b) (by omega) w0 m hm hr hb);have hmn:m<n:=by omega
 have jc:decide ((300:Int)<(n:Int))=false:=ah (by omega);clear ic jS hv hr hb hm hn
 go_enter Tryd.func6,Tryd.ntmps6
 go_wp2_with fail
 refine (bc _).mono ?_;rintro e w1 ⟨rfl,b1⟩;have gG:=aa b1;clear b1
 go_wp2_with fail
 refine (iF.out w1 gG.out).mono ?_;rintro e w2 ⟨u,rfl,he,b2⟩;have gH:=aa (gG.out.trans (b2.mono gG.out.size));have HE:=aa he;clear he b2 jc iF gG;go_wp2
 go_loopw [7] (fun iv wr=>∃ k:Nat,k<=m/\iv=.int .i64 k/\Below W.heap.size W wr/\F.IsErr sa wr u [(m:Int)] 5) (fun iv _=>m - (intOf iv).toNat)
 case atStart=>exact ⟨0,Nat.zero_le _,rfl,gH.out,HE.out⟩
 case round =>
  obtain ⟨k,hk,rfl,gF,he⟩:=hrel;obtain ⟨wo,jd⟩:=ab (wr);subst jd;have gD:=aa gF;have iU:=aa he;have iw:k<n:=by omega
  have d1:(k:Int)<(n:Int):=by omega
  have d1b:decide ((k:Int)<(n:Int))=true:=ag (by omega);obtain ⟨b,off,tv,e0,hb,_,c0,c1,hh⟩:=iG.out k (by have:=HM.out;omega);subst e0;have gU:k<m->ap (X.getD k zc)=true:=HR.out k;have jN:k=m->ap (X.getD k zc)=false:=fun e=>by rw [e];exact ia.out
  obtain ⟨⟨K,T⟩,gK⟩ : ∃ y,y=X.getD k zc:=⟨_,rfl⟩;rw [<-gK] at c0 hh gU jN;simp only at c0 hh;obtain ⟨tx,tc,etv⟩:=hh.len;subst etv;have c0:=(gF.cell (p:=⟨b,off+k * 2,none⟩) hb).trans c0;have c1:=(gF.cell (p:=⟨b,off+k * 2+1,none⟩) hb).trans c1;have il:=aa (cF K _ T wo (hh.below gF).ints hh.max);have ji:k<xc:=by omega
  clear gK hb hh gF he
  by_cases jw:k<m
  ·rw [gU jw] at il;clear gU jN
   go_wp2_with fail
   refine (il.out).mono ?_;rintro e w3 ⟨rfl,b3⟩;have HF:=aa (And.intro (gD.out.trans (b3.mono gD.out.size)) (iU.out.keep b3));clear b3 c0 c1;go_wp2
   go_roundw
   case rel=>exact ⟨k+1,by omega,by go_num,HF.out⟩
   case measure=>simp [intOf] <;> omega
  ·have jw:k=m:=by omega
   rw [jN jw] at il;have HKM:=aa (show [(m:Int)].headD (-1)=(k:Int) from by rw [jw];rfl);clear gU jN jw
   go_wp2_with fail
   refine (il.out).mono ?_;rintro e w3 ⟨rfl,b3⟩;have ij:=aa (gD.out.trans (b3.mono gD.out.size));have HE3:=aa (show F.ErrV sa w3 u [(m:Int)] 5 from .inr (iU.out.keep b3));have kg:=aa (F.code_any sa w3 (jq.out.below ij.out) u _ 5 HE3.out);have kW:=aa (F.at_any sa w3 (HHD.out.keep ij.out) u _ 5 HE3.out);rw [HKM.out] at kW;clear b3 c0 c1 HE iU
   go_wp2_with fail
   refine (kg.out).mono ?_;rintro e w4 ⟨rfl,rfl⟩
   go_wp2_with fail
   refine (kW.out).mono ?_;rintro e w5 ⟨rfl,b5⟩;have HF:=aa (ij.out.trans (b5.mono ij.out.size));clear b5;go_wp2;go_ret;exact ⟨ae,HF.out⟩
theorem walkGood(W:World)(xo:Option Addr)(n xc:Nat)(X:List Cl)(hn:n=X.length)(hv:HeldE cellE (fun b=>b<W.heap.size) W (.slice xo n xc) X)(w0:Int)(h3:n<=300)(hr:∀ k,k<X.length->ap (X.getD k zc)=true):Calls Tryd.prog 6 #[.slice xo n xc,.int .i64 w0] W (Yes W):=by
 have HV:=aa hv;have gS:=(az hv).2.1;have iG:=aa (az hv).2.2;have HR:=aa hr;have HN:=aa hn;have iF:=aa (fun (w':World) (b:Below W.heap.size W w')=>dR _ X w0 w' ((hv.below b).zone fun x hx _=>hx) (by omega) hr);have kr:=aa (fun (w':World) (b:Below W.heap.size W w')=>eH _ X w0 w' ((hv.below b).zone fun x hx _=>hx) (by omega));have jc:decide ((300:Int)<(n:Int))=false:=ah (by omega);obtain ⟨wd,hwd⟩:=ab (wdN w0);have jn:max 1 (min w0 1024)=(wd:Int):=by rw [hwd];unfold wdN;omega
 have HWI:=aa jn;have gP:1<=wd:=by rw [hwd];unfold wdN;omega
 rw [<-hwd] at iF kr;have kF:=fx wd X gP hr;have hbl:=dz wd X gP;obtain ⟨Y,hY⟩:=ab (aL wd X);rw [<-hY] at iF kr kF hbl;obtain ⟨ny,lV⟩:=ab (Y.length);rw [<-lV] at kF hbl;have HNY:=aa lV;have HBF:=aa kF.2;have hny0:0<ny:=kF.1;have hny1:ny<=301:=by omega
 clear hv hr hn jn hwd hY lV kF hbl
 go_enter Tryd.func6,Tryd.ntmps6
 go_wp2_with fail
 refine (bc _).mono ?_;rintro e w1 ⟨rfl,b1⟩;have gG:=aa b1;clear b1
 go_wp2_with fail
 refine (iF.out w1 gG.out).mono ?_;rintro e w2 ⟨u,rfl,ho,b2⟩;have HU:=aa (ho.held (Z:=fun b=>w1.heap.size<=b) (fun b hb _=>hb));obtain ⟨uo,uc,eu⟩:=HU.out.len;rw [<-HNY.out] at eu;subst eu;have hcu:=(bA HU.out).2.1;have gH:=aa (gG.out.trans (b2.mono gG.out.size));clear ho b2 jc iF gG;go_wp2
 go_loopw [7] (fun iv wr=>∃ k:Nat,k<=n/\iv=.int .i64 k/\Below W.heap.size W wr/\HeldE lineE (fun b=>w1.heap.size<=b) wr (.slice uo ny uc) Y) (fun iv _=>n - (intOf iv).toNat)
 case atStart=>exact ⟨0,Nat.zero_le _,rfl,gH.out,HU.out⟩
 case round =>
  obtain ⟨k,hk,rfl,gF,he⟩:=hrel;obtain ⟨wo,jd⟩:=ab (wr);subst jd;have gD:=aa gF;have iU:=aa he;clear HU gH
  by_cases iw:k<n
  ·have d1:(k:Int)<(n:Int):=by omega
   have d1b:decide ((k:Int)<(n:Int))=true:=ag (by omega);have jL:k<X.length:=by rw [<-HN.out];exact iw
   obtain ⟨b,off,tv,e0,hb,_,c0,c1,hh⟩:=iG.out k jL;subst e0;have gU:=HR.out k jL;obtain ⟨⟨K,T⟩,gK⟩ : ∃ y,y=X.getD k zc:=⟨_,rfl⟩;rw [<-gK] at c0 hh gU;simp only at c0 hh;obtain ⟨tx,tc,etv⟩:=hh.len;subst etv;have c0:=(gF.cell (p:=⟨b,off+k * 2,none⟩) hb).trans c0;have c1:=(gF.cell (p:=⟨b,off+k * 2+1,none⟩) hb).trans c1;have il:=aa (cF K _ T wo (hh.below gF).ints hh.max);have ji:k<xc:=by omega
   rw [gU] at il;clear gK hb hh gF he gU jL
   go_wp2_with fail
   refine (il.out).mono ?_;rintro e w3 ⟨rfl,b3⟩;have HF:=aa (And.intro (gD.out.trans (b3.mono gD.out.size)) (iU.out.below b3));clear b3 c0 c1;go_wp2
   go_roundw
   case rel=>exact ⟨k+1,by omega,by go_num,HF.out⟩
   case measure=>simp [intOf] <;> omega
  ·obtain rfl:k=n:=by omega
   have d1:¬ (k:Int)<(k:Int):=by omega
   have d1b:decide ((k:Int)<(k:Int))=false:=ah (by omega);clear iw gF he
   go_wp2_with fail
   refine (kr.out wo gD.out).mono ?_;rintro e w4 ⟨q,rfl,hq,b4⟩;have HS:=aa (c5 _ _ _ _ Y Y w4 (iU.out.below b4) hq);rw [cZ] at HS;have g2:=aa (gD.out.trans (b4.mono gD.out.size));have HU4:=aa (iU.out.below b4);clear hq b4
   go_wp2_with fail
   refine (HS.out).mono ?_;rintro e w5 ⟨rfl,b5⟩;have hU:=aa (g2.out.trans (b5.mono g2.out.size));have HU5:=aa (HU4.out.below b5);clear b5 HS g2 HU4 iU gD;go_wp2
   go_loopw [8] (fun iv wr=>∃ j:Nat,j<=ny/\iv=.int .i64 j/\Below W.heap.size W wr/\HeldE lineE (fun b=>w1.heap.size<=b) wr (.slice uo ny uc) Y) (fun iv _=>ny - (intOf iv).toNat)
   case atStart=>exact ⟨0,Nat.zero_le _,rfl,hU.out,HU5.out⟩
   case round =>
    obtain ⟨j,hj,rfl,gF,he⟩:=hrel;obtain ⟨wp,jF⟩:=ab (wr);subst jF;have gD:=aa gF;have iU:=aa he;clear HU5 hU
    by_cases hjn:j<ny
    ·have d2:(j:Int)<(ny:Int):=by omega
     have d2b:decide ((j:Int)<(ny:Int))=true:=ag (by omega);obtain ⟨b,off,tv,e0,hb,_,c0,c1,hh⟩:=(bA he).2.2 j (by rw [<-HNY.out];exact hjn);subst e0;have hf:=HBF.out j hjn;obtain ⟨⟨C,g⟩,iW⟩ : ∃ y,y=Y.getD j zl:=⟨_,rfl⟩;rw [<-iW] at c1 hh hf;simp only at c1 hh hf;obtain ⟨hf1,hf2,hf3⟩:=hf;obtain ⟨tx,tc,etv⟩:=hh.len;rw [hf1] at etv;subst etv;have hwn:((wd:Int) != max 1 (min w0 1024))=false:=by rw [HWI.out];simp
     have i8:=aa (ey _ _ C wp hh);rw [<-ci,hf2] at i8;have hju:j<uc:=by omega
     have lk:IntKind.i64.wrap ((j:Int)+1)=(j:Int)+1:=by rw [IntKind.wrap_i64];omega
     have hlt:decide ((j:Int)+1<(ny:Int))=decide (j+1<ny):=by
      by_cases h:j+1<ny
      ·rw [decide_eq_true h,decide_eq_true_eq];omega
      ·rw [decide_eq_false h,decide_eq_false_iff_not];omega
     have HG:=aa (show (g != decide ((j:Int)+1<(ny:Int)))=false from by rw [hf3,hlt];simp);have hb2:=hb;clear iW hf1 hf2 hf3 hlt hb hh he gF
     go_upto_region 14 with (fail)
     go_wp2_with fail
     refine i8.out.mono ?_;rintro e w6 ⟨rfl,b6⟩;have jD:=aa (gD.out.trans (b6.mono gD.out.size));have HU6:=aa (iU.out.below b6);have c1:=(b6.cell (p:=⟨b,off+j * 2+1,none⟩) hb2).trans c1;have iC:=HG.out;have iS:(!g == decide ((j:Int)+1<(ny:Int)))=false:=by revert iC;cases g <;> cases decide ((j:Int)+1<(ny:Int)) <;> decide
     clear b6 c0;go_wp2
     go_roundw
     case rel=>exact ⟨j+1,by omega,by go_num,jD.out,HU6.out⟩
     case measure=>simp [intOf] <;> omega
    ·obtain rfl:j=ny:=by omega
     have d2:¬ (j:Int)<(j:Int):=by omega
     have d2b:decide ((j:Int)<(j:Int))=false:=ah (by omega);have d3:decide ((0:Int)<(j:Int))=true:=ag (by omega);clear hjn he gF;go_wp2;go_ret;exact ⟨ae,gD.out⟩
theorem walkN(W:World)(sa:Nat->Addr)(ic:F.Sents W sa)(jS:F.Handle W)(v:Value)(X:List Cl)(hv:HeldE cellE (fun b=>b<W.heap.size) W v X)(w0:Int):Calls Tryd.prog 6 #[v,.int .i64 w0] W (Yes W):=by
 obtain ⟨xo,xc,rfl⟩:=hv.len
 by_cases h3:X.length<=300
 ·rcases ef X with hr | ⟨m,hm,hr,hb⟩
  ·exact walkGood W xo _ xc X rfl hv w0 h3 hr
  ·exact walkBad W sa ic jS xo _ xc X rfl hv w0 h3 m hm hr hb
 ·obtain ⟨n,hn⟩ : ∃ n,n=X.length:=⟨_,rfl⟩;rw [<-hn] at h3 ⊢;have jc:decide ((300:Int)<(n:Int))=true:=ag (by omega);clear hn h3 hv ic jS
  go_enter Tryd.func6,Tryd.ntmps6
  go_wp2_with fail
  refine (bc _).mono ?_;rintro e w1 ⟨rfl,b1⟩
  go_wp2_with fail
  refine (bc _).mono ?_;rintro e w2 ⟨rfl,b2⟩;have b2:=b1.trans (b2.mono b1.size);go_wp2;go_ret;exact ⟨ae,b2⟩
theorem walk{H:Type}{enc:TypeId × Value->H}(W:World)(x:Value){bs0:Nat}{d0:DataW H}{p0:List MemPlace}(hx:Value.okWide Tryd.prog W .any bs0 53 x)(h0:DataW.Trod enc Tryd.prog W 0 (fun _=>true) true 53 x d0 p0)(y:Int)(hy:(Lit.int .i64 y).wf=true)(hL:laidMetH Tryd.prog Rows.reflowItemsRow.laid W):Calls Tryd.prog 6 #[x,.int .i64 y] W (Yes W):=by
 obtain ⟨jS,sa,ic⟩:=F.errs_of_laid hL;obtain ⟨X,hX⟩:=items_arg hx h0;exact walkN W sa ic jS x X hX y
theorem door_met(os:Os):laidMetH Tryd.prog Rows.reflowItemsRow.laid ((World.doorLaid Tryd.prog 400 os).forCall (fun _ _=>0) ⟨#[],#[.slice none 0 0,.int .i64 0],[]⟩).memory :=
 laidMetH_of_parts3 (fuel:=8) (laidMet_of_run' 8 (by kernel_rfl) (by kernel_rfl)) (by kernel_rfl) (by kernel_rfl)
theorem lifted(os:Os)(started:os.Started)(H:Type)(enc:TypeId × Value->H) :
  ReturnsInHanded {} Tryd.checked os 6 .any (fun w args=>(Rows.reflowItemsSpec.pre enc Tryd.prog Tryd.f6 [] false w args/\laidMetH Tryd.prog Rows.reflowItemsRow.laid w)/\sizedMet enc Tryd.prog Tryd.f6 (OpenSpec.ofChange Rows.reflowItemsSpec) false w args)
   (Rows.reflowItemsSpec.post enc Tryd.prog Tryd.f6 false true false false):=by
 refine fw (C:=Tryd.checked) (tb:=4) (by kernel_rfl) started (by kernel_rfl) Tryd.func6 (by kernel_rfl) (by kernel_rfl) Tryd.underlying4 rfl
  (by rw [Tryd.params6];intro t ht;simp at ht;rcases ht with rfl | rfl <;> exact ⟨by kernel_rfl,of_decide_eq_true (by kernel_rfl)⟩)
  (by rw [Tryd.params6];intro ds hd;match ds,hd with | [_,_],_=>rfl)
  (ChangeSpec.witness_shaped (enc:=enc) (C:=Tryd.checked) (os:=os) (X:=fun w _=>laidMetH Tryd.prog Rows.reflowItemsRow.laid w) false (World.doorLaid Tryd.prog 400 os) #[.slice none 0 0,.int .i64 0] 8 rfl (World.shaped_of_RefB (by kernel_rfl) (by kernel_rfl)) (by kernel_rfl) (by kernel_rfl) (by kernel_rfl) (door_met os)) ?_
 intro W base args ds before hval hA hsz hL;rw [Tryd.params6] at hA hval;obtain ⟨v0,vs0,d0,ds0,p0,q0,hargs,rfl,rfl,h0,r0⟩:=trodAll_cons hA;obtain ⟨v1,vs1,d1,ds1,p1,q1,rfl,rfl,rfl,h1,r1⟩:=trodAll_cons r0;obtain ⟨rfl,rfl,rfl⟩:=trodAll_nil r1;obtain rfl:args=#[v0,v1]:=by cases args;simp_all
 obtain ⟨x1,rfl,rfl,rfl,wx1⟩:=open_int Tryd.underlying3 (hval 1 3 v1 rfl rfl) h1;exact walk W v0 (hval 0 53 v0 rfl rfl) h0 x1 wx1 hL
theorem and_two{a b:Bool}(ha:a=true)(hb:b=true):(a && b)=true:=by rw [ha,hb];rfl
theorem joined:joinedFacts Tryd.pinned.checked.prog 6 Tryd.f6 Rows.reflowItemsSpec Rows.reflowItemsRow=true:=by
 unfold joinedFacts
 repeat' (with_reducible refine and_two ?_ ?_)
 all_goals (as_aux_lemma=>kernel_rfl)
theorem said:Rows.ReflowItemsSaid :=
 OpenClaim.holds_of_wide 6 Tryd.f6 rfl rfl rfl rfl rfl rfl rfl ⟨rfl,rfl,rfl,rfl,rfl⟩ rfl rfl rfl rfl rfl (by kernel_rfl) Tryd.func6 joined
  (of_decide_eq_true (by kernel_rfl)) (by unfold Func.isWrapper;first | (rw [if_pos (by decide +kernel)];kernel_rfl) | (rw [if_neg (by decide +kernel)];exact ⟨rfl,rfl⟩))
  (fun os started H enc _=>lifted os started H enc)
theorem plain (f : FuncId) (fn : Func) (hf : Tryd.pinned.checked.prog.funcNamed "linotype/linotypelaw51.ReflowItems" = some f) (hfn : Tryd.pinned.checked.prog.funcs[f]? = some fn) :
  true=Tryd.pinned.checked.prog.looks []/\∀ (j:Nat) t,fn.params[j]? = some t->Tryd.pinned.checked.prog.wantsStandIn t=false:=by
 obtain rfl : f = 6 := Option.some.inj ((show Tryd.prog.funcNamed "linotype/linotypelaw51.ReflowItems" = some 6 by kernel_rfl).symm.trans hf) |>.symm
 obtain rfl:fn=Tryd.f6:=(Option.some.inj (Tryd.func6.symm.trans hfn)).symm;refine ⟨by kernel_rfl,fun j t ht=>?_⟩;rw [Tryd.params6] at ht;have hm:t ∈ [53,3]:=by simpa using Array.mem_of_getElem? ht
 have hall:([53,3].all fun u=>!Tryd.prog.wantsStandIn u)=true:=by kernel_rfl
 exact (show Tryd.prog.wantsStandIn t=false by simpa using List.all_eq_true.1 hall t hm)
theorem card:Rows.ReflowItemsCardSaid :=
 Claim7.holds_tied_plain_at .later [] _ _ _ _ said (fun _ h=>by cases h) (by kernel_rfl) (fun _ h=>by cases h) reflowItems_row_tie rfl ⟨rfl,rfl⟩ (by kernel_rfl) rfl plain (by kernel_rfl)
#print axioms card
end Go.Proofs.YthdphijabffpiaaDoor.lawReflowItems
