import Derived.Test.YtechjomepdahiaaDoorZ0
import Derived.Test.YtechjomepdahiaaDoorMg9
import Derived.Test.YtechjomepdahiaaDoorMg4
import Derived.Test.YtechjomepdahiaaDoorItmC
import Derived.Test.YtechjomepdahiaaDoorMg1
import Derived.Test.YtechjomepdahiaaDoorCards
import Derived.Test.YtechjomepdahiaaDoorTie
import Derived.ProofKit
import Derived.Lib.MinMax
import Derived.Deep.Cut
set_option maxRecDepth 100000
set_option linter.unusedVariables false
set_option linter.unusedSimpArgs false
set_option maxHeartbeats 8000000
namespace Go.Proofs.YtechjomepdahiaaDoor.lawReflowKeeps
open Go.ChangeShapes Go.WideShapes Go.ChangeAt Go.RowKit
theorem items_arg{H:Type}{enc:TypeId × Value->H}{W:World}{base:Nat}{v:Value}{d:DataW H}{p:List MemPlace}(hv:Value.okWide Tryd.prog W .any base 22 v)(h:DataW.Trod enc Tryd.prog W 0 (fun _=>true) true 22 v d p):∃ L,HeldE cellE (fun b=>b<W.heap.size) W v L:=by
 obtain ⟨L,hL,_⟩:=eD (E:=cellE) Tryd.underlying22 (by kernel_rfl) (by decide) (dU Tryd.underlying27 (by kernel_rfl) rfl rfl (c8 Tryd.underlying3 (by kernel_rfl)) (cm Tryd.underlying25 (by kernel_rfl) (by decide) (c8 Tryd.underlying21 (by kernel_rfl)))) hv h;exact ⟨L,hL⟩
def goodI(c:Cl):Bool:=ap c && decide (0<c.2.length)
theorem good_cases(X:List Cl):∃ m,m<=X.length/\(∀ k,k<m->goodI (X.getD k zc)=true)/\(m<X.length->goodI (X.getD m zc)=false):=by
 have key:∀ n,n<=X.length->∃ m,m<=n/\(∀ k,k<m->goodI (X.getD k zc)=true)/\(m<n->goodI (X.getD m zc)=false):=by
  intro n
  induction n with
  |zero=>exact fun _=>⟨0,Nat.le_refl _,fun k hk=>absurd hk (Nat.not_lt_zero _),fun h=>absurd h (Nat.lt_irrefl _)⟩
  |succ n ih =>
   intro hn;obtain ⟨m,h1,h2,h3⟩:=ih (by omega)
   by_cases hm:m<n
   ·exact ⟨m,by omega,h2,fun _=>h3 hm⟩
   ·have e:m=n:=by omega
    subst e
    by_cases hb:goodI (X.getD m zc)=true
    ·refine ⟨m+1,Nat.le_refl _,fun k hk=>?_,fun h=>absurd h (Nat.lt_irrefl _)⟩
     rcases Nat.lt_or_ge k m with h9 | h9
     ·exact h2 k h9
     ·rw [show k=m by omega];exact hb
    ·exact ⟨m,by omega,h2,fun _=>Bool.eq_false_iff.2 hb⟩
 exact key _ (Nat.le_refl _)
theorem brk_sum(w:Nat)(L:List Ln)(hw:∀ j,j<L.length->(L.getD j zl).1.length=w):∀ k,k<=L.length->aV L k=k * w
 |0=>fun _=>by simp [aV]
 |k+1=>fun hk=>by
  show aV L k+(L.getD k zl).1.length=_;rw [brk_sum w L hw k (by omega),hw k (by omega),Nat.succ_mul]
theorem side_of(a:Int):∃ (y:Int) (c:Nat),IntKind.u64.wrap a=y/\y.tmod 20=(c:Int)/\IntKind.i64.wrap (c:Int)=(c:Int)/\IntKind.i64.wrap (2+(c:Int))=((c+2:Nat):Int)/\c<20:=by
 have h0:0<=IntKind.u64.wrap a/\IntKind.u64.wrap a<=18446744073709551615:=by rw [IntKind.wrap_u64];omega
 refine ⟨_,(IntKind.u64.wrap a % 20).toNat,rfl,?_,?_,?_,?_⟩
 ·rw [Int.tmod_eq_emod_of_nonneg h0.1];omega
 ·rw [IntKind.wrap_i64];omega
 ·rw [IntKind.wrap_i64];omega
 ·omega
theorem walkGood(W:World)(xo:Option Addr)(n xc:Nat)(X:List Cl)(hn:n=X.length)(hv:HeldE cellE (fun b=>b<W.heap.size) W (.slice xo n xc) X)(a b:Int)(h3:n<=200)(m:Nat)(hm:m<=X.length)(hr:∀ k,k<m->goodI (X.getD k zc)=true)(hb:m<X.length->goodI (X.getD m zc)=false):Calls Tryd.prog 3 #[.slice xo n xc,.int .i64 a,.int .i64 b] W (Yes W):=by
 have HV:=aa hv;have fO:=(aK hv).2.1;have ie:=aa (aK hv).2.2;have HR:=aa hr;have hN:=aa hb;have HN:=aa hn;have hmn:m<=n:=by omega
 have g8:decide ((200:Int)<(n:Int))=false:=ah (by omega);clear hv hr hb hm hn
 go_enter Tryd.func3,Tryd.ntmps3
 go_wp2_with fail
 refine (bm _).mono ?_;rintro e w1 ⟨rfl,b1⟩;have fA:=aa b1;clear b1 g8;go_wp2
 go_loopw [7] (fun iv wr=>∃ k:Nat,k<=m/\iv=.int .i64 k/\Below W.heap.size W wr) (fun iv _=>n - (intOf iv).toNat)
 case atStart=>exact ⟨0,Nat.zero_le _,rfl,fA.out⟩
 case round =>
  obtain ⟨k,hk,rfl,fB⟩:=hrel;obtain ⟨wo,hU⟩:=ab (wr);subst hU;have fz:=aa fB;clear fA
  by_cases hkn:k<n
  ·have d1:(k:Int)<(n:Int):=by omega
   have d1b:decide ((k:Int)<(n:Int))=true:=ag (by omega);obtain ⟨bb,off,tv,e0,hb,_,c0,c1,hh⟩:=ie.out k (by rw [<-HN.out];exact hkn);subst e0;have fM:k<m->goodI (X.getD k zc)=true:=HR.out k;have ja:k=m->goodI (X.getD k zc)=false:=fun e=>by subst e;exact hN.out (by rw [<-HN.out];exact hkn)
   obtain ⟨⟨K,T⟩,fH⟩ : ∃ y,y=X.getD k zc:=⟨_,rfl⟩;rw [<-fH] at c0 hh fM ja;simp only at c0 hh;obtain ⟨tx,tc,etv⟩:=hh.len;subst etv;have iS:=aa (show ∀ w9,Below wo.heap.size wo w9->w9.cell? ⟨bb,off+k * 2,none⟩=some (.int .i64 K)/\w9.cell? ⟨bb,off+k * 2+1,none⟩=some (.slice tx T.length tc) from fun w9 h=>by
    have h2:=fB.trans (h.mono fB.size);exact ⟨(h2.cell (p:=⟨bb,off+k * 2,none⟩) hb).trans c0,(h2.cell (p:=⟨bb,off+k * 2+1,none⟩) hb).trans c1⟩)
   obtain ⟨c0,c1⟩:=iS.out wo (Below.refl _ _);have fX:=aa (dL K _ T wo (hh.below fB).ints hh.max);have iJ:k<xc:=by omega
   clear fH hb hh fB
   by_cases hkm:k<m
   ·have hg:=fM hkm;unfold goodI at hg;rw [Bool.and_eq_true,decide_eq_true_eq] at hg;rw [hg.1] at fX;have hG:=aa hg.2;clear fM ja hg
    go_wp2_with fail
    refine (fX.out).mono ?_;rintro e w3 ⟨rfl,b3⟩;have HF:=aa (fz.out.trans (b3.mono fz.out.size));clear c0 c1;obtain ⟨c0,c1⟩:=iS.out _ b3;obtain ⟨nt,jD⟩:=ab (T.length);have js:0<nt:=by rw [jD];exact hG.out
    rw [<-jD] at c1;have d2:((nt:Int) == 0)=false:=by rw [beq_eq_false_iff_ne];omega
    clear b3 iS fX jD;go_wp2
    go_roundw
    case rel=>exact ⟨k+1,by omega,by go_num,HF.out⟩
    case measure=>simp [intOf] <;> omega
   ·have hg:=ja (by omega);clear fM ja;unfold goodI at hg
    cases hR:ap (K,T) with
    |false =>
     rw [hR] at fX;clear hg hR
     go_wp2_with fail
     refine (fX.out).mono ?_;rintro e w3 ⟨rfl,b3⟩;have HF:=aa (fz.out.trans (b3.mono fz.out.size));clear b3;go_wp2;go_ret;exact ⟨ae,HF.out⟩
    |true =>
     rw [hR] at fX hg;have hG:=aa (show T.length=0 from by
      rw [Bool.true_and,decide_eq_false_iff_not] at hg;simp only at hg;omega)
     clear hg hR
     go_wp2_with fail
     refine (fX.out).mono ?_;rintro e w3 ⟨rfl,b3⟩;have HF:=aa (fz.out.trans (b3.mono fz.out.size));clear c0 c1;obtain ⟨c0,c1⟩:=iS.out _ b3;rw [hG.out] at c1;clear b3 iS fX hG;go_wp2;go_ret;exact ⟨ae,HF.out⟩
  ·obtain rfl:k=n:=by omega
   have hmk:m=k:=by omega
   have d1:¬ (k:Int)<(k:Int):=by omega
   have d1b:decide ((k:Int)<(k:Int))=false:=ah (by omega);have hXL:X.length<=200:=by rw [<-HN.out];exact h3
   have jP:=aa (show ∀ c ∈ X,ap c=true/\0<c.2.length from fun c hc=>by
    obtain ⟨i,hi,rfl⟩:=List.getElem_of_mem hc;have h:=HR.out i (by rw [hmk,HN.out];exact hi);rw [show X.getD i zc=X[i] from by simp [List.getD,List.getElem?_eq_getElem hi]] at h;unfold goodI at h;rw [Bool.and_eq_true,decide_eq_true_eq] at h;exact h)
   have gV:∀ k,k<X.length->ap (X.getD k zc)=true:=fun i hi=>by
    rw [show X.getD i zc=X[i] from by simp [List.getD,List.getElem?_eq_getElem hi]];exact (jP.out _ (List.getElem_mem hi)).1
   obtain ⟨ya,ca,ha1,ha2,ha3,ha4,ha5⟩:=side_of a;obtain ⟨yb,cb,hb1,hb2,hb3,hb4,fK⟩:=side_of b;have hwa:wdN ((ca+2:Nat):Int)=ca+2:=by unfold wdN;omega
   have iH:wdN ((cb+2:Nat):Int)=cb+2:=by unfold wdN;omega
   have gQ:=aa (fun (w':World) (bl:Below W.heap.size W w')=>dA _ X ((ca+2:Nat):Int) w' ((HV.out.below bl).zone fun x hx _=>hx) (by omega) gV);rw [hwa] at gQ
   -- what is broken is broken anew as at once
   have jh:=dn (ca+2) X (by omega) gV;have f6:=dn (cb+2) X (by omega) gV;have iP:=cw (ca+2) X (by omega);have ik:=cw (cb+2) X (by omega);have g0:aV (aE (ca+2) X) (aE (ca+2) X).length<=100000:=by
    rw [brk_sum (ca+2) _ (fun j hj=>(jh.2 j hj).1) _ (Nat.le_refl _)];exact Nat.le_trans (Nat.mul_le_mul (show _<=201 by omega) (show ca+2<=22 by omega)) (by decide)
   have jO:aV (aE (cb+2) X) (aE (cb+2) X).length<=100000:=by
    rw [brk_sum (cb+2) _ (fun j hj=>(f6.2 j hj).1) _ (Nat.le_refl _)];exact Nat.le_trans (Nat.mul_le_mul (show _<=201 by omega) (show cb+2<=22 by omega)) (by decide)
   have hLa:=dP (ca+2) X (by omega) jP.out;have jb:=dP (cb+2) X (by omega) jP.out;have jg:bn (cb+2) (aE (ca+2) X)=aE (cb+2) X:=by unfold bn;rw [hLa];simp
   have jB:bn (cb+2) (aE (cb+2) X)=aE (cb+2) X:=by unfold bn;rw [jb];simp
   obtain ⟨A,hA⟩:=ab (aE (ca+2) X);obtain ⟨B,hB⟩:=ab (aE (cb+2) X);rw [<-hA] at gQ jh iP g0 jg;rw [<-hB] at f6 ik jO jg jB jb;have jH:=aa (fun (v:Value) (w':World) (h:HeldE lineE (fun b=>b<w'.heap.size) w' v A)=>bY v A ((cb+2:Nat):Int) w' h (by omega) g0 (fun j hj=>(jh.2 j hj).2.1));have jY:=aa (fun (v:Value) (w':World) (h:HeldE lineE (fun b=>b<w'.heap.size) w' v B)=>bY v B ((cb+2:Nat):Int) w' h (by omega) jO (fun j hj=>(f6.2 j hj).2.1));have gL:=aa (fun (v:Value) (w':World) (h:HeldE lineE (fun b=>b<w'.heap.size) w' v B)=>en v B w' h (by omega) (by omega) (fun j hj=>(f6.2 j hj).2.1));rw [iH] at jH jY;rw [jg] at jH;rw [jB] at jY;rw [jb] at gL;clear hkn fB hmk gV hwa iH jh f6 iP ik g0 jO hLa jb jg jB hA hB hXL ha5 fK
   go_wp2_with fail
   refine (gQ.out _ fz.out).mono ?_;rintro e w3 ⟨u,rfl,ho,b3⟩;have gE:=aa (fz.out.trans (b3.mono fz.out.size));have hu:=(ho.held (fun _ hb _=>hb)).lower;obtain ⟨uo,uc,eu⟩:=hu.len;have im:=aa (jH.out u w3 hu);clear ho b3 gQ eu hu
   go_wp2_with fail
   refine (im.out).mono ?_;rintro e w4 ⟨q,rfl,hq,b4⟩;have gd:=aa (gE.out.trans (b4.mono gE.out.size));have jr:=aa (hq.held (fun _ hb _=>hb)).lower;have iz:=aa (jY.out q w4 jr.out);clear hq b4 im
   go_wp2_with fail
   refine (iz.out).mono ?_;rintro e w5 ⟨z,rfl,hz,b5⟩;have gB:=aa (gd.out.trans (b5.mono gd.out.size));have jN:=aa ((jr.out.below b5).lower);have HZ5:=aa (hz.held (fun _ hb _=>hb)).lower;have jq:=aa (cO _ _ q z B B w5 jN.out HZ5.out);rw [cN] at jq;clear hz b5 iz jr
   go_wp2_with fail
   refine (jq.out).mono ?_;rintro e w6 ⟨rfl,b6⟩;have gT:=aa (gB.out.trans (b6.mono gB.out.size));have f2:=aa (gL.out q w6 (jN.out.below b6).lower);clear b6 jq jN HZ5
   go_wp2_with fail
   refine (f2.out).mono ?_;rintro e w7 ⟨y,rfl,hy,b7⟩;have ip:=aa (gT.out.trans (b7.mono gT.out.size));have i5:=hy.held (fun _ _ _=>trivial);obtain ⟨yo,yc,ey⟩:=i5.len;subst ey;obtain ⟨b9,off9,x9,e9,hb9,c9,hx9⟩:=(bK i5).2.2 0 (by simp);subst e9;have hyc:=(bK i5).2.1;have HS9:=aa (em _ _ x9 _ X X w7 hx9 (HV.out.below ip.out));rw [d7] at HS9;simp only [List.length_cons,List.length_nil,Nat.zero_add] at hyc ⊢;have hyc0:0<yc:=hyc;have c10:w7.cell? ⟨b9,off9,none⟩=some x9:=c9;clear c9;clear hy i5 hx9 hb9 b7 f2
   go_wp2_with fail
   refine HS9.out.mono ?_;rintro e w8 ⟨rfl,b8⟩;have HF:=aa (ip.out.trans (b8.mono ip.out.size));clear b8;go_wp2;go_ret;exact ⟨ae,HF.out⟩
theorem walkN(W:World)(v:Value)(X:List Cl)(hv:HeldE cellE (fun b=>b<W.heap.size) W v X)(a b:Int):Calls Tryd.prog 3 #[v,.int .i64 a,.int .i64 b] W (Yes W):=by
 obtain ⟨xo,xc,rfl⟩:=hv.len
 by_cases h3:X.length<=200
 ·obtain ⟨m,h1,h2,h4⟩:=good_cases X;exact walkGood W xo _ xc X rfl hv a b h3 m h1 h2 h4
 ·obtain ⟨n,hn⟩ : ∃ n,n=X.length:=⟨_,rfl⟩;rw [<-hn] at h3 ⊢;have g8:decide ((200:Int)<(n:Int))=true:=ag (by omega);clear hn h3 hv
  go_enter Tryd.func3,Tryd.ntmps3
  go_wp2_with fail
  refine (bm _).mono ?_;rintro e w1 ⟨rfl,b1⟩
  go_wp2_with fail
  refine (bm _).mono ?_;rintro e w2 ⟨rfl,b2⟩;have b2:=b1.trans (b2.mono b1.size);go_wp2;go_ret;exact ⟨ae,b2⟩
theorem walk{H:Type}{enc:TypeId × Value->H}(W:World)(x:Value){bs0:Nat}{d0:DataW H}{p0:List MemPlace}(hx:Value.okWide Tryd.prog W .any bs0 22 x)(h0:DataW.Trod enc Tryd.prog W 0 (fun _=>true) true 22 x d0 p0)(y:Int)(hy:(Lit.int .i64 y).wf=true)(z:Int)(hz:(Lit.int .i64 z).wf=true)(hL:laidMetH Tryd.prog Rows.reflowKeepsRow.laid W):Calls Tryd.prog 3 #[x,.int .i64 y,.int .i64 z] W (Yes W):=by
 obtain ⟨X,hX⟩:=items_arg hx h0;exact walkN W x X hX y z
theorem door_met(os:Os):laidMetH Tryd.prog Rows.reflowKeepsRow.laid ((World.doorLaid Tryd.prog 400 os).forCall (fun _ _=>0) ⟨#[],#[.slice none 0 0,.int .i64 0,.int .i64 0],[]⟩).memory :=
 laidMetH_of_parts3 (fuel:=8) (laidMet_of_run' 8 (by kernel_rfl) (by kernel_rfl)) (by kernel_rfl) (by kernel_rfl)
theorem lifted(os:Os)(started:os.Started)(H:Type)(enc:TypeId × Value->H) :
  ReturnsInHanded {} Tryd.checked os 3 .any (fun w args=>(Rows.reflowKeepsSpec.pre enc Tryd.prog Tryd.f3 [] false w args/\laidMetH Tryd.prog Rows.reflowKeepsRow.laid w)/\sizedMet enc Tryd.prog Tryd.f3 (OpenSpec.ofChange Rows.reflowKeepsSpec) false w args)
   (Rows.reflowKeepsSpec.post enc Tryd.prog Tryd.f3 false true false false):=by
 refine eS (C:=Tryd.checked) (tb:=4) (by kernel_rfl) started (by kernel_rfl) Tryd.func3 (by kernel_rfl) (by kernel_rfl) Tryd.underlying4 rfl
  (by rw [Tryd.params3];intro t ht;simp at ht;rcases ht with rfl | rfl <;> exact ⟨by kernel_rfl,of_decide_eq_true (by kernel_rfl)⟩)
  (by rw [Tryd.params3];intro ds hd;match ds,hd with | [_,_,_],_=>rfl)
  (ChangeSpec.witness_shaped (enc:=enc) (C:=Tryd.checked) (os:=os) (X:=fun w _=>laidMetH Tryd.prog Rows.reflowKeepsRow.laid w) false (World.doorLaid Tryd.prog 400 os) #[.slice none 0 0,.int .i64 0,.int .i64 0] 8 rfl (World.shaped_of_RefB (by kernel_rfl) (by kernel_rfl)) (by kernel_rfl) (by kernel_rfl) (by kernel_rfl) (door_met os)) ?_
 intro W base args ds before hval hA hsz hL;rw [Tryd.params3] at hA hval;obtain ⟨v0,vs0,d0,ds0,p0,q0,hargs,rfl,rfl,h0,r0⟩:=trodAll_cons hA;obtain ⟨v1,vs1,d1,ds1,p1,q1,rfl,rfl,rfl,h1,r1⟩:=trodAll_cons r0;obtain ⟨v2,vs2,d2,ds2,p2,q2,rfl,rfl,rfl,h2,r2⟩:=trodAll_cons r1;obtain ⟨rfl,rfl,rfl⟩:=trodAll_nil r2;obtain rfl:args=#[v0,v1,v2]:=by cases args;simp_all
 obtain ⟨x1,rfl,rfl,rfl,wx1⟩:=open_int Tryd.underlying3 (hval 1 3 v1 rfl rfl) h1;obtain ⟨x2,rfl,rfl,rfl,wx2⟩:=open_int Tryd.underlying3 (hval 2 3 v2 rfl rfl) h2;exact walk W v0 (hval 0 22 v0 rfl rfl) h0 x1 wx1 x2 wx2 hL
theorem and_two{a b:Bool}(ha:a=true)(hb:b=true):(a && b)=true:=by rw [ha,hb];rfl
theorem joined:joinedFacts Tryd.pinned.checked.prog 3 Tryd.f3 Rows.reflowKeepsSpec Rows.reflowKeepsRow=true:=by
 unfold joinedFacts
 repeat' (with_reducible refine and_two ?_ ?_)
 all_goals (as_aux_lemma=>kernel_rfl)
theorem said:Rows.ReflowKeepsSaid :=
 OpenClaim.holds_of_wide 3 Tryd.f3 rfl rfl rfl rfl rfl rfl rfl ⟨rfl,rfl,rfl,rfl,rfl⟩ rfl rfl rfl rfl rfl (by kernel_rfl) Tryd.func3 joined
  (of_decide_eq_true (by kernel_rfl)) (by unfold Func.isWrapper;first | (rw [if_pos (by decide +kernel)];kernel_rfl) | (rw [if_neg (by decide +kernel)];exact ⟨rfl,rfl⟩))
  (fun os started H enc _=>lifted os started H enc)
theorem plain (f : FuncId) (fn : Func) (hf : Tryd.pinned.checked.prog.funcNamed "linotype/linotypelaw51.ReflowKeeps" = some f) (hfn : Tryd.pinned.checked.prog.funcs[f]? = some fn) :
  true=Tryd.pinned.checked.prog.looks []/\∀ (j:Nat) t,fn.params[j]? = some t->Tryd.pinned.checked.prog.wantsStandIn t=false:=by
 obtain rfl : f = 3 := Option.some.inj ((show Tryd.prog.funcNamed "linotype/linotypelaw51.ReflowKeeps" = some 3 by kernel_rfl).symm.trans hf) |>.symm
 obtain rfl:fn=Tryd.f3:=(Option.some.inj (Tryd.func3.symm.trans hfn)).symm;refine ⟨by kernel_rfl,fun j t ht=>?_⟩;rw [Tryd.params3] at ht;have hm:t ∈ [22,3,3]:=by simpa using Array.mem_of_getElem? ht
 have hall:([22,3,3].all fun u=>!Tryd.prog.wantsStandIn u)=true:=by kernel_rfl
 exact (show Tryd.prog.wantsStandIn t=false by simpa using List.all_eq_true.1 hall t hm)
theorem card:Rows.ReflowKeepsCardSaid :=
 Claim7.holds_tied_plain_at .later [] _ _ _ _ said (fun _ h=>by cases h) (by kernel_rfl) (fun _ h=>by cases h) reflowKeeps_row_tie rfl ⟨rfl,rfl⟩ (by kernel_rfl) rfl plain (by kernel_rfl)
#print axioms card
end Go.Proofs.YtechjomepdahiaaDoor.lawReflowKeeps
