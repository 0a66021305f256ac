import Derived.Test.YthdphijabffpiaaZ0
import Derived.Test.YthdphijabffpiaaMg6
import Derived.Test.YthdphijabffpiaaFlnC
import Derived.Test.YthdphijabffpiaaMg1
import Derived.Test.YthdphijabffpiaaRows
import Derived.ProofKit
set_option maxRecDepth 100000
set_option linter.unusedVariables false
set_option linter.unusedSimpArgs false
set_option maxHeartbeats 3000000
namespace Go.Proofs.Ythdphijabffpiaa.lawBoundTexts
open Go.ChangeShapes Go.WideShapes Go.ChangeAt Go.RowKit
theorem walkN(W:World)(v:Value)(xs:List Int)(Wr:Int)(hx:Held .i32 W v xs)(hn:xs.length<=500):Calls Try.prog 3 #[v,.int .i64 Wr] W (Yes W):=by
 obtain ⟨ao,ca,rfl⟩:=hx.len;have hd:decide ((500:Int)<xs.length)=false:=ah (by omega);have hdn:decide (500<xs.length)=false:=ah (by omega);have h1:=dY _ xs W hx (by omega);have H2:=aa (fun (w':World) (b:Below W.heap.size W w')=>fr _ xs Wr w' (hx.below b) (by omega));have hl:=fD xs Wr (by omega);have hc:=gi xs;have hh:bk xs.length=xs.length:=by unfold bk;omega
 obtain ⟨n,ko⟩:=ab (xs.length);rw [<-ko] at h1 H2 hl hc hh hd hdn hn ⊢;obtain ⟨C,hC⟩:=ab (cK xs);rw [<-hC] at h1 hc;obtain ⟨N,hN⟩ : ∃ N:Int,N=((cC Wr xs).length:Int):=⟨_,rfl⟩;rw [<-hN] at H2 hl;obtain ⟨R,hR⟩:=ab (dm n Wr);rw [<-hR] at hl;have HR:=aa hR;have HH:=aa hh;have t1:decide (2 * (n:Int)<C)=false:=ah (by omega);have t1':decide (C<=2 * (n:Int))=true:=ag (by omega);have t2:decide (N<=R)=true:=ag (by omega);clear hx ko hC hN hR hh hl hc
 go_enter Try.func3,Try.ntmps3
 go_wp2_with fail
 refine (co _).mono ?_;rintro e w' ⟨rfl,rfl⟩
 go_wp2_with fail
 refine h1.mono ?_;clear h1;rintro e w2 ⟨rfl,b2⟩;have HB:=aa b2;clear b2
 go_wp2_with fail
 refine (e7 _ _).mono ?_;rintro e w' ⟨rfl,rfl⟩;rw [HH.out]
 go_wp2_with fail
 refine (H2.out _ HB.out).mono ?_;rintro e w3 ⟨rfl,b3⟩;replace HB:=aa (HB.out.trans (b3.mono HB.out.size));clear b3
 go_wp2_with fail
 refine (cH _ _ _).mono ?_;rintro e w' ⟨rfl,rfl⟩;rw [<-HR.out];go_wp2;go_ret;exact ⟨ae,HB.out⟩
theorem walk{H:Type}{enc:TypeId × Value->H}(W:World)(v:Value){base:Nat}{d:DataW H}{p:List MemPlace}(hv:Value.okWide Try.prog W .any base 22 v)(h:DataW.Trod enc Try.prog W 0 (fun _=>true) true 22 v d p)(Wd:Int)(hw:(Lit.int .i64 Wd).wf=true):Calls Try.prog 3 #[v,.int .i64 Wd] W (Yes W):=by
 obtain ⟨xs,hx,hr⟩:=fZ hv h
 by_cases hl:500<xs.length
 ·obtain ⟨ao,ca,rfl⟩:=hx.len;clear hv h hx hr
  go_enter Try.func3,Try.ntmps3
  go_wp2_with fail
  refine (co _).mono ?_;rintro e w' ⟨rfl,rfl⟩
  go_wp2_with fail
  refine (co _).mono ?_;rintro e w' ⟨rfl,rfl⟩;go_wp2;go_ret;exact ⟨ae,Below.refl _ _⟩
 ·exact walkN W v xs Wd hx.ints (by omega)
theorem lifted(os:Os)(started:os.Started)(H:Type)(enc:TypeId × Value->H) :
  ReturnsInHanded {} Try.checked os 3 .any (Rows.boundTextsSpec.pre6 enc Try.prog Try.f3 Rows.boundTextsRow.domain false) (Rows.boundTextsSpec.post enc Try.prog Try.f3 false true false false):=by
 refine dn (C:=Try.checked) (tb:=4) (by kernel_rfl) started (by kernel_rfl) Try.func3 (by kernel_rfl) (by kernel_rfl) Try.underlying4 rfl
  (by rw [Try.params3];intro t ht;simp at ht;rcases ht with rfl | rfl <;> exact ⟨by kernel_rfl,of_decide_eq_true (by kernel_rfl)⟩)
  (by rw [Try.params3];intro ds hd;match ds,hd with | [_,_],_=>rfl)
  (ChangeSpec.witness6 (enc:=enc) (C:=Try.checked) false ⟨#[],#[.slice none 0 0,.int .i64 0],[]⟩ 8 (by kernel_rfl) (by kernel_rfl) (by kernel_rfl) (by kernel_rfl)) ?_
 intro W base args ds before hval hA;rw [Try.params3] at hA hval;obtain ⟨v0,vs0,d0,ds0,p0,q0,hargs,rfl,rfl,h0,r0⟩:=trodAll_cons hA;obtain ⟨v1,vs1,d1,ds1,p1,q1,rfl,rfl,rfl,h1,r1⟩:=trodAll_cons r0;obtain ⟨rfl,rfl,rfl⟩:=trodAll_nil r1;obtain rfl:args=#[v0,v1]:=by cases args;simp_all
 obtain ⟨x1,rfl,rfl,rfl,wx1⟩:=open_int Try.underlying3 (hval 1 3 v1 rfl rfl) h1;exact walk W v0 (hval 0 22 v0 rfl rfl) h0 x1 wx1
theorem proved:Rows.BoundTextsSaid :=
 OpenClaim.holds_of_wide 3 Try.f3 rfl rfl rfl rfl rfl rfl rfl ⟨rfl,rfl,rfl,rfl,rfl⟩ rfl rfl rfl rfl rfl (by kernel_rfl) Try.func3 (by kernel_rfl)
  (of_decide_eq_true (by kernel_rfl)) (by unfold Func.isWrapper;first | (rw [if_pos (by decide +kernel)];kernel_rfl) | (rw [if_neg (by decide +kernel)];exact ⟨rfl,rfl⟩))
  (fun os started H enc _=>lifted os started H enc)
#print axioms proved
end Go.Proofs.Ythdphijabffpiaa.lawBoundTexts
