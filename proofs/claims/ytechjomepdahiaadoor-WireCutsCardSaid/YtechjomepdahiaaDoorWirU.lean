import Derived.Test.YtechjomepdahiaaDoorZ0
import Derived.Test.YtechjomepdahiaaDoorWirV
import Derived.Test.YtechjomepdahiaaDoorErrS
set_option maxRecDepth 100000
set_option linter.unusedVariables false
set_option linter.unusedSimpArgs false
set_option maxHeartbeats 400000
namespace Go.Proofs.YtechjomepdahiaaDoor
open Go.RowKit Go.ChangeShapes Go.WideShapes
theorem jE{w:World}{sa:Nat->Addr}(h:Sents w sa):Five w sa:=⟨fun k hk=>by
 simp only [List.mem_cons,List.not_mem_nil,or_false] at hk
 rcases hk with rfl | rfl | rfl | rfl | rfl
 ·exact h.cell 1 (by decide)
 ·exact h.cell 2 (by decide)
 ·exact h.cell 3 (by decide)
 ·exact h.cell 4 (by decide)
 ·exact h.cell 7 (by decide)⟩
theorem iE(Ls:List Ln)(h:∀ i,i<Ls.length->aG (Ls.getD i zl).1=true/\(Ls.getD i zl).1.length<=1024):∀ k,k<=Ls.length->((Ls.take k).flatMap lnB).length<=k+70 * cI Ls k
 |0=>fun _=>by simp
 |k+1=>fun hk=>by
  have ih:=iE Ls h k (by omega);have sE:k<Ls.length:=hk;obtain ⟨h1,h2⟩:=h k sE;have es:cI Ls (k+1)=cI Ls k+(Ls.getD k zl).1.length:=rfl;rw [es];rw [show Ls.getD k zl=Ls[k] from by simp [List.getD,List.getElem?_eq_getElem sE]] at h1 h2 ⊢;rw [List.take_succ_eq_append_getElem sE,List.flatMap_append,List.flatMap_singleton,List.length_append];have h3:=bT Ls[k].1.length Ls[k].1 (Nat.le_refl _) (by omega) (db h1);have h4:(lnB Ls[k]).length=(aE Ls[k].1).length+1:=rfl;omega
theorem g6{v:Vw}(h:ax v=true)(hg:dO v=false):1<=(aL v).length/\(aL v).length<=200000:=by
 obtain ⟨h1,h2,h3,h4,h5,h6,h7,h8,h9,hx⟩:=dP h;unfold dO at hg;rw [Bool.or_eq_false_iff,decide_eq_false_iff_not,decide_eq_false_iff_not] at hg;have hl:=iE v.L (fun i hi=>⟨(hx i hi).2,by have:=(hx i hi).1;omega⟩) v.L.length (Nat.le_refl _);rw [List.take_length] at hl;have n1:=(aC (show v.w.toNat<2097152 by omega)).2;have n2:=(aC (show v.h.toNat<2097152 by omega)).2;have n3:=(aC (show v.r.toNat<2097152 by omega)).2;have n4:=(aC (show v.c.toNat<2097152 by omega)).2;obtain ⟨hg1,hg2⟩:=hg;unfold aL;simp only [List.length_cons,List.length_append,List.length_nil];omega
theorem la(a:Int)(n:Nat)(h1:1<=n)(h2:n<=200000):∃ (y:Int) (k:Nat),IntKind.u64.wrap a=y/\IntKind.u64.wrap (n:Int)=(n:Int)/\y.tmod (n:Int)=(k:Int)/\IntKind.u64.wrap (k:Int)=(k:Int)/\IntKind.i64.wrap (k:Int)=(k:Int)/\k<n:=by
 have h0:0<=IntKind.u64.wrap a/\IntKind.u64.wrap a<=18446744073709551615:=by rw [IntKind.wrap_u64];omega
 have hm:=Int.emod_nonneg (IntKind.u64.wrap a) (show (n:Int)≠0 by omega);have qe:=Int.emod_lt_of_pos (IntKind.u64.wrap a) (show (0:Int)<n by omega);refine ⟨_,(IntKind.u64.wrap a % (n:Int)).toNat,rfl,by rw [IntKind.wrap_u64];omega,?_,?_,?_,by omega⟩
 ·rw [Int.tmod_eq_emod_of_nonneg h0.1];omega
 ·rw [IntKind.wrap_u64];omega
 ·rw [IntKind.wrap_i64];omega
theorem jF{v u:Vw}(hv:ax v=true)(hu:ax u=true)(k:Nat)(hk:k<(aL v).length)(h:aL u=(aL v).take k):False:=by
 have h2:aL u++(aL v).drop k=aL v++[]:=by rw [h,List.take_append_drop,List.append_nil]
 have:=(gj hu hv _ _ h2).2;have hl:=congrArg List.length this;rw [List.length_drop,List.length_nil] at hl;omega
theorem kq{v u:Vw}(hv:ax v=true)(hu:ax u=true)(c:Int)(h:aL u=aL v++[c]):False:=by
 have h2:aL u++[]=aL v++[c]:=by rw [h,List.append_nil]
 have:=(gj hu hv _ _ h2).2
 cases this
theorem jG{W:World}{v:Vw}{lv:Value}(hv:HeldE lineE (fun _=>True) W lv v.L)(h0:(Lit.int .i64 v.w).wf=true)(h1:(Lit.int .i64 v.h).wf=true):ViewAt W v lv:=by
 simp [Lit.wf] at h0 h1
 exact ⟨hv,h0.1,h0.2,h1.1,h1.2⟩
end Go.Proofs.YtechjomepdahiaaDoor
