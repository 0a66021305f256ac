import Derived.Test.YthdphijabffpiaaZ0
import Derived.Test.YthdphijabffpiaaFlnB
set_option maxRecDepth 100000
set_option linter.unusedVariables false
set_option linter.unusedSimpArgs false
set_option maxHeartbeats 3000000
namespace Go.Proofs.Ythdphijabffpiaa
open Go.RowKit Go.ChangeShapes Go.WideShapes
attribute [local go_sem] Oper.semAt_some
theorem fr(v:Value)(xs:List Int)(Wr:Int)(w:World)(hx:Held .i32 w v xs)(hn:xs.length<=1000000):Calls Try.prog 7 #[v,.int .i64 Wr] w (Gives w (.int .i64 ((cC Wr xs).length:Int))):=by
 obtain ⟨W2,hW2⟩:=ab (w.alloc (.cells #[.int .i64 1] 3));have b2:Below w.heap.size w W2:=by rw [hW2];exact iF _ _
 have hs2:W2.heap.size=w.heap.size+1:=by rw [hW2];simp
 have j3:Has W2 w.heap.size [.int .i64 1] 3:=by rw [hW2];exact Has.new w [.int .i64 1] _
 have HWK:=aa (f7 v xs Wr 14 #[.pointer (some ⟨w.heap.size,0,none⟩)] W2 (fun b=>b=w.heap.size) (fun hi t W=>Has W w.heap.size [.int .i64 ((ba t+1:Nat):Int)] 3/\t.length<=1000000) (hx.below b2) hn (enters_of Try.func14 (by kernel_rfl) rfl)
  (fun b e=>by omega)
  (fun hi t A B h hu=>⟨hu.keep.has h.1 (fun e=>by omega),h.2⟩)
  (fun hi W1 hb h1 h2=>⟨j3.below hb j3.lt,Nat.zero_le _⟩)
  (fun hi t W xv T next h1 h2 hj hT hl ht=>by
   have hnl:=gh t;refine (gR w.heap.size (ba t+1) xv next W hj.1 (by omega)).mono ?_;rintro e W' ⟨rfl,h4,h5⟩;have jt:=dw t (T,next);refine ⟨rfl,⟨?_,by rw [List.length_append,List.length_singleton];omega⟩,h5.mono fun b _ e=>.inl e⟩;rw [jt];rw [show ba t+(if (T,next).2=true then 1 else 0)+1=ba t+1+if next=true then 1 else 0 from by simp only;omega];exact h4))
 obtain ⟨ao,ca,rfl⟩:=hx.len;have jl:=aa b2;have HW2:=aa hW2;clear hx b2 hW2 hs2 j3
 go_enter Try.func7,Try.ntmps7
 go_wp2_with fail
 rw [<-HW2.out];refine HWK.out.mono ?_;rintro e w3 ⟨rfl,⟨hi,jj,hj,_⟩,hu⟩;have hl:=dX (bD (bC Wr) (aL xs)).1;rw [<-hl,show dp (bD (bC Wr) (aL xs)).1=cC Wr xs from rfl] at hj;have c1:=hj.cell 0 _ rfl;have HB:=aa (jl.out.upd hu jl.out.size (fun b e=>by omega));clear hj hu hl HWK;obtain ⟨m,hm⟩:=ab ((cC Wr xs).length);rw [<-hm] at c1 ⊢;go_wp2;go_ret;exact ⟨ae,HB.out⟩
end Go.Proofs.Ythdphijabffpiaa
