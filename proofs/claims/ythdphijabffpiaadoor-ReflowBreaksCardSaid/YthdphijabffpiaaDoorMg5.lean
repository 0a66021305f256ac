import Derived.Test.YthdphijabffpiaaDoorZ0
import Derived.Test.YthdphijabffpiaaDoorRflB
import Derived.Test.YthdphijabffpiaaDoorMg2
import Derived.Test.YthdphijabffpiaaDoorMg4
set_option maxRecDepth 100000
set_option linter.unusedVariables false
set_option linter.unusedSimpArgs false
set_option maxHeartbeats 400000
namespace Go.Proofs.YthdphijabffpiaaDoor
open Go.RowKit Go.ChangeShapes Go.WideShapes
def rlE:Elem (Value × Bool) where
 size:=2
 zero:=(.slice none 0 0,false)
 rep:=fun _ _ C x=>C=[x.1,.bool x.2]/\x.1.oneCell'=true
 len:=by rintro _ _ _ _ ⟨rfl,_⟩;rfl
 one:=by
  rintro _ _ _ _ ⟨rfl,h⟩ u hu
  simp at hu
  rcases hu with rfl | rfl
  ·exact h
  ·rfl
 keep:=fun _ _ h=>h
def zrl:Value × Bool:=(.slice none 0 0,false)
theorem gD:(Tryd.prog.info? 30).map (fun i=>(i.zero,i.size,i.bytes))=some (some (.agg #[.slice none 0 0,.bool false]),rlE.size,32):=by kernel_rfl
theorem dQ{α:Type}{E:Elem α}{Z:aj}{w:World}{B:Nat}{ty:TypeId}{v:Value}{L:List α}(h:OwnE E Z w B ty v L)(hne:L≠[]):∃ g cap,v=.slice (some ⟨g,0,none⟩) L.length cap:=by
 obtain ⟨CS,h1,_,_⟩:=h
 rcases h1.2 with ⟨e,h2⟩ | ⟨g',cap',cur,e,_⟩
 ·exfalso;have:L.length=0:=by simp at h2 ⊢;first | exact h2 | omega | (simp_all)
  exact hne (List.eq_nil_of_length_eq_zero this)
 ·exact ⟨g',cap',e⟩
theorem gJ{Z:aj}{w:World}{B g n cap:Nat}{ty:TypeId}{vs:List (Value × Bool)}(h:OwnE rlE Z w B ty (.slice (some ⟨g,0,none⟩) n cap) vs){i:Nat}(hi:i<vs.length):w.cell? ⟨g,i * 2,none⟩=some (vs.getD i zrl).1/\w.cell? ⟨g,i * 2+1,none⟩=some (.bool (vs.getD i zrl).2)/\w.frozen? ⟨g,i * 2+1,none⟩=false:=by
 obtain ⟨C,hC,hr,_⟩:=(OwnE.each h).at hi;subst hr;have h0:=(hC 0 (by decide)).1;have h1:=hC 1 (by decide);exact ⟨h0,h1.1,h1.2⟩
theorem gE{Z:aj}{w:World}{B g n cap i:Nat}{ty:TypeId}{vs:List (Value × Bool)}(h:OwnE rlE Z w B ty (.slice (some ⟨g,0,none⟩) n cap) vs)(hi:i<vs.length)(b:Bool):OwnE rlE Z (w.setCell ⟨g,i * 2+1,none⟩ (.bool b)) B ty (.slice (some ⟨g,0,none⟩) n cap) (vs.set i ((vs.getD i zrl).1,b)):=by
 obtain ⟨CS,h1,h2,h3⟩:=h;have ip:=a9 h2 h3;have hn:n=vs.length:=by
  rcases h1.2 with ⟨e,_⟩ | ⟨g',cap',cur,e,_⟩
  ·cases e
  ·simp only [Value.slice.injEq] at e;exact e.2.1
 subst hn;have hst:=(h1.stored (i * 2+1) (.bool b)).1;have kG:=di ip i 1 (.bool b) (by omega) (by decide);rw [show rlE.size=2 from rfl] at kG;rw [kG] at hst;refine ⟨_,by rw [List.length_set];exact hst,by simp [h2],fun j hj=>?_⟩;rw [List.length_set] at hj;have lA:=h3 j hj
 by_cases e:j=i
 ·subst e;obtain ⟨hv,hh⟩:=lA;rw [show (CS.set j ((CS.getD j []).set 1 (.bool b))).getD j []=(CS.getD j []).set 1 (.bool b) from by simp [List.getD,List.getElem?_set_self (show j<CS.length by omega)],hv,bX _ _ _ _ _ hj,if_pos rfl];exact ⟨rfl,hh⟩
 ·rw [show (CS.set i ((CS.getD i []).set 1 (.bool b))).getD j []=CS.getD j [] from by simp [List.getD,List.getElem?_set,Ne.symm e],bX _ _ _ _ _ hi,if_neg e];exact lA
end Go.Proofs.YthdphijabffpiaaDoor
