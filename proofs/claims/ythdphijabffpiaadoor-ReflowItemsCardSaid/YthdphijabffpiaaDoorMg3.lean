import Derived.Test.YthdphijabffpiaaDoorZ0
import Derived.Test.YthdphijabffpiaaDoorCellP
import Derived.Test.YthdphijabffpiaaDoorMg1
import Derived.Test.YthdphijabffpiaaDoorErrS
import Derived.Deep.Cut
import Derived.Deep.CutRange
import Derived.Deep.MidRow
import Derived.Test.YthdphijabffpiaaDoorCellO
import Derived.Lib.MinMax
import Derived.Test.YthdphijabffpiaaDoorRowR
set_option maxRecDepth 100000
set_option linter.unusedVariables false
set_option linter.unusedSimpArgs false
set_option maxHeartbeats 400000
namespace Go.Proofs.YthdphijabffpiaaDoor
open Go.RowKit Go.ChangeShapes Go.WideShapes
theorem HeldE.ownedInts{B:Nat}{w:World}{n:Nat}{v:Value}{ty:TypeId}{xs:List Int}(h:w.ownsRow B ty 1 v n (xs.map (Value.int .i32))):HeldE (aR .i32) (fun b=>B<=b) w v xs:=(cl (Z:=fun b=>B<=b) h).held fun _ hb _=>hb
theorem OwnE.some{α:Type}{E:Elem α}{Z:ak}{w:World}{B:Nat}{ty:TypeId}{v:Value}{L:List α}(h:OwnE E Z w B ty v L)(hl:0<L.length):∃ g cap,v=.slice (some ⟨g,0,none⟩) L.length cap/\B<=g/\g<w.heap.size:=by
 obtain ⟨CS,h1,_⟩:=h
 rcases h1.2 with ⟨rfl,h0⟩ | ⟨g,cap,cur,rfl,hB,hg,_⟩
 ·omega
 ·exact ⟨g,cap,rfl,hB,(Array.getElem?_eq_some_iff.1 hg).1⟩
theorem OwnE.zone{α:Type}{E:Elem α}{Z Y:ak}{w:World}{B:Nat}{ty:TypeId}{v:Value}{L:List α}(h:OwnE E Z w B ty v L)(hy:∀ b,b<w.heap.size->Z b->Y b):OwnE E Y w B ty v L:=h.keep (.refl _ _) hy
def bR(c:Cl):List Cl:=if c.1<2 then [(1,c.2)] else if c.1=2 then [(2,c.2)] else []
def ar(L:List Cl):List Cl:=L.flatMap bR
theorem eD(c:Cl):(bR c).length<=1:=by
 unfold bR
 split
 ·simp
 ·split <;> simp
theorem dw(L:List Cl):(ar L).length<=L.length:=by
 unfold ar
 induction L with
 |nil=>simp
 |cons c L ih =>
  rw [List.flatMap_cons,List.length_append,List.length_cons];have:=eD c;omega
theorem eE(L:List Cl)(k:Nat)(h:k<L.length):ar (L.take (k+1))=ar (L.take k)++bR (L.getD k zc):=by
 unfold ar;rw [List.take_succ_eq_append_getElem h,List.flatMap_append]
 simp [List.getD,List.getElem?_eq_getElem h]
theorem bI:(Tryd.prog.info? 59).map (fun i=>(i.zero,i.size,i.bytes))=some (some (.agg #[.int .i64 0,.slice none 0 0]),cellE.size,32):=by kernel_rfl
def ap(c:Cl):Bool:=if c.2.length=0 then c.1 == 1 else (c.1 == 1 || c.1 == 2) && an (1,c.2)
def dM(M:List Cl):List Cl:=M.flatMap fun c=>ofC c.1 c.2
theorem ed:∀ (n:Nat) (L:List Cl),L.length<=n->am L=true->(∀ c ∈ ar L,ap c=true)/\dM (ar L)=L:=by
 intro n
 induction n with
 |zero =>
  intro L hl _;have:L=[]:=List.eq_nil_of_length_eq_zero (by omega);subst this;exact ⟨fun c hc=>absurd hc (List.not_mem_nil),rfl⟩
 |succ n ih =>
  intro L hl hs
  cases L with
  |nil=>exact ⟨fun c hc=>absurd hc (List.not_mem_nil),rfl⟩
  |cons c L =>
   unfold am aA at hs;simp only [Bool.and_eq_true] at hs;obtain ⟨⟨hr1,h3⟩,hs⟩:=hs;simp only [List.length_cons] at hl;have hi:ar (c :: L)=bR c++ar L:=by unfold ar;rw [List.flatMap_cons]
   have hst:∀ (x:Cl) (M:List Cl),dM (x :: M)=ofC x.1 x.2++dM M:=fun x M=>by unfold dM;rw [List.flatMap_cons]
   obtain ⟨K,t⟩:=c
   rcases bF hr1 with ⟨hk,ht⟩ | ⟨hk,h0,i9,hv⟩
   ·simp only at hk ht;subst ht
    rcases hk with rfl | rfl
    ·obtain ⟨i1,i2⟩:=ih L (by omega) hs;rw [hi,show bR (0,[])++ar L=(1,[]) :: ar L from rfl,hst,i2];refine ⟨fun c hc=>?_,by rw [show ofC 1 []=[zc] from by decide];rfl⟩
     rcases List.mem_cons.1 hc with rfl | hc
     ·rfl
     ·exact i1 c hc
    ·simp at h3
   ·simp only at hk h0 i9 hv;have ho:=fun (wide:Int)=>fX (wide:=wide) (t:=t) h0 i9
    rw [fq hv] at ho;have hri:∀ x:Int,x=1\/x=2->ap (x,t)=true:=fun x hx=>by
     unfold ap;rw [if_neg (by simp only;omega)];have:an (1,t)=true:=by
      rw [bQ (.inl rfl),hv];simp only [Bool.and_true,Bool.and_eq_true,decide_eq_true_eq];exact ⟨h0,i9⟩
     rw [this]
     rcases hx with rfl | rfl <;> rfl
    rcases hk with rfl | rfl
    ·obtain ⟨i1,i2⟩:=ih L (by omega) hs;rw [hi,show bR (1,t)++ar L=(1,t) :: ar L from rfl,hst,i2];refine ⟨fun c hc=>?_,by rw [ho];rfl⟩
     rcases List.mem_cons.1 hc with rfl | hc
     ·exact hri 1 (.inl rfl)
     ·exact i1 c hc
    ·have hs:aA true L=true:=hs
     cases L with
     |nil=>cases hs
     |cons d L =>
      unfold aA at hs;simp only [Bool.and_eq_true] at hs;obtain ⟨⟨hd1,jc⟩,hs⟩:=hs;obtain ⟨K',t'⟩:=d;have hk':K'=3:=by simpa using jc
      subst hk';have kC:t'=[]:=by
       rcases bF hd1 with ⟨_,e⟩ | ⟨e,_⟩
       ·exact e
       ·simp at e
      subst kC;simp only [List.length_cons] at hl;obtain ⟨i1,i2⟩:=ih L (by omega) hs;have lG:ar ((2,t) :: (3,[]) :: L)=(2,t) :: ar L:=rfl;rw [lG,hst,i2];refine ⟨fun c hc=>?_,by rw [ho];rfl⟩
      rcases List.mem_cons.1 hc with rfl | hc
      ·exact hri 2 (.inr rfl)
      ·exact i1 c hc
section
section
variable {Z Y S : ak} {w w' : World} {B g gc : Nat} {L : List Cl} {wrap : Bool}
end
theorem dW{L:List Cl}(h:am L=true):∀ k,k<L.length->an (L.getD k zc)=true:=by
 intro k hk;rw [ci] at h;have:=dB hk h;unfold ch at this;simp only [Bool.and_eq_true] at this;exact this.1.1
theorem dX{c:Cl}(h:an c=true):c.2.length<=16:=by
 obtain ⟨k,t⟩:=c;unfold an at h
 split at h
 ·simp at h;simp [h]
 ·simp only [Bool.and_eq_true,decide_eq_true_eq] at h;exact h.1.2
end
section
section
variable (sa : Nat → Addr) (Y : ak) (L : List Cl) (v : Value) (w : World)
end
end
section
section
variable {Z : ak} {w wx wy : World} {B g gc n cap : Nat} {L1 : List Cl} {wrap : Bool}
end
section
variable (sa : Nat → Addr) (Z Y : ak) (B g gc : Nat) (L p : List Cl) (wrap : Bool) (at_ : Int) (v : Value) (w : World)
end
end
section
variable {Yo : ak}
abbrev Ln:=List Cl × Bool
abbrev zl:Ln:=([],false)
def lineE:Elem Ln:=prE cellsE gx
theorem line_rep{Z:ak}{w:World}{C:List Value}{x:Ln}:lineE.rep Z w C x↔∃ v,C=[v,.bool x.2]/\HeldE cellE Z w v x.1:=by
 constructor
 ·rintro ⟨C1,C2,rfl,⟨v,rfl,h⟩,rfl⟩;exact ⟨v,rfl,h⟩
 ·rintro ⟨v,rfl,h⟩;exact ⟨[v],[_],rfl,⟨v,rfl,h⟩,rfl⟩
theorem bA{Z:ak}{w:World}{ao:Option Addr}{n cap:Nat}{L:List Ln}(h:HeldE lineE Z w (.slice ao n cap) L):n=L.length/\n<=cap/\∀ i,i<L.length->∃ b off v,ao=some ⟨b,off,none⟩/\b<w.heap.size/\Z b /\
  w.cell? ⟨b,off+i * 2,none⟩=some v/\w.cell? ⟨b,off+i * 2+1,none⟩=some (.bool (L.getD i zl).2)/\HeldE cellE Z w v (L.getD i zl).1:=by
 obtain ⟨h1,h2,h3⟩:=h.spots;refine ⟨h1,h2,fun i hi=>?_⟩;obtain ⟨b,off,rfl,hb,hz,C,hC,hr⟩:=h3 i hi;obtain ⟨v,rfl,ht⟩:=line_rep.1 hr;exact ⟨b,off,v,rfl,hb,hz,hC 0 (by decide),hC 1 (by decide),ht⟩
structure Rw where
 g:Nat
 gc:Nat
 L:List Cl
 wrap:Bool
def r0:Rw:=⟨0,0,[],false⟩
section
variable {Z Y S : ak} {w w' : World} {B : Nat} {Rs : List Rw}
end
section
variable {S : ak} {w w' : World} {B gg gr wd : Nat} {Rs : List Rw}
end
end
section
section
variable {w w' : World} {B gg wd : Nat} {v : Value} {Xs : List (Option Nat)} {Rs : List Rw}
theorem cV{b:Nat}{C D:Array Value}{t u:TypeId}(h:w.heap[b]? = some (.cells C t (0,0)))(k:w.heap[b]? = some (.cells D u (0,0)))(hn:t≠u):False:=by
 rw [h] at k;simp only [Option.some.injEq,Obj.cells.injEq] at k;exact hn k.2.1
end
end
section
variable {Yo : ak}
theorem dx{α:Type}(l:List α)(d x:α)(i j:Nat)(hi:i<l.length):(l.set i x).getD j d=if j=i then x else l.getD j d:=by
 by_cases e:j=i
 ·subst e;rw [if_pos rfl]
  simp [List.getD,List.getElem?_set_self hi]
 ·rw [if_neg e]
  simp [List.getD,List.getElem?_set_ne (Ne.symm e)]
end
end Go.Proofs.YthdphijabffpiaaDoor
