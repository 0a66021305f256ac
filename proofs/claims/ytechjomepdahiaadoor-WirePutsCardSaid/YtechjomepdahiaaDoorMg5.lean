import Derived.Test.YtechjomepdahiaaDoorZ0
import Derived.Test.YtechjomepdahiaaDoorMg4
import Derived.Test.YtechjomepdahiaaDoorGrdD
import Derived.Test.YtechjomepdahiaaDoorCellU
import Derived.Test.YtechjomepdahiaaDoorCursorD
import Derived.Test.YtechjomepdahiaaDoorMg2
import Derived.Test.YtechjomepdahiaaDoorMg1
set_option maxRecDepth 100000
set_option linter.unusedVariables false
set_option linter.unusedSimpArgs false
set_option maxHeartbeats 400000
namespace Go.Proofs.YtechjomepdahiaaDoor
open Go.RowKit Go.ChangeShapes Go.WideShapes
def GridM(M:Nat)(w:World)(B gg gr wd:Nat)(Rs:List Rw):Prop :=
 M<=w.heap.size/\∃ (Z:an) (cap:Nat),(∀ b,Z b->B<=b/\b<M)/\gg<M/\gr<M/\(∀ i,i<Rs.length->(Rs.getD i r0).g<M/\(Rs.getD i r0).gc<M)/\Has w gg [.int .i64 wd,.slice (some ⟨gr,0,none⟩) Rs.length cap] 111/\B<=gg/\OwnE eO (fun _=>True) w B 112 (.slice (some ⟨gr,0,none⟩) Rs.length cap) (ptrs Rs)/\¬ Z gg/\¬ Z gr/\RowsAt Z w B Rs/\(∀ i,i<Rs.length->(Rs.getD i r0).L.length=wd)/\0<Rs.length/\Rs.length<=1024
theorem GridM.at{M:Nat}{w:World}{B gg gr wd:Nat}{Rs:List Rw}(h:GridM M w B gg gr wd Rs):ge w B gg gr wd Rs:=by
 obtain ⟨hM,Z,cap,h1,k1,k2,k3,h2,h3,h4,h5,h6,h7,h8,h9,h10⟩:=h;exact ⟨Z,cap,fun b hz=>⟨(h1 b hz).1,Nat.lt_of_lt_of_le (h1 b hz).2 hM⟩,h2,h3,h4,h5,h6,h7,h8,h9,h10,fun _ _=>trivial⟩
theorem GridM.keep{M:Nat}{S:an}{w w':World}{B gg gr wd:Nat}{Rs:List Rw}(h:GridM M w B gg gr wd Rs)(hu:Upd S w w')(hs:∀ b,B<=b->b<M->¬ S b):GridM M w' B gg gr wd Rs:=by
 obtain ⟨hM,Z,cap,h1,k1,k2,k3,h2,h3,h4,h5,h6,h7,h8⟩:=h;have hk:=hu.keep;refine ⟨Nat.le_trans hM hu.size,Z,cap,h1,k1,k2,k3,hk.has h2 (hs _ h3 k1),h3,?_,h5,h6,h7.upd hu (fun b hz=>hs b (h1 b hz).1 (h1 b hz).2) (fun i hi=>⟨hs _ (h7.lt i hi).2.2.2 (k3 i hi).1,hs _ (h7.lt i hi).2.2.1 (k3 i hi).2⟩),h8⟩;exact eP (hk.own h4.ptrs fun b hb=>by
  have:gr=b:=by simpa [Value.ownBlock] using hb
  subst this;exact hs _ (h4.lt gr rfl).1 k2)
theorem GridM.below{M:Nat}{w w':World}{B gg gr wd:Nat}{Rs:List Rw}(h:GridM M w B gg gr wd Rs)(hb:Below w.heap.size w w'):GridM M w' B gg gr wd Rs:=h.keep (S:=fun _=>False) (.ofBelow hb) fun _ _ _ e=>e
theorem WrongTold.say{w w':World}{Ls:List Ln}{e:Ending}(h:WrongTold w Ls e w'):∃ a c:Int,e=.returned (.tuple #[.int .i64 a,.int .i64 c])/\((dR Ls/\a = -1)\/(0<=a/\¬ dR Ls))/\Below w.heap.size w w':=by
 obtain ⟨h1,h2,h3⟩:=h
 rcases ia Ls with hg | ⟨i,c,hf⟩
 ·exact ⟨-1,0,h1 hg,.inl ⟨hg,rfl⟩,h3⟩
 ·exact ⟨i,c,h2 i c hf,.inr ⟨by omega,fun hg=>iN hg hf⟩,h3⟩
abbrev Fnd:=List Int × Nat
def ba(L:List Cl)(i:Nat):Nat:=if am (L.getD i zc)=false then 5 else if cW L i=false then 2 else 0
def bK(L:List Cl)(i:Nat):List Fnd:=if ba L i=0 then [] else [([(i:Int)],ba L i)]
def aw(L:List Cl)(k:Nat):List Fnd:=(List.range k).flatMap (bK L)
theorem bL(L:List Cl)(k:Nat):aw L (k+1)=aw L k++bK L k:=by
 unfold aw;rw [List.range_succ,List.flatMap_append]
 simp
def jg(w:Int)(L:List Cl):List Fnd:=if (L.length:Int)=w then [] else [([],4)]
def aO(w:Int)(L:List Cl):List Fnd:=jg w L++aw L L.length
def cU(i:Nat)(t:List Fnd):List Fnd:=t.map fun x=>((i:Int) :: x.1,x.2)
theorem eM(i:Nat):cU i []=[]:=rfl
def ax(w:Int)(Ls:List Ln)(k:Nat):List Fnd:=(List.range k).flatMap fun i=>cU i (aO w (Ls.getD i zl).1)
theorem bn(w:Int)(Ls:List Ln)(k:Nat):ax w Ls (k+1)=ax w Ls k++cU k (aO w (Ls.getD k zl).1):=by
 unfold ax;rw [List.range_succ,List.flatMap_append]
 simp
def aB(n:Int):Bool:=decide (1<=n) && decide (n<=1024)
structure Vw where
 w:Int
 h:Int
 L:List Ln
 r:Int
 c:Int
 pd:Bool
 au:Bool
def eN(v:Vw):List Fnd:=if aB v.w=true/\aB v.h=true/\v.h=(v.L.length:Int) then [] else [([],3)]
def cQ(v:Vw):List Fnd:=if ap v.r v.c v.pd v.w v.h=true then [] else [([],8)]
def bs(v:Vw):List Fnd:=eN v++ax v.w v.L v.L.length++cQ v
def cr(go:Bool)(t:List Fnd):List Fnd:=if go=true then t else t.take 1
theorem gS(go:Bool):cr go []=[]:=by cases go <;> rfl
theorem kq{go:Bool}{x:Fnd}:cr go [x]=[x]:=by cases go <;> rfl
def aH(v:Vw):Bool:=(bs v).isEmpty
def fH(sa:Nat->Addr):Nat->Value
 | 0=>.nilIface
 | c+1=>.iface 186 (.pointer (some (sa c)))
theorem jx(L:List Cl)(i:Nat):(am (L.getD i zc)=false/\ba L i=5)\/(am (L.getD i zc)=true/\(L.getD i zc).1=2/\aG L ((i:Int)+1)≠3/\ba L i=2)\/(am (L.getD i zc)=true/\(L.getD i zc).1=2/\aG L ((i:Int)+1)=3/\ba L i=0) \/
  (am (L.getD i zc)=true/\(L.getD i zc).1=3/\aG L ((i:Int) - 1)≠2/\ba L i=2)\/(am (L.getD i zc)=true/\(L.getD i zc).1=3/\aG L ((i:Int) - 1)=2/\ba L i=0)\/(am (L.getD i zc)=true/\(L.getD i zc).1≠2/\(L.getD i zc).1≠3/\ba L i=0):=by
 unfold ba cW;obtain ⟨x,hx⟩:=ab (L.getD i zc);rw [<-hx];obtain ⟨K,hK⟩:=ab (x.1);obtain ⟨A,hA⟩:=ab (aG L ((i:Int)+1));obtain ⟨B,hB⟩:=ab (aG L ((i:Int) - 1));rw [<-hK,<-hA,<-hB];clear hx hK hA hB
 cases hr:am x with
 |false=>exact .inl ⟨rfl,by simp⟩
 |true =>
  right
  by_cases h2:K=2
  ·subst h2
   by_cases h3:A=3
   ·exact .inr (.inl ⟨rfl,rfl,h3,by simp [h3]⟩)
   ·exact .inl ⟨rfl,rfl,h3,by simp [h3]⟩
  ·by_cases h3:K=3
   ·subst h3
    by_cases h4:B=2
    ·exact .inr (.inr (.inr (.inl ⟨rfl,rfl,h4,by simp [h4]⟩)))
    ·exact .inr (.inr (.inl ⟨rfl,rfl,h4,by simp [h4]⟩))
   ·exact .inr (.inr (.inr (.inr ⟨rfl,h2,h3,by simp [h2,h3]⟩)))
def l1:Elem (Int × Int × List Ln × (Int × Int × Bool) × Bool):=prE (a8 .i64) (prE (a8 .i64) (prE (slE lineE) (prE (prE (a8 .i64) (prE (a8 .i64) jl)) jl)))
theorem em{P:Program}{α:Type}{E:Elem α}{ok:α->Prop}{t:TypeId}(h:cR P E ok t):bj P E ok t:=⟨h.1,fun enc W base fuel cs x hx _=>h.2 enc W base fuel cs x hx⟩
theorem ir{P:Program}{α β:Type}{E:Elem α}{F:Elem β}{ok:α->Prop}{ok':β->Prop}{t:TypeId}{f0 f1:Field}(hu:P.underlying t=some (.struct #[f0,f1]))(hc:P.cellsOf t=E.size+F.size)(h0:f0.offset=0)(h1:f1.offset=E.size)(he:bj P E ok f0.type)(hf:bj P F ok' f1.type):bj P (prE E F) (fun x=>ok x.1/\ok' x.2) t:=by
 refine ⟨hc,fun {H} enc W base fuel cs x h hz=>?_⟩;obtain ⟨y0,y1,n,e,hl,t0,t1⟩:=trod_struct2 hu h;rw [he.1,h0] at t0;rw [hf.1,h1] at t1;have hz2:∀ z ∈ y0.1.weights P f0.type++(y1.1.weights P f1.type++[]),z<=reachBytes:=by
  rw [e] at hz;simp only [DataW.weights,hu] at hz
  simpa [DataW.weightsEach] using hz
 obtain ⟨x0,r0,k0⟩:=he.2 enc W base _ _ _ t0 (fun z h=>hz2 z (List.mem_append.2 (.inl h)));obtain ⟨x1,r1,k1⟩:=hf.2 enc W base _ _ _ t1 (fun z h=>hz2 z (List.mem_append.2 (.inr (List.mem_append.2 (.inl h)))));refine ⟨(x0,x1),⟨_,_,?_,r0,r1⟩,k0,k1⟩;rw [hc] at hl;simp only [List.drop_zero];rw [List.take_of_length_le (l:=List.drop E.size cs) (by simp;omega),List.take_append_drop]
theorem it{P:Program}{α β γ δ κ:Type}{E:Elem α}{F:Elem β}{G:Elem γ}{D:Elem δ}{K:Elem κ}{ok0:α->Prop}{ok1:β->Prop}{ok2:γ->Prop}{ok3:δ->Prop}{ok4:κ->Prop}{t:TypeId}{f0 f1 f2 f3 f4:Field}
  (hu:P.underlying t=some (.struct #[f0,f1,f2,f3,f4])) (hc:P.cellsOf t=E.size+(F.size+(G.size+(D.size+K.size)))) (h0:f0.offset=0) (h1:f1.offset=E.size) (h2:f2.offset=E.size+F.size) (h3:f3.offset=E.size+F.size+G.size) (h4:f4.offset=E.size+F.size+G.size+D.size)
  (he:bj P E ok0 f0.type) (hf:bj P F ok1 f1.type) (hg:bj P G ok2 f2.type) (hd:bj P D ok3 f3.type) (hk:bj P K ok4 f4.type) :
  bj P (prE E (prE F (prE G (prE D K)))) (fun x=>ok0 x.1/\ok1 x.2.1/\ok2 x.2.2.1/\ok3 x.2.2.2.1/\ok4 x.2.2.2.2) t:=by
 refine ⟨hc,fun {H} enc W base fuel cs x h hz=>?_⟩;obtain ⟨xs,n,_,rfl,hl,hlen,u9⟩:=DataW.trod_struct hu h
 match xs,hlen with
 |[y0,y1,y2,y3,y4],_ =>
  have hz2:∀ z ∈ y0.1.weights P f0.type++(y1.1.weights P f1.type++(y2.1.weights P f2.type++(y3.1.weights P f3.type++(y4.1.weights P f4.type++[])))),z<=reachBytes:=by
   simp only [DataW.weights,hu] at hz
   simpa [DataW.weightsEach] using hz
  have t0:DataW.trod enc P W base (fun _=>true) true n f0.type ((cs.drop f0.offset).take (P.cellsOf f0.type))=some y0:=by simpa using u9 0 f0 rfl
  have t1:DataW.trod enc P W base (fun _=>true) true n f1.type ((cs.drop f1.offset).take (P.cellsOf f1.type))=some y1:=by simpa using u9 1 f1 rfl
  have t2:DataW.trod enc P W base (fun _=>true) true n f2.type ((cs.drop f2.offset).take (P.cellsOf f2.type))=some y2:=by simpa using u9 2 f2 rfl
  have t3:DataW.trod enc P W base (fun _=>true) true n f3.type ((cs.drop f3.offset).take (P.cellsOf f3.type))=some y3:=by simpa using u9 3 f3 rfl
  have t4:DataW.trod enc P W base (fun _=>true) true n f4.type ((cs.drop f4.offset).take (P.cellsOf f4.type))=some y4:=by simpa using u9 4 f4 rfl
  rw [he.1,h0] at t0;rw [hf.1,h1] at t1;rw [hg.1,h2] at t2;rw [hd.1,h3] at t3;rw [hk.1,h4] at t4;obtain ⟨x0,r0,k0⟩:=he.2 enc W base _ _ _ t0 (fun z h=>hz2 z (List.mem_append.2 (.inl h)));obtain ⟨x1,r1,k1⟩:=hf.2 enc W base _ _ _ t1 (fun z h=>hz2 z (List.mem_append.2 (.inr (List.mem_append.2 (.inl h)))));obtain ⟨x2,r2,k2⟩:=hg.2 enc W base _ _ _ t2 (fun z h=>hz2 z (List.mem_append.2 (.inr (List.mem_append.2 (.inr (List.mem_append.2 (.inl h)))))));obtain ⟨x3,r3,k3⟩:=hd.2 enc W base _ _ _ t3 (fun z h=>hz2 z (List.mem_append.2 (.inr (List.mem_append.2 (.inr (List.mem_append.2 (.inr (List.mem_append.2 (.inl h)))))))));obtain ⟨x4,r4,k4⟩:=hk.2 enc W base _ _ _ t4 (fun z h=>hz2 z (List.mem_append.2 (.inr (List.mem_append.2 (.inr (List.mem_append.2 (.inr (List.mem_append.2 (.inr (List.mem_append.2 (.inl h)))))))))));refine ⟨(x0,x1,x2,x3,x4),⟨_,_,?_,r0,_,_,rfl,r1,_,_,rfl,r2,_,_,rfl,r3,r4⟩,k0,k1,k2,k3,k4⟩;rw [hc] at hl;rw [List.take_of_length_le (l:=List.drop (E.size+F.size+G.size+D.size) cs) (by simp;omega),ci,ci,ci,List.drop_zero,List.take_append_drop]
theorem iu:bj Tryd.prog cellE (fun _=>True) 85:=by
 have h:=iI (P:=Tryd.prog) Tryd.underlying85 (by kernel_rfl) rfl rfl (dq (k:=.i64) Tryd.underlying3 (by kernel_rfl)) (gW Tryd.underlying25 (by kernel_rfl) (by decide) (dq (k:=.i32) Tryd.underlying21 (by kernel_rfl)));exact ⟨h.1,fun enc W base fuel cs x hx _=>by
  obtain ⟨y,hr,_⟩:=h.2 enc W base fuel cs x hx;exact ⟨y,hr,trivial⟩⟩
theorem j3{H:Type}{enc:TypeId × Value->H}{W:World}{base:Nat}{x:Value}{d:DataW H}{p:List MemPlace}(hv:Value.okWide Tryd.prog W .any base 44 x)(h:DataW.Trod enc Tryd.prog W 0 (fun _=>true) true 44 x d p)(hz:∀ z ∈ d.weights Tryd.prog 44,z<=reachBytes) :
  ∃ (v:Vw) (lv:Value),x=.agg #[.int .i64 v.w,.int .i64 v.h,lv,.int .i64 v.r,.int .i64 v.c,.bool v.pd,.bool v.au]/\HeldE lineE (fun _=>True) W lv v.L/\(Lit.int .i64 v.w).wf=true/\(Lit.int .i64 v.h).wf=true/\∀ l ∈ v.L,l.1.length * 32<=reachBytes:=by
 have hop:bj Tryd.prog l1 _ 44:=it Tryd.underlying44 (by kernel_rfl) rfl rfl rfl rfl rfl (fg (k:=.i64) Tryd.underlying3 (by kernel_rfl)) (fg (k:=.i64) Tryd.underlying3 (by kernel_rfl)) (dV Tryd.underlying29 (by kernel_rfl) (by decide) (ir Tryd.underlying69 (by kernel_rfl) rfl rfl (dV Tryd.underlying67 (by kernel_rfl) (by decide) iu) (em (dC Tryd.underlying4 (by kernel_rfl))))) (em (gk Tryd.underlying42 (by kernel_rfl) rfl rfl rfl (dq (k:=.i64) Tryd.underlying3 (by kernel_rfl)) (dq (k:=.i64) Tryd.underlying3 (by kernel_rfl)) (dC Tryd.underlying4 (by kernel_rfl)))) (em (dC Tryd.underlying4 (by kernel_rfl)));obtain ⟨cs,rfl,_⟩:=okWide_struct Tryd.underlying44 hv;obtain ⟨fuel,hf⟩:=h;obtain ⟨⟨a,b,L,⟨r,c,pd⟩,au⟩,⟨C1,C2,hC,rfl,C3,C4,rfl,rfl,C5,C6,rfl,⟨lv,rfl,hl⟩,C7,C8,rfl,⟨D1,D2,rfl,rfl,D3,D4,rfl,rfl,rfl⟩,rfl⟩,hk⟩:=hop.2 enc W 0 _ _ _ hf hz;have hb:Tryd.prog.bytesOf 85=32:=by kernel_rfl
 refine ⟨⟨a,b,L,r,c,pd,au⟩,lv,?_,hl.zone (fun _ _ _=>trivial),hk.1,hk.2.1,fun l rR=>?_⟩
 ·congr 1
  apply Array.toList_inj.1
  simp only [Value.cells] at hC;rw [hC];rfl
 ·have h9:=(hk.2.2.1.1 l rR).1.2;rw [hb] at h9;exact h9
end Go.Proofs.YtechjomepdahiaaDoor
