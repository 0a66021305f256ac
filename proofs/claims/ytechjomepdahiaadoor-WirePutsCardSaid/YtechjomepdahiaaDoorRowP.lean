import Derived.Test.YtechjomepdahiaaDoorZ0
import Derived.Test.YtechjomepdahiaaDoorMg3
import Derived.Test.YtechjomepdahiaaDoorMg2
import Derived.Test.YtechjomepdahiaaDoorErrS
import Derived.Test.YtechjomepdahiaaDoorMg1
import Derived.Deep.Cut
import Derived.Deep.CutRange
import Derived.Deep.MidRow
set_option maxRecDepth 100000
set_option linter.unusedVariables false
set_option linter.unusedSimpArgs false
set_option maxHeartbeats 400000
namespace Go.Proofs.YtechjomepdahiaaDoor
open Go.RowKit Go.ChangeShapes Go.WideShapes
def Mid(Z:an)(w wx:World)(B g gc n cap:Nat)(L1:List Cl)(wrap:Bool):Prop :=
 L1.length=n/\Has wx g [.slice (some ⟨gc,0,none⟩) n cap,.bool wrap] 149/\OwnE cellE (fun b=>Z b/\b≠g) wx B 85 (.slice (some ⟨gc,0,none⟩) n cap) L1/\Upd (fun b=>b=g\/b=gc) w wx
section
variable {Z : an} {w wx wy : World} {B g gc n cap : Nat} {L1 : List Cl} {wrap : Bool}
theorem Mid.row(h:Mid Z w wx B g gc n cap L1 wrap):wx.cell? ⟨g,0,none⟩=some (.slice (some ⟨gc,0,none⟩) n cap):=h.2.1.cell 0 _ rfl
theorem Mid.kind(h:Mid Z w wx B g gc n cap L1 wrap){i:Nat}(hi:i<n):wx.cell? ⟨gc,i * 2,none⟩=some (.int .i64 (L1.getD i zc).1):=by
 obtain ⟨C,hC,hr⟩:=h.2.2.1.each.at (i:=i) (by rw [h.1];exact hi);obtain ⟨tv,rfl,_⟩:=cell_rep.1 hr;exact (hC 0 (by decide)).1
theorem Mid.below(h:Mid Z w wx B g gc n cap L1 wrap)(hb:Below wx.heap.size wx wy):Mid Z w wy B g gc n cap L1 wrap :=
 ⟨h.1,h.2.1.below hb h.2.1.lt,h.2.2.1.below hb,h.2.2.2.trans (.ofBelow hb)⟩
theorem Mid.drew(h:Mid Z w wx B g gc n cap L1 wrap):Mid Z w wx.drew B g gc n cap L1 wrap:=h.below (Below.refl _ _).drew
theorem Mid.put(h:Mid Z w wx B g gc n cap L1 wrap)(hne:gc≠g){i:Nat}(_hi:i<n){z:Cl}{w':World}{n':Nat}(hn:n'=n)
  {Zi:Nat->an} (ho:OwnI cellE Zi w' B 85 (.slice (some ⟨gc,0,none⟩) n' cap) (L1.set i z)) (hz:∀ j b,Zi j b->Z b/\b≠g) (hu:Upd (fun b=>b=gc) wx w'):Mid Z w w' B g gc n cap (L1.set i z) wrap:=by
 subst hn;exact ⟨by rw [List.length_set];exact h.1,(hu.keep.has h.2.1 (Ne.symm hne)),ho.all (fun j b _ _ k=>hz j b k),h.2.2.2.trans (hu.mono fun b _ e=>.inr e)⟩
theorem Mid.done(h:Mid Z w wx B g gc n cap L1 wrap)(hB:B<=g)(hne:gc≠g)(h0:0<n)(h1:n<=1024)(hs:aI L1=true):RowAt Z wx B g gc L1 wrap:=by
 obtain ⟨h2,h3,h4,_⟩:=h;subst h2;exact ⟨cap,h3,hB,hne,h4,h0,h1,hs⟩
end
theorem cf{P:Program}{ρ:Operand->Value}{o:Oper}{w:World}{ty:TypeId}{x y:Operand}{b off:Nat}(ho:o.op=.store ty x y)(hx:ρ x=.pointer (some ⟨b,off,none⟩))(C:List Value)(hy:ρ y=.agg C.toArray)(ht:w.there b off C.length)
  (hi:(P.info? ty).map (·.size)=some C.length) (h1:∀ v ∈ C,v.oneCell'=true):(execOp ρ o).run P w=.ok .skip (w.setCells b off C):=by
 have:=run_storeAt_mid (P:=P) w b off ty C.toArray (by simpa using ht) (by simpa using hi) (all_oneCell_toArray h1);unfold execOp;simp only [ho,hx,hy,Sem.run_bind,this,Result.andThen_ok,Sem.run_pure]
section
variable (sa : Nat → Addr) (Z Y : an) (B g gc : Nat) (L p : List Cl) (wrap : Bool) (at_ : Int) (v : Value) (w : World)
end
end Go.Proofs.YtechjomepdahiaaDoor
