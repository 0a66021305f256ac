import Derived.Test.YtechjomepdahiaaDoorZ0
import Derived.Test.YtechjomepdahiaaDoorAudA
import Derived.Lib.MinMax
import Derived.Deep.Cut
set_option maxRecDepth 100000
set_option linter.unusedVariables false
set_option linter.unusedSimpArgs false
set_option maxHeartbeats 400000
namespace Go.Proofs.YtechjomepdahiaaDoor
open Go.RowKit Go.ChangeShapes Go.WideShapes
def Qt(wb A B:World):Prop:=(wb.heap.size<=A.heap.size->Below wb.heap.size A B)/\A.heap.size<=B.heap.size/\∀ b C ty,ty≠31/\ty≠163->Has A b C ty->Has B b C ty
theorem Qt.refl(wb A:World):Qt wb A A:=⟨fun _=>Below.refl _ _,Nat.le_refl _,fun _ _ _ _ h=>h⟩
theorem Qt.trans{wb a b c:World}(h:Qt wb a b)(k:Qt wb b c):Qt wb a c:=⟨fun e=>(h.1 e).trans (k.1 (Nat.le_trans e h.2.1)),Nat.le_trans h.2.1 k.2.1,fun b C ty hn hh=>k.2.2 b C ty hn (h.2.2 b C ty hn hh)⟩
theorem Qt.ofBelow{wb A B:World}(h:Below A.heap.size A B):Qt wb A B:=⟨fun e=>h.mono e,h.size,fun _ _ _ _ hh=>hh.below h hh.lt⟩
theorem Qt.has{wb A B:World}(h:Qt wb A B){b:Nat}{C:List Value}{ty:TypeId}(hh:Has A b C ty)(hn:ty≠31/\ty≠163):Has B b C ty:=h.2.2 b C ty hn hh
inductive ErrT (sa:Nat->Addr) (w:World):Value->List Int->Nat->Prop
 | sent (k:Nat) (hk:k<8):ErrT sa w (.iface 186 (.pointer (some (sa k)))) [] (k+1)
 | fault (b:Nat) (at_:Int) (e:Value) (ps:List Int) (c:Nat) (h:Has w b [.int .i64 at_,e] 134) (k:ErrT sa w e ps c):ErrT sa w (.iface 132 (.pointer (some ⟨b,0,none⟩))) (at_ :: ps) c
theorem ErrT.has{sa:Nat->Addr}{w w':World}{e:Value}{ps:List Int}{c:Nat}(h:ErrT sa w e ps c)(hk:∀ b C,Has w b C 134->Has w' b C 134):ErrT sa w' e ps c:=by
 induction h with
 | sent k hk8=>exact ErrT.sent k hk8
 | fault b at_ e ps c hh _ ih=>exact ErrT.fault b at_ e ps c (hk _ _ hh) ih
theorem ErrT.keep{sa:Nat->Addr}{w w':World}{e:Value}{ps:List Int}{c:Nat}(h:ErrT sa w e ps c)(hb:Below w.heap.size w w'):ErrT sa w' e ps c:=h.has fun _ _ hh=>hh.below hb hh.lt
theorem ErrT.qt{sa:Nat->Addr}{wb w w':World}{e:Value}{ps:List Int}{c:Nat}(h:ErrT sa w e ps c)(hq:Qt wb w w'):ErrT sa w' e ps c:=h.has fun _ _ hh=>hq.has hh (by decide)
theorem ErrT.iface{sa:Nat->Addr}{w:World}{e:Value}{ps:List Int}{c:Nat}(h:ErrT sa w e ps c):∃ T v,e=.iface T v:=by
 cases h with
 | sent k hk=>exact ⟨_,_,rfl⟩
 | fault b at_ e ps c hh _=>exact ⟨_,_,rfl⟩
structure Tells (sa:Nat->Addr) (wb:World) (go:Bool) (N:Nat) (gf:Nat) (lb:Array Value) (J:List Fnd->World->Prop):Prop where
 enter:∀ args w',(callFunc gf args).run Tryd.prog w'=.ok (.enter gf args) w'
 keep:∀ t A B,J t A->Below A.heap.size A B->J t B
 step:∀ t u path code W,(go=true\/t=[])->t.length<N->J t W->Below wb.heap.size wb W->ErrT sa W u path code->Calls Tryd.prog gf (#[u]++lb) W (fun e W'=>e=.returned (.bool go)/\J (t++[(path,code)]) W'/\Qt wb W W')
theorem eR(sa:Nat->Addr)(w:World)(i:Int)(T:TypeId)(x:Value)(ps:List Int)(c:Nat)(h:ErrT sa w (.iface T x) ps c):ErrT sa (w.alloc (.cells #[.int .i64 i,.iface T x] 134)) (.iface 132 (.pointer (some ⟨w.heap.size,0,none⟩))) (i :: ps) c:=by
 have hH:=Has.new w [.int .i64 i,.iface T x] 134;exact ErrT.fault _ _ _ ps c hH (h.keep (af _ _))
end Go.Proofs.YtechjomepdahiaaDoor
