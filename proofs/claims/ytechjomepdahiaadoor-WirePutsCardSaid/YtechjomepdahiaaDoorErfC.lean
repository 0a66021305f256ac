import Derived.Test.YtechjomepdahiaaDoorZ0
import Derived.Test.YtechjomepdahiaaDoorProg
import Derived.Test.YtechjomepdahiaaDoorMg1
import Derived.Handy
import Derived.LaidEql
import Derived.LaidHandle
import Derived.Stop.Asserts
import Derived.Stop.LaidErr
import Derived.RowKitTokens
import Derived.Deep.LoopGhost
import Derived.Deep.RegionWith
set_option maxRecDepth 100000
set_option linter.unusedVariables false
set_option linter.unusedSimpArgs false
set_option maxHeartbeats 400000
namespace Go.Proofs.YtechjomepdahiaaDoor.F
open Go.RowKit Go.Extern.Stop Go.Stop Go.Extern
def glob:Nat->Nat
 | 0=>1 | 1=>2 | 2=>3 | 3=>4
 | 4=>0 | 5=>5 | 6=>6 | _=>7
structure Sents (w:World) (sa:Nat->Addr):Prop where
 cell:∀ k,k<8->w.cell? ⟨glob k,0,none⟩=some (.iface 186 (.pointer (some (sa k))))
 row:∀ k,k<8->∃ c t,w.heap[(sa k).block]? = some (.cells c t (0,0))
 ne:∀ i j,i<8->j<8->i≠j->sa i≠sa j
theorem Sents.below{w w':World}{sa:Nat->Addr}(h:Sents w sa)(hb:Below w.heap.size w w'):Sents w' sa where
 cell k hk:=by
  have:=h.cell k hk;exact (hb.cell (p:=⟨glob k,0,none⟩) (World.block_lt_of_cell? _ _ this)).trans this
 row k hk:=by
  obtain ⟨c,t,hr⟩:=h.row k hk;exact ⟨c,t,(hb.block _ (Array.getElem?_eq_some_iff.1 hr).1).trans hr⟩
 ne:=h.ne
inductive IsErr (sa:Nat->Addr) (w:World):Value->List Int->Nat->Prop
 | sent (k:Nat) (hk:k<8):IsErr sa w (.iface 186 (.pointer (some (sa k)))) [] (k+1)
 | fault (b off:Nat) (at_:Int) (e:Value) (ps:List Int) (c:Nat) (h0:w.cell? ⟨b,off,none⟩=some (.int .i64 at_)) (h1:w.cell? ⟨b,off+1,none⟩=some e)
  (h:IsErr sa w e ps c):IsErr sa w (.iface 132 (.pointer (some ⟨b,off,none⟩))) (at_ :: ps) c
theorem IsErr.keep{sa:Nat->Addr}{w w':World}{e:Value}{ps:List Int}{c:Nat}(h:IsErr sa w e ps c)(hb:Below w.heap.size w w'):IsErr sa w' e ps c:=by
 induction h with
 | sent k hk=>exact .sent k hk
 | fault b off at_ e ps c h0 h1 _ ih=>exact .fault b off at_ e ps c ((hb.cell (p:=⟨b,off,none⟩) (World.block_lt_of_cell? _ _ h0)).trans h0) ((hb.cell (p:=⟨b,off+1,none⟩) (World.block_lt_of_cell? _ _ h1)).trans h1) ih
theorem IsErr.num{sa:Nat->Addr}{w:World}{e:Value}{ps:List Int}{c:Nat}(h:IsErr sa w e ps c):1<=c/\c<=8:=by
 induction h with
 | sent k hk=>omega
 | fault b off at_ e ps c h0 h1 _ ih=>exact ih
def ErrV(sa:Nat->Addr)(w:World)(v:Value)(ps:List Int)(c:Nat):Prop:=(v=.nilIface/\ps=[]/\c=0)\/IsErr sa w v ps c
theorem ErrV.below{sa:Nat->Addr}{w w':World}{v:Value}{ps:List Int}{c:Nat}(h:ErrV sa w v ps c)(hb:Below w.heap.size w w'):ErrV sa w' v ps c:=h.imp id (·.keep hb)
theorem isTypeOf(v:Value)(w:World):(Extern.ReflectliteType.typeOf #[.iface 186 v]).run Tryd.prog w=.ok (.iface 156 (.agg #[.pointer (some ⟨8,186,none⟩)])) w:=by kernel_rfl
def comparableEntry : Array Value → Sem Value := Extern.ReflectliteType.method fun t => do Extern.Rtype.noPackHeld "Comparable" t; pure (.bool (← typeInfo t).comparable)
theorem isComparable(w:World):(comparableEntry #[.agg #[.pointer (some ⟨8,186,none⟩)]]).run Tryd.prog w=.ok (.bool true) w:=by kernel_rfl
theorem isMethodComparable (v : Value) (w : World) : (Go.method 323 156 v "Comparable").run Tryd.prog w = .ok (148, v) w := by kernel_rfl
theorem isComp:(Tryd.prog.info? 186).map (·.comparable)=some true:=by kernel_rfl
theorem isSize:(Tryd.prog.info? 211).map (·.size)=some 1:=by kernel_rfl
theorem noIsE(v:Value)(xT:TypeId)(w:World):(Instr.typeAssert (.iface 186 v) xT 158 true).run Tryd.prog w=.ok (.tuple #[.nilIface,.bool false]) w:=run_typeAssert_lacksB Tryd.underlying158 (by kernel_rfl) (by kernel_rfl) v xT w
theorem noUnwrapE(v:Value)(xT:TypeId)(w:World):(Instr.typeAssert (.iface 186 v) xT 160 true).run Tryd.prog w=.ok (.tuple #[.nilIface,.bool false]) w:=run_typeAssert_lacksB Tryd.underlying160 (by kernel_rfl) (by kernel_rfl) v xT w
theorem noUnwrapsE(v:Value)(xT:TypeId)(w:World):(Instr.typeAssert (.iface 186 v) xT 162 true).run Tryd.prog w=.ok (.tuple #[.nilIface,.bool false]) w:=run_typeAssert_lacksB Tryd.underlying162 (by kernel_rfl) (by kernel_rfl) v xT w
theorem IsErr.iface{sa:Nat->Addr}{w:World}{e:Value}{ps:List Int}{c:Nat}(h:IsErr sa w e ps c):∃ T v,e=.iface T v/\v.cells.size=1:=by
 cases h with
 | sent k hk=>exact ⟨_,_,rfl,rfl⟩
 | fault b off at_ e ps c h0 h1 h=>exact ⟨_,_,rfl,rfl⟩
theorem wrong_any(w:World)(at_:Int)(T:TypeId)(u:Value) :
  Calls Tryd.prog 41 #[.int .i64 at_,.iface T u] w fun r w'=>r=.returned (.iface 132 (.pointer (some ⟨w.heap.size,0,none⟩)))/\w.alloc (.cells #[.int .i64 at_,.iface T u] 134)=w':=by
 go_enter Tryd.func41,Tryd.ntmps41
 go_wp2;go_ret;exact ⟨rfl,rfl⟩
end Go.Proofs.YtechjomepdahiaaDoor.F
