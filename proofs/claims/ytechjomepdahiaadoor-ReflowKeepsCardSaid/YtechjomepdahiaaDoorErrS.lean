import Derived.Test.YtechjomepdahiaaDoorZ0
import Derived.Test.YtechjomepdahiaaDoorProg
import Derived.Test.YtechjomepdahiaaDoorMg1
import Derived.Test.YtechjomepdahiaaDoorRows
import Derived.Handy
import Derived.LaidEql
import Derived.LaidHandle
import Derived.LaidMore
import Derived.Stop.Asserts
import Derived.Stop.LaidErr
import Derived.RowKitTokens
import Derived.Deep.LoopGhost
import Derived.Deep.RegionWith
set_option maxRecDepth 100000
set_option linter.unusedVariables false
set_option linter.unusedSimpArgs false
set_option maxHeartbeats 400000
namespace Go.Proofs.YtechjomepdahiaaDoor
open Go.RowKit Go.ChangeShapes Go.WideShapes
open Go.Extern.Stop Go.Stop Go.Extern
def glob:Nat->Nat
 | 0=>1 | 1=>2 | 2=>3 | 3=>4
 | 4=>0 | 5=>5 | 6=>6 | _=>7
structure Sents (w:World) (sa:Nat->Addr):Prop where
 cell:∀ k,k<8->w.cell? ⟨glob k,0,none⟩=some (.iface 186 (.pointer (some (sa k))))
 row:∀ k,k<8->∃ c t,w.heap[(sa k).block]? = some (.cells c t (0,0))
 ne:∀ i j,i<8->j<8->i≠j->sa i≠sa j
theorem Sents.below{w w':World}{sa:Nat->Addr}(h:Sents w sa)(hb:Below w.heap.size w w'):Sents w' sa where
 cell k hk:=by
  have:=h.cell k hk;exact (hb.cell (p:=⟨glob k,0,none⟩) (World.block_lt_of_cell? _ _ this)).trans this
 row k hk:=by
  obtain ⟨c,t,hr⟩:=h.row k hk;exact ⟨c,t,(hb.block _ (Array.getElem?_eq_some_iff.1 hr).1).trans hr⟩
 ne:=h.ne
end Go.Proofs.YtechjomepdahiaaDoor
