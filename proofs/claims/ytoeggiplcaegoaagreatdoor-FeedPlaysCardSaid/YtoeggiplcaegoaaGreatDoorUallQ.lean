import Derived.Test.YtoeggiplcaegoaaGreatDoorZ0
import Derived.Test.YtoeggiplcaegoaaGreatDoorUallP
import Derived.Test.YtoeggiplcaegoaaGreatDoorMg2
set_option maxRecDepth 100000
set_option maxHeartbeats 400000
namespace Go.Proofs.YtoeggiplcaegoaaGreatDoor
open Go.RowKit Go.ChangeShapes Go.WideShapes
theorem xC{w:World}{ao:Option Addr}{n cap:Nat}{xs:List Int}{K:Nat}(h:yH w (.slice ao n cap) (bK xs K))(k:Nat)(hk:k<K) :
  ∃ b off,ao=some ⟨b,off,none⟩/\b<w.heap.size/\w.cell? ⟨b,off+k * 5,none⟩=some (.int .i32 (cO xs (cx xs k)).1)/\w.cell? ⟨b,off+k * 5+1,none⟩=some (.int .i64 (cO xs (cx xs k)).2.1) /\
   w.cell? ⟨b,off+k * 5+2,none⟩=some (.int .i64 (cO xs (cx xs k)).2.2.1)/\w.cell? ⟨b,off+k * 5+3,none⟩=some (.int .i64 (cO xs (cx xs k)).2.2.2.1)/\w.cell? ⟨b,off+k * 5+4,none⟩=some (.bool (cO xs (cx xs k)).2.2.2.2):=by
 obtain ⟨ao',cap',he,hc⟩:=h
 cases he
 have Ho:k<(bK xs K).length:=by rw [em];exact hk
 have hx:(bK xs K)[k]=cO xs (cx xs k):=by
  have:=nj xs K k hk;rw [List.getElem?_eq_getElem Ho] at this;exact Option.some.inj this
 have:=hc k Ho;rw [hx] at this;exact this
end Go.Proofs.YtoeggiplcaegoaaGreatDoor
