import Derived.Test.YthdphijabffpiaaDoorZ0
import Derived.Test.YthdphijabffpiaaDoorCellR
import Derived.Test.YthdphijabffpiaaDoorErfA
import Derived.Test.YthdphijabffpiaaDoorMg1
import Derived.Deep.Cut
import Derived.Deep.CutRange
set_option maxRecDepth 100000
set_option linter.unusedVariables false
set_option linter.unusedSimpArgs false
set_option maxHeartbeats 400000
namespace Go.Proofs.YthdphijabffpiaaDoor.F
open Go.RowKit
theorem Handle.keep{w w':World}(h:Handle w)(hb:Below w.heap.size w w'):Handle w':=(hb.cell (p:=⟨8,0,none⟩) (World.block_lt_of_cell? _ _ h)).trans h
theorem bO(w:World)(a:Addr)(v u:Value)(h:w.cell? a=some u):(w.setCell a v).cell? a=some v:=World.cell?_setCell_same' w a v (by rw [h];rfl)
theorem at_any(sa:Nat->Addr)(w:World)(hg:Handle w)(e:Value)(ps:List Int)(c:Nat)(he:ErrV sa w e ps c) :
  Calls Tryd.prog 15 #[e] w fun r w'=>r=.returned (.int .i64 (ps.headD (-1)))/\Below w.heap.size w w':=by
 have hg1:Handle (w.alloc (.cells #[.pointer none] 90)):=hg.keep (af _ _)
 rcases he with ⟨rfl,rfl,rfl⟩ | he
 ·go_enter Tryd.func15,Tryd.ntmps15
  go_wp2;go_ret;exact ⟨rfl,af _ _⟩
 ·cases he with
  |sent k hk =>
   have HM:=aa (dK (sa k) ⟨w.heap.size,0,none⟩ _ hg1);clear hg hg1
   go_enter Tryd.func15,Tryd.ntmps15
   go_wp2_with (go_at_call 52;refine HM.out.mono ?_;rintro e w2 ⟨rfl,hw⟩;have hb2:Below w.heap.size w w2:=(by rw [<-hw];go_grown);clear hw)
   go_ret;exact ⟨rfl,hb2⟩
  |fault b off at_ e' qs _ h0 h1 h =>
   have hlt:b<w.heap.size:=World.block_lt_of_cell? w ⟨b,off,none⟩ h0;have HM:=aa (eD ⟨b,off,none⟩ ⟨w.heap.size,0,none⟩ (.pointer none) _ hg1 (by simp) (by simp));have H0:=aa h0;clear hg hg1 h h1 h0
   go_enter Tryd.func15,Tryd.ntmps15
   go_wp2_with (go_at_call 52;refine HM.out.mono ?_;rintro e w2 ⟨rfl,hw⟩;have hb2:Below w.heap.size w w2:=(by rw [<-hw];go_grown);have hct:w2.cell? ⟨w.heap.size,0,none⟩=some (.pointer (some ⟨b,off,none⟩)):=(by rw [<-hw];exact bO _ _ _ (.pointer none) (by rw [World.cell?_alloc_lt _ _ ⟨w.heap.size,0,none⟩ (by simp;omega),World.cell?_alloc_lt _ _ ⟨w.heap.size,0,none⟩ (by simp;omega),World.cell?_alloc_lt _ _ ⟨w.heap.size,0,none⟩ (by simp;omega),World.cell?_alloc_lt _ _ ⟨w.heap.size,0,none⟩ (by simp)];simp));have hc0:w2.cell? ⟨b,off,none⟩=some (.int .i64 at_):=(hb2.cell (p:=⟨b,off,none⟩) hlt).trans H0.out;clear hw)
   go_ret;exact ⟨rfl,hb2⟩
end Go.Proofs.YthdphijabffpiaaDoor.F
namespace Go.Proofs.YthdphijabffpiaaDoor.F
open Go.RowKit
theorem within_any(sa:Nat->Addr)(w:World)(hg:Handle w)(e:Value)(ps:List Int)(c:Nat)(he:ErrV sa w e ps c) :
  Calls Tryd.prog 16 #[e] w fun r w'=>r=.returned (.int .i64 (ps.tail.headD (-1)))/\Below w.heap.size w w':=by
 have hg1:Handle (w.alloc (.cells #[.pointer none] 90)):=hg.keep (af _ _)
 rcases he with ⟨rfl,rfl,rfl⟩ | he
 ·go_enter Tryd.func16,Tryd.ntmps16
  go_wp2;go_ret;exact ⟨rfl,af _ _⟩
 ·cases he with
  |sent k hk =>
   have HM:=aa (dK (sa k) ⟨w.heap.size,0,none⟩ _ hg1);clear hg hg1
   go_enter Tryd.func16,Tryd.ntmps16
   go_wp2_with (go_at_call 52;refine HM.out.mono ?_;rintro e w2 ⟨rfl,hw⟩;have hb2:Below w.heap.size w w2:=(by rw [<-hw];go_grown);clear hw)
   go_ret;exact ⟨rfl,hb2⟩
  |fault b off at_ e' qs _ h0 h1 h =>
   have hlt:b<w.heap.size:=World.block_lt_of_cell? w ⟨b,off,none⟩ h0;have HM:=aa (eD ⟨b,off,none⟩ ⟨w.heap.size,0,none⟩ (.pointer none) _ hg1 (by simp) (by simp));have H0:=aa h1;have HIN:=aa (fun (w2:World) (hb:Below w.heap.size w w2)=>at_any sa w2 (hg.keep hb) e' qs c (.inr (h.keep hb)));obtain ⟨q,hq⟩:=ab (qs.headD (-1));rw [<-hq] at HIN;have HQ:=aa hq;clear hq;clear hg hg1 h h1 h0
   go_enter Tryd.func16,Tryd.ntmps16
   go_wp2_with (go_at_call 52;refine HM.out.mono ?_;rintro e w2 ⟨rfl,hw⟩;have hb2:Below w.heap.size w w2:=(by rw [<-hw];go_grown);have hct:w2.cell? ⟨w.heap.size,0,none⟩=some (.pointer (some ⟨b,off,none⟩)):=(by rw [<-hw];exact bO _ _ _ (.pointer none) (by rw [World.cell?_alloc_lt _ _ ⟨w.heap.size,0,none⟩ (by simp;omega),World.cell?_alloc_lt _ _ ⟨w.heap.size,0,none⟩ (by simp;omega),World.cell?_alloc_lt _ _ ⟨w.heap.size,0,none⟩ (by simp;omega),World.cell?_alloc_lt _ _ ⟨w.heap.size,0,none⟩ (by simp)];simp));have hc0:w2.cell? ⟨b,off+1,none⟩=some e':=(hb2.cell (p:=⟨b,off+1,none⟩) hlt).trans H0.out;clear hw)
   refine (HIN.out w2 hb2).mono ?_;rintro e w3 ⟨rfl,b3⟩;have gF:=aa (hb2.trans (b3.mono hb2.size));clear b3 hc0 hct hb2;go_wp2;go_ret;exact ⟨by rw [show (at_ :: qs).tail.headD (-1)=q from HQ.out.symm];rfl,gF.out⟩
end Go.Proofs.YthdphijabffpiaaDoor.F
