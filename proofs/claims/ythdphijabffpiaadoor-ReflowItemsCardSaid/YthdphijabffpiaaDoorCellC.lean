import Derived.Test.YthdphijabffpiaaDoorZ0
import Derived.Test.YthdphijabffpiaaDoorCellB
set_option maxRecDepth 100000
set_option linter.unusedVariables false
set_option linter.unusedSimpArgs false
set_option maxHeartbeats 800000
namespace Go.Proofs.YthdphijabffpiaaDoor
open Go.RowKit Go.ChangeShapes Go.WideShapes
theorem dq(Z:ak)(v:Value)(L:List Cl)(w:World)(hv:HeldE cellE Z w v L):Calls Tryd.prog 55 #[v] w (Gives w (.bool (am L))):=by
 have hl:=hv.max;obtain ⟨ao,cap,rfl⟩:=hv.len;obtain ⟨_,_,hc⟩:=az hv;have HC:=aa hc;clear hc hv
 go_enter Tryd.func55,Tryd.ntmps55
 go_wp2
 go_loopw [3,8] (fun ld i wr=>∃ k:Nat,k<=L.length/\i=.int .i64 k/\ld=.bool (ax L k)/\Hid (aA (ax L k) (L.drop k)=am L)/\Below w.heap.size w wr) (fun _ i _=>L.length - (intOf i).toNat)
 case atStart=>exact ⟨0,Nat.zero_le _,rfl,rfl,aa rfl,Below.refl _ _⟩
 case round =>
  obtain ⟨k,hk,rfl,rfl,HP,gF⟩:=hrel;have gD:=aa gF;clear gF
  by_cases hlt:k<L.length
  ·obtain ⟨b,off,tv,rfl,hb,_,c0,c1,hh⟩:=HC.out k hlt;have g8:=hh.max;have hh:=hh.ints.below gD.out;have c0:=(gD.out.cell (p:=⟨b,off+k * 2,none⟩) hb).trans c0;have c1:=(gD.out.cell (p:=⟨b,off+k * 2+1,none⟩) hb).trans c1;have hs:=aO L k;have gN:=ei hlt HP.out;have g3:=dS hlt HP.out;unfold aK at gN g3;obtain ⟨⟨K,T⟩,gK⟩ : ∃ y,y=L.getD k zc:=⟨_,rfl⟩;rw [<-gK] at c0 hh g8 hs gN g3;simp only at c0 hh g8 hs gN g3;have jr:=aa g3;have ia:=aa gN;have HS:=aa hs;have kM:=aa hh;clear gK g3 gN hs hh HP;obtain ⟨tz9,tc,rfl,_⟩:=kM.out.view;obtain ⟨wk,kT⟩:=ab (wr);have gG:=aa (af wr (.cells #[.int .i64 K,.slice tz9 T.length tc] 74));have HR:=aa (dr K _ T _ (kM.out.below gG.out) g8);generalize ax L k=ld at *
   cases hr:an (K,T) with
   |false =>
    rw [hr] at HR ia;clear jr
    go_wp2_with fail
    refine HR.out.mono ?_;rintro e w2 ⟨rfl,hb2⟩;have hb3:=gD.out.trans ((gG.out.trans (hb2.mono gG.out.size)).mono gD.out.size);go_wp2;go_ret;exact ⟨aj (by rw [ia.out (by simp)];try rfl),hb3⟩
   |true =>
    rw [hr] at HR ia jr;have ji:(K=3/\(K == 3)=true/\(K == 2)=false)\/((K == 3)=false/\K=2/\(K == 2)=true)\/((K == 3)=false/\(K == 2)=false):=by
     by_cases h3:K=3
     ·exact .inl ⟨h3,by simpa using h3,by simp;omega⟩
     ·by_cases h2:K=2
      · exact .inr (.inl ⟨by simpa using h3,h2,by simpa using h2⟩)
      · exact .inr (.inr ⟨by simpa using h3,by simpa using h2⟩)
    rcases ji with ⟨hk0,hk3,hk2⟩ | ⟨hk3,hk0,hk2⟩ | ⟨hk3,hk2⟩ <;> cases ld
    all_goals
     rw [hk3] at ia jr;rw [hk2] at HS;have gH:=aa (show ∀ w2,Below (wr.alloc (.cells #[.int .i64 K,.slice tz9 T.length tc] 74)).heap.size (wr.alloc (.cells #[.int .i64 K,.slice tz9 T.length tc] 74)) w2->w2.cell? ⟨wr.heap.size,0,none⟩=some (.int .i64 K)/\Below w.heap.size w w2 from fun w2 h=>⟨(h.cell (p:=⟨wr.heap.size,0,none⟩) (by simp)).trans (by rw [cell_of_row _ wr.heap.size 0 _ _ (0,0) (heap_alloc_new wr _)];rfl),gD.out.trans ((gG.out.trans (h.mono gG.out.size)).mono gD.out.size)⟩)
     try subst hk0
     go_wp2_with fail
     refine HR.out.mono ?_;rintro e w2 ⟨rfl,hb2⟩;obtain ⟨hcc,hb3⟩:=gH.out w2 hb2;clear hb2;go_wp2
    all_goals first
     |(go_ret;exact ⟨aj (by rw [ia.out (by rfl)];try rfl),hb3⟩)
     |(go_roundw
       case rel=>exact ⟨k+1,by omega,by go_num,by rw [HS.out],aa (jr.out rfl),hb3⟩
       case measure=>simp [intOf] <;> omega)
  ·obtain rfl:k=L.length:=by omega
   have HE:=aa (ek HP.out);clear HP;generalize ax L L.length=ld at *;go_wp2;go_ret;exact ⟨aj (by rw [HE.out];try rfl),gD.out⟩
end Go.Proofs.YthdphijabffpiaaDoor
