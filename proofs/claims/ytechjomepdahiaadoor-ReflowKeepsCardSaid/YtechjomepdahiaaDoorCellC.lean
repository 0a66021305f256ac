import Derived.Test.YtechjomepdahiaaDoorZ0
import Derived.Test.YtechjomepdahiaaDoorCellB
set_option maxRecDepth 100000
set_option linter.unusedVariables false
set_option linter.unusedSimpArgs false
set_option maxHeartbeats 800000
namespace Go.Proofs.YtechjomepdahiaaDoor
open Go.RowKit Go.ChangeShapes Go.WideShapes
theorem da(Z:ai)(v:Value)(L:List Cl)(w:World)(hv:HeldE cellE Z w v L):Calls Tryd.prog 45 #[v] w (Gives w (.bool (aj L))):=by
 have hl:=hv.max;obtain ⟨ao,cap,rfl⟩:=hv.len;obtain ⟨_,_,hc⟩:=aK hv;have HC:=aa hc;clear hc hv
 go_enter Tryd.func45,Tryd.ntmps45
 go_wp2
 go_loopw [3,8] (fun ld i wr=>∃ k:Nat,k<=L.length/\i=.int .i64 k/\ld=.bool (aA L k)/\Hid (az (aA L k) (L.drop k)=aj L)/\Below w.heap.size w wr) (fun _ i _=>L.length - (intOf i).toNat)
 case atStart=>exact ⟨0,Nat.zero_le _,rfl,rfl,aa rfl,Below.refl _ _⟩
 case round =>
  obtain ⟨k,hk,rfl,rfl,HP,fB⟩:=hrel;have fz:=aa fB;clear fB
  by_cases hlt:k<L.length
  ·obtain ⟨b,off,tv,rfl,hb,_,c0,c1,hh⟩:=HC.out k hlt;have iI:=hh.max;have hh:=hh.ints.below fz.out;have c0:=(fz.out.cell (p:=⟨b,off+k * 2,none⟩) hb).trans c0;have c1:=(fz.out.cell (p:=⟨b,off+k * 2+1,none⟩) hb).trans c1;have hs:=aR L k;have gl:=dS hlt HP.out;have fP:=dB hlt HP.out;unfold aM at gl fP;obtain ⟨⟨K,T⟩,fH⟩ : ∃ y,y=L.getD k zc:=⟨_,rfl⟩;rw [<-fH] at c0 hh iI hs gl fP;simp only at c0 hh iI hs gl fP;have gD:=aa fP;have hN:=aa gl;have HS:=aa hs;have HHH:=aa hh;clear fH fP gl hs hh HP;obtain ⟨tz9,tc,rfl,_⟩:=HHH.out.view;obtain ⟨wk,ir⟩:=ab (wr);have fA:=aa (af wr (.cells #[.int .i64 K,.slice tz9 T.length tc] 85));have HR:=aa (db K _ T _ (HHH.out.below fA.out) iI);generalize aA L k=ld at *
   cases hr:ak (K,T) with
   |false =>
    rw [hr] at HR hN;clear gD
    go_wp2_with fail
    refine HR.out.mono ?_;rintro e w2 ⟨rfl,hb2⟩;have hb3:=fz.out.trans ((fA.out.trans (hb2.mono fA.out.size)).mono fz.out.size);go_wp2;go_ret;exact ⟨am (by rw [hN.out (by simp)];try rfl),hb3⟩
   |true =>
    rw [hr] at HR hN gD;have iJ:(K=3/\(K == 3)=true/\(K == 2)=false)\/((K == 3)=false/\K=2/\(K == 2)=true)\/((K == 3)=false/\(K == 2)=false):=by
     by_cases h3:K=3
     ·exact .inl ⟨h3,by simpa using h3,by simp;omega⟩
     ·by_cases h2:K=2
      · exact .inr (.inl ⟨by simpa using h3,h2,by simpa using h2⟩)
      · exact .inr (.inr ⟨by simpa using h3,by simpa using h2⟩)
    rcases iJ with ⟨hk0,hk3,hk2⟩ | ⟨hk3,hk0,hk2⟩ | ⟨hk3,hk2⟩ <;> cases ld
    all_goals
     rw [hk3] at hN gD;rw [hk2] at HS;have fF:=aa (show ∀ w2,Below (wr.alloc (.cells #[.int .i64 K,.slice tz9 T.length tc] 85)).heap.size (wr.alloc (.cells #[.int .i64 K,.slice tz9 T.length tc] 85)) w2->w2.cell? ⟨wr.heap.size,0,none⟩=some (.int .i64 K)/\Below w.heap.size w w2 from fun w2 h=>⟨(h.cell (p:=⟨wr.heap.size,0,none⟩) (by simp)).trans (by rw [cell_of_row _ wr.heap.size 0 _ _ (0,0) (heap_alloc_new wr _)];rfl),fz.out.trans ((fA.out.trans (h.mono fA.out.size)).mono fz.out.size)⟩)
     try subst hk0
     go_wp2_with fail
     refine HR.out.mono ?_;rintro e w2 ⟨rfl,hb2⟩;obtain ⟨hcc,hb3⟩:=fF.out w2 hb2;clear hb2;go_wp2
    all_goals first
     |(go_ret;exact ⟨am (by rw [hN.out (by rfl)];try rfl),hb3⟩)
     |(go_roundw
       case rel=>exact ⟨k+1,by omega,by go_num,by rw [HS.out],aa (gD.out rfl),hb3⟩
       case measure=>simp [intOf] <;> omega)
  ·obtain rfl:k=L.length:=by omega
   have HE:=aa (dT HP.out);clear HP;generalize aA L L.length=ld at *;go_wp2;go_ret;exact ⟨am (by rw [HE.out];try rfl),fz.out⟩
end Go.Proofs.YtechjomepdahiaaDoor
