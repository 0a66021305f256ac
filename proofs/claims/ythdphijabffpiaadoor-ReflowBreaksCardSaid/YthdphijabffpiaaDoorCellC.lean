import Derived.Test.YthdphijabffpiaaDoorZ0
import Derived.Test.YthdphijabffpiaaDoorCellB
set_option maxRecDepth 100000
set_option linter.unusedVariables false
set_option linter.unusedSimpArgs false
set_option maxHeartbeats 800000
namespace Go.Proofs.YthdphijabffpiaaDoor
open Go.RowKit Go.ChangeShapes Go.WideShapes
theorem cL(Z:aj)(v:Value)(L:List Cl)(w:World)(hv:HeldE cellE Z w v L):Calls Tryd.prog 55 #[v] w (Gives w (.bool (al L))):=by
 have hl:=hv.max;obtain ⟨ao,cap,rfl⟩:=hv.len;obtain ⟨_,_,hc⟩:=aB hv;have HC:=aa hc;clear hc hv
 go_enter Tryd.func55,Tryd.ntmps55
 go_wp2
 go_loopw [3,8] (fun ld i wr=>∃ k:Nat,k<=L.length/\i=.int .i64 k/\ld=.bool (az L k)/\Hid (aM (az L k) (L.drop k)=al L)/\Below w.heap.size w wr) (fun _ i _=>L.length - (intOf i).toNat)
 case atStart=>exact ⟨0,Nat.zero_le _,rfl,rfl,aa rfl,Below.refl _ _⟩
 case round =>
  obtain ⟨k,hk,rfl,rfl,HP,g3⟩:=hrel;have gW:=aa g3;clear g3
  by_cases hlt:k<L.length
  ·obtain ⟨b,off,tv,rfl,hb,_,c0,c1,hh⟩:=HC.out k hlt;have jn:=hh.max;have hh:=hh.ints.below gW.out;have c0:=(gW.out.cell (p:=⟨b,off+k * 2,none⟩) hb).trans c0;have c1:=(gW.out.cell (p:=⟨b,off+k * 2+1,none⟩) hb).trans c1;have hs:=a8 L k;have im:=eN hlt HP.out;have i9:=ek hlt HP.out;unfold aS at im i9;obtain ⟨⟨K,T⟩,ic⟩ : ∃ y,y=L.getD k zc:=⟨_,rfl⟩;rw [<-ic] at c0 hh jn hs im i9;simp only at c0 hh jn hs im i9;have jY:=aa i9;have js:=aa im;have HS:=aa hs;have l9:=aa hh;clear ic i9 im hs hh HP;obtain ⟨tz9,tc,rfl,_⟩:=l9.out.view;obtain ⟨wk,kU⟩:=ab (wr);have gZ:=aa (af wr (.cells #[.int .i64 K,.slice tz9 T.length tc] 74));have HR:=aa (dJ K _ T _ (l9.out.below gZ.out) jn);generalize az L k=ld at *
   cases hr:ap (K,T) with
   |false =>
    rw [hr] at HR js;clear jY
    go_wp2_with fail
    refine HR.out.mono ?_;rintro e w2 ⟨rfl,hb2⟩;have hb3:=gW.out.trans ((gZ.out.trans (hb2.mono gZ.out.size)).mono gW.out.size);go_wp2;go_ret;exact ⟨ak (by rw [js.out (by simp)];try rfl),hb3⟩
   |true =>
    rw [hr] at HR js jY;have kc:(K=3/\(K == 3)=true/\(K == 2)=false)\/((K == 3)=false/\K=2/\(K == 2)=true)\/((K == 3)=false/\(K == 2)=false):=by
     by_cases h3:K=3
     ·exact .inl ⟨h3,by simpa using h3,by simp;omega⟩
     ·by_cases h2:K=2
      · exact .inr (.inl ⟨by simpa using h3,h2,by simpa using h2⟩)
      · exact .inr (.inr ⟨by simpa using h3,by simpa using h2⟩)
    rcases kc with ⟨ki,hk3,hk2⟩ | ⟨hk3,ki,hk2⟩ | ⟨hk3,hk2⟩ <;> cases ld
    all_goals
     rw [hk3] at js jY;rw [hk2] at HS;have hG:=aa (show ∀ w2,Below (wr.alloc (.cells #[.int .i64 K,.slice tz9 T.length tc] 74)).heap.size (wr.alloc (.cells #[.int .i64 K,.slice tz9 T.length tc] 74)) w2->w2.cell? ⟨wr.heap.size,0,none⟩=some (.int .i64 K)/\Below w.heap.size w w2 from fun w2 h=>⟨(h.cell (p:=⟨wr.heap.size,0,none⟩) (by simp)).trans (by rw [cell_of_row _ wr.heap.size 0 _ _ (0,0) (heap_alloc_new wr _)];rfl),gW.out.trans ((gZ.out.trans (h.mono gZ.out.size)).mono gW.out.size)⟩)
     try subst ki
     go_wp2_with fail
     refine HR.out.mono ?_;rintro e w2 ⟨rfl,hb2⟩;obtain ⟨hcc,hb3⟩:=hG.out w2 hb2;clear hb2;go_wp2
    all_goals first
     |(go_ret;exact ⟨ak (by rw [js.out (by rfl)];try rfl),hb3⟩)
     |(go_roundw
       case rel=>exact ⟨k+1,by omega,by go_num,by rw [HS.out],aa (jY.out rfl),hb3⟩
       case measure=>simp [intOf] <;> omega)
  ·obtain rfl:k=L.length:=by omega
   have HE:=aa (eO HP.out);clear HP;generalize az L L.length=ld at *;go_wp2;go_ret;exact ⟨ak (by rw [HE.out];try rfl),gW.out⟩
end Go.Proofs.YthdphijabffpiaaDoor
