import Derived.Test.YtechjomepdahiaaDoorZ0
import Derived.Test.YtechjomepdahiaaDoorCellR
set_option maxRecDepth 100000
set_option linter.unusedVariables false
set_option linter.unusedSimpArgs false
set_option maxHeartbeats 1600000
namespace Go.Proofs.YtechjomepdahiaaDoor
open Go.RowKit Go.ChangeShapes Go.WideShapes
theorem it(Z:an)(v:Value)(L:List Cl)(w:World)(hv:HeldE cellE Z w v L):Calls Tryd.prog 37 #[v] w (Gives w (.bool (cV L L.length))):=by
 have hl:=hv.max;have HV:=aa hv;obtain ⟨ao,cap,rfl⟩:=hv.len;obtain ⟨_,_,hc⟩:=bs hv;have HC:=aa hc;clear hc hv
 go_enter Tryd.func37,Tryd.ntmps37
 go_wp2
 go_loopw [3] (fun i wr=>∃ k:Nat,k<=L.length/\i=.int .i64 k/\Hid (cV L k=true)/\Below w.heap.size w wr) (fun i _=>L.length - (intOf i).toNat)
 case atStart=>exact ⟨0,Nat.zero_le _,rfl,aa rfl,Below.refl _ _⟩
 case round =>
  obtain ⟨k,hk,rfl,HP,o2⟩:=hrel;have nG:=aa o2;clear o2
  by_cases hlt:k<L.length
  ·obtain ⟨b,off,tv,rfl,hb,_,c0,c1,hh⟩:=HC.out k hlt;have qW:=hh.max;have hh:=hh.ints.below nG.out;have mi:cV L (k+1)=cR L k:=by rw [fw,HP.out];rfl
   have mt:=fun h=>j4 (l:=L) (n:=L.length) hlt h
   unfold cR at mi mt;have vT:=aa (fun w2 (hb2:Below w.heap.size w w2)=>gN Z _ L ((k:Int)+1) w2 (HV.out.below hb2) hl);have xg:=aa (fun w2 (hb2:Below w.heap.size w w2)=>gN Z _ L ((k:Int) - 1) w2 (HV.out.below hb2) hl);obtain ⟨n1,nC⟩:=ab (aF L ((k:Int)+1));obtain ⟨n2,qS⟩:=ab (aF L ((k:Int) - 1));rw [<-nC] at mi mt vT;rw [<-qS] at mi mt xg;obtain ⟨⟨K,T⟩,rd⟩ : ∃ y,y=L.getD k zc:=⟨_,rfl⟩;rw [<-rd] at c0 hh qW mi mt;simp only at c0 hh qW mi mt;have nu:=aa mi;have mm:=aa mt;have HHH:=aa hh;have pg:=aa (show ∀ w2,Below w.heap.size w w2->w2.cell? ⟨b,off+k * 2,none⟩=some (.int .i64 K)/\w2.cell? ⟨b,off+k * 2+1,none⟩=some tv from fun w2 h=>⟨(h.cell (p:=⟨b,off+k * 2,none⟩) hb).trans c0,(h.cell (p:=⟨b,off+k * 2+1,none⟩) hb).trans c1⟩);clear rd mi mt nC qS hh HP c0 c1 hb;obtain ⟨tz9,tc,rfl,_⟩:=HHH.out.view;have HR:=aa (iu K _ T wr HHH.out qW);have w1:IntKind.i64.wrap ((k:Int)+1)=(k:Int)+1:=by rw [IntKind.wrap_i64];omega
   obtain ⟨c0,c1⟩:=pg.out wr nG.out
   cases hr:am (K,T) with
   |false =>
    rw [hr] at HR mm
    go_wp2_with fail
    refine HR.out.mono ?_;rintro e w2 ⟨rfl,hb2⟩;have hb3:=nG.out.trans (hb2.mono nG.out.size);clear c0 c1;go_wp2;go_ret;exact ⟨aB (by rw [mm.out (by simp)];try rfl),hb3⟩
   |true =>
    rw [hr] at HR mm nu;have sH:(K=2/\(K == 3)=false/\(K == 2)=true/\((n1=3/\(n1 != 3)=false)\/(n1 != 3)=true))\/(K=3/\(K == 2)=false/\(K == 3)=true/\((n2=2/\(n2 != 2)=false)\/(n2 != 2)=true))\/((K == 3)=false/\(K == 2)=false):=by
     by_cases h2:K=2
     ·exact .inl ⟨h2,by simp;omega,by simpa using h2,by by_cases h:n1=3 <;> simp [h]⟩
     ·by_cases h3:K=3
      ·exact .inr (.inl ⟨h3,by simp;omega,by simpa using h3,by by_cases h:n2=2 <;> simp [h]⟩)
      ·exact .inr (.inr ⟨by simpa using h3,by simpa using h2⟩)
    rcases sH with ⟨rfl,h3,h2,⟨rfl,h1⟩ | h1⟩ | ⟨rfl,h2,h3,⟨rfl,h1⟩ | h1⟩ | ⟨h3,h2⟩
    ·rw [h3,h2,h1] at nu
     go_wp2_with fail
     refine HR.out.mono ?_;rintro e w2 ⟨rfl,hb2⟩;have hb3:=nG.out.trans (hb2.mono nG.out.size);clear c0 c1 hb2;obtain ⟨c0,c1⟩:=pg.out w2 hb3
     go_wp2_with fail
     refine (vT.out w2 hb3).mono ?_;rintro e w3 ⟨rfl,hb4⟩;have l6:=hb3.trans (hb4.mono hb3.size);clear c0 c1 hb4;obtain ⟨c0,c1⟩:=pg.out w3 l6;go_wp2
     go_roundw
     case rel=>exact ⟨k+1,by omega,by go_num,aa (by rw [nu.out];rfl),l6⟩
     case measure=>simp [intOf] <;> omega
    ·rw [h3,h2,h1] at mm
     go_wp2_with fail
     refine HR.out.mono ?_;rintro e w2 ⟨rfl,hb2⟩;have hb3:=nG.out.trans (hb2.mono nG.out.size);clear c0 c1 hb2;obtain ⟨c0,c1⟩:=pg.out w2 hb3
     go_wp2_with fail
     refine (vT.out w2 hb3).mono ?_;rintro e w3 ⟨rfl,hb4⟩;have l6:=hb3.trans (hb4.mono hb3.size);clear c0 c1 hb4;go_wp2;go_ret;exact ⟨aB (by rw [mm.out rfl];try rfl),l6⟩
    ·rw [h3,h2,h1] at nu
     go_wp2_with fail
     refine HR.out.mono ?_;rintro e w2 ⟨rfl,hb2⟩;have hb3:=nG.out.trans (hb2.mono nG.out.size);clear c0 c1 hb2;obtain ⟨c0,c1⟩:=pg.out w2 hb3
     go_wp2_with fail
     refine (xg.out w2 hb3).mono ?_;rintro e w3 ⟨rfl,hb4⟩;have l6:=hb3.trans (hb4.mono hb3.size);clear c0 c1 hb4;go_wp2
     go_roundw
     case rel=>exact ⟨k+1,by omega,by go_num,aa (by rw [nu.out];rfl),l6⟩
     case measure=>simp [intOf] <;> omega
    ·rw [h3,h2,h1] at mm
     go_wp2_with fail
     refine HR.out.mono ?_;rintro e w2 ⟨rfl,hb2⟩;have hb3:=nG.out.trans (hb2.mono nG.out.size);clear c0 c1 hb2;obtain ⟨c0,c1⟩:=pg.out w2 hb3
     go_wp2_with fail
     refine (xg.out w2 hb3).mono ?_;rintro e w3 ⟨rfl,hb4⟩;have l6:=hb3.trans (hb4.mono hb3.size);clear c0 c1 hb4;go_wp2;go_ret;exact ⟨aB (by rw [mm.out rfl];try rfl),l6⟩
    ·rw [h3,h2] at nu
     go_wp2_with fail
     refine HR.out.mono ?_;rintro e w2 ⟨rfl,hb2⟩;have hb3:=nG.out.trans (hb2.mono nG.out.size);clear c0 c1 hb2;obtain ⟨c0,c1⟩:=pg.out w2 hb3;go_wp2
     go_roundw
     case rel=>exact ⟨k+1,by omega,by go_num,aa (by rw [nu.out];rfl),hb3⟩
     case measure=>simp [intOf] <;> omega
  ·obtain rfl:k=L.length:=by omega
   go_wp2;go_ret;exact ⟨aB (by rw [HP.out];try rfl),nG.out⟩
end Go.Proofs.YtechjomepdahiaaDoor
