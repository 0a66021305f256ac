import Derived.Test.YthdphijabffpiaaDoorZ0
import Derived.Test.YthdphijabffpiaaDoorCellR
set_option maxRecDepth 100000
set_option linter.unusedVariables false
set_option linter.unusedSimpArgs false
set_option maxHeartbeats 1600000
namespace Go.Proofs.YthdphijabffpiaaDoor
open Go.RowKit Go.ChangeShapes Go.WideShapes
theorem eZ(Z:aj)(v:Value)(L:List Cl)(w:World)(hv:HeldE cellE Z w v L):Calls Tryd.prog 32 #[v] w (Gives w (.bool (ch L L.length))):=by
 have hl:=hv.max;have HV:=aa hv;obtain ⟨ao,cap,rfl⟩:=hv.len;obtain ⟨_,_,hc⟩:=aB hv;have HC:=aa hc;clear hc hv
 go_enter Tryd.func32,Tryd.ntmps32
 go_wp2
 go_loopw [3] (fun i wr=>∃ k:Nat,k<=L.length/\i=.int .i64 k/\Hid (ch L k=true)/\Below w.heap.size w wr) (fun i _=>L.length - (intOf i).toNat)
 case atStart=>exact ⟨0,Nat.zero_le _,rfl,aa rfl,Below.refl _ _⟩
 case round =>
  obtain ⟨k,hk,rfl,HP,g3⟩:=hrel;have gW:=aa g3;clear g3
  by_cases hlt:k<L.length
  ·obtain ⟨b,off,tv,rfl,hb,_,c0,c1,hh⟩:=HC.out k hlt;have jn:=hh.max;have hh:=hh.ints.below gW.out;have kd:ch L (k+1)=cH L k:=by rw [fE,HP.out];rfl
   have im:=fun h=>fZ (l:=L) (n:=L.length) hlt h
   unfold cH at kd im;have kx:=aa (fun w2 (hb2:Below w.heap.size w w2)=>eF Z _ L ((k:Int)+1) w2 (HV.out.below hb2) hl);have ke:=aa (fun w2 (hb2:Below w.heap.size w w2)=>eF Z _ L ((k:Int) - 1) w2 (HV.out.below hb2) hl);obtain ⟨n1,jL⟩:=ab (aH L ((k:Int)+1));obtain ⟨n2,hn2⟩:=ab (aH L ((k:Int) - 1));rw [<-jL] at kd im kx;rw [<-hn2] at kd im ke;obtain ⟨⟨K,T⟩,ic⟩ : ∃ y,y=L.getD k zc:=⟨_,rfl⟩;rw [<-ic] at c0 hh jn kd im;simp only at c0 hh jn kd im;have le:=aa kd;have js:=aa im;have l9:=aa hh;have iS:=aa (show ∀ w2,Below w.heap.size w w2->w2.cell? ⟨b,off+k * 2,none⟩=some (.int .i64 K)/\w2.cell? ⟨b,off+k * 2+1,none⟩=some tv from fun w2 h=>⟨(h.cell (p:=⟨b,off+k * 2,none⟩) hb).trans c0,(h.cell (p:=⟨b,off+k * 2+1,none⟩) hb).trans c1⟩);clear ic kd im jL hn2 hh HP c0 c1 hb;obtain ⟨tz9,tc,rfl,_⟩:=l9.out.view;have HR:=aa (e7 K _ T wr l9.out jn);have w1:IntKind.i64.wrap ((k:Int)+1)=(k:Int)+1:=by rw [IntKind.wrap_i64];omega
   obtain ⟨c0,c1⟩:=iS.out wr gW.out
   cases hr:ap (K,T) with
   |false =>
    rw [hr] at HR js
    go_wp2_with fail
    refine HR.out.mono ?_;rintro e w2 ⟨rfl,hb2⟩;have hb3:=gW.out.trans (hb2.mono gW.out.size);clear c0 c1;go_wp2;go_ret;exact ⟨ak (by rw [js.out (by simp)];try rfl),hb3⟩
   |true =>
    rw [hr] at HR js le;have kc:(K=2/\(K == 3)=false/\(K == 2)=true/\((n1=3/\(n1 != 3)=false)\/(n1 != 3)=true))\/(K=3/\(K == 2)=false/\(K == 3)=true/\((n2=2/\(n2 != 2)=false)\/(n2 != 2)=true))\/((K == 3)=false/\(K == 2)=false):=by
     by_cases h2:K=2
     ·exact .inl ⟨h2,by simp;omega,by simpa using h2,by by_cases h:n1=3 <;> simp [h]⟩
     ·by_cases h3:K=3
      ·exact .inr (.inl ⟨h3,by simp;omega,by simpa using h3,by by_cases h:n2=2 <;> simp [h]⟩)
      ·exact .inr (.inr ⟨by simpa using h3,by simpa using h2⟩)
    rcases kc with ⟨rfl,h3,h2,⟨rfl,h1⟩ | h1⟩ | ⟨rfl,h2,h3,⟨rfl,h1⟩ | h1⟩ | ⟨h3,h2⟩
    ·rw [h3,h2,h1] at le
     go_wp2_with fail
     refine HR.out.mono ?_;rintro e w2 ⟨rfl,hb2⟩;have hb3:=gW.out.trans (hb2.mono gW.out.size);clear c0 c1 hb2;obtain ⟨c0,c1⟩:=iS.out w2 hb3
     go_wp2_with fail
     refine (kx.out w2 hb3).mono ?_;rintro e w3 ⟨rfl,hb4⟩;have hO:=hb3.trans (hb4.mono hb3.size);clear c0 c1 hb4;obtain ⟨c0,c1⟩:=iS.out w3 hO;go_wp2
     go_roundw
     case rel=>exact ⟨k+1,by omega,by go_num,aa (by rw [le.out];rfl),hO⟩
     case measure=>simp [intOf] <;> omega
    ·rw [h3,h2,h1] at js
     go_wp2_with fail
     refine HR.out.mono ?_;rintro e w2 ⟨rfl,hb2⟩;have hb3:=gW.out.trans (hb2.mono gW.out.size);clear c0 c1 hb2;obtain ⟨c0,c1⟩:=iS.out w2 hb3
     go_wp2_with fail
     refine (kx.out w2 hb3).mono ?_;rintro e w3 ⟨rfl,hb4⟩;have hO:=hb3.trans (hb4.mono hb3.size);clear c0 c1 hb4;go_wp2;go_ret;exact ⟨ak (by rw [js.out rfl];try rfl),hO⟩
    ·rw [h3,h2,h1] at le
     go_wp2_with fail
     refine HR.out.mono ?_;rintro e w2 ⟨rfl,hb2⟩;have hb3:=gW.out.trans (hb2.mono gW.out.size);clear c0 c1 hb2;obtain ⟨c0,c1⟩:=iS.out w2 hb3
     go_wp2_with fail
     refine (ke.out w2 hb3).mono ?_;rintro e w3 ⟨rfl,hb4⟩;have hO:=hb3.trans (hb4.mono hb3.size);clear c0 c1 hb4;go_wp2
     go_roundw
     case rel=>exact ⟨k+1,by omega,by go_num,aa (by rw [le.out];rfl),hO⟩
     case measure=>simp [intOf] <;> omega
    ·rw [h3,h2,h1] at js
     go_wp2_with fail
     refine HR.out.mono ?_;rintro e w2 ⟨rfl,hb2⟩;have hb3:=gW.out.trans (hb2.mono gW.out.size);clear c0 c1 hb2;obtain ⟨c0,c1⟩:=iS.out w2 hb3
     go_wp2_with fail
     refine (ke.out w2 hb3).mono ?_;rintro e w3 ⟨rfl,hb4⟩;have hO:=hb3.trans (hb4.mono hb3.size);clear c0 c1 hb4;go_wp2;go_ret;exact ⟨ak (by rw [js.out rfl];try rfl),hO⟩
    ·rw [h3,h2] at le
     go_wp2_with fail
     refine HR.out.mono ?_;rintro e w2 ⟨rfl,hb2⟩;have hb3:=gW.out.trans (hb2.mono gW.out.size);clear c0 c1 hb2;obtain ⟨c0,c1⟩:=iS.out w2 hb3;go_wp2
     go_roundw
     case rel=>exact ⟨k+1,by omega,by go_num,aa (by rw [le.out];rfl),hb3⟩
     case measure=>simp [intOf] <;> omega
  ·obtain rfl:k=L.length:=by omega
   go_wp2;go_ret;exact ⟨ak (by rw [HP.out];try rfl),gW.out⟩
end Go.Proofs.YthdphijabffpiaaDoor
