import Derived.Test.YthdphijabffpiaaDoorZ0
import Derived.Test.YthdphijabffpiaaDoorCellR
set_option maxRecDepth 100000
set_option linter.unusedVariables false
set_option linter.unusedSimpArgs false
set_option maxHeartbeats 1600000
namespace Go.Proofs.YthdphijabffpiaaDoor
open Go.RowKit Go.ChangeShapes Go.WideShapes
theorem eG(Z:an)(v:Value)(L:List Cl)(w:World)(hv:HeldE cellE Z w v L):Calls Tryd.prog 32 #[v] w (Gives w (.bool (a9 L L.length))):=by
 have hl:=hv.max;have HV:=aa hv;obtain ⟨ao,cap,rfl⟩:=hv.len;obtain ⟨_,_,hc⟩:=aL hv;have HC:=aa hc;clear hc hv
 go_enter Tryd.func32,Tryd.ntmps32
 go_wp2
 go_loopw [3] (fun i wr=>∃ k:Nat,k<=L.length/\i=.int .i64 k/\Hid (a9 L k=true)/\Below w.heap.size w wr) (fun i _=>L.length - (intOf i).toNat)
 case atStart=>exact ⟨0,Nat.zero_le _,rfl,aa rfl,Below.refl _ _⟩
 case round =>
  obtain ⟨k,hk,rfl,HP,ig⟩:=hrel;have hZ:=aa ig;clear ig
  by_cases hlt:k<L.length
  ·obtain ⟨b,off,tv,rfl,hb,_,c0,c1,hh⟩:=HC.out k hlt;have jK:=hh.max;have hh:=hh.ints.below hZ.out;have gS:a9 L (k+1)=bA L k:=by rw [dj,HP.out];rfl
   have ii:=fun h=>fw (l:=L) (n:=L.length) hlt h
   unfold bA at gS ii;have j4:=aa (fun w2 (hb2:Below w.heap.size w w2)=>ed Z _ L ((k:Int)+1) w2 (HV.out.below hb2) hl);have lU:=aa (fun w2 (hb2:Below w.heap.size w w2)=>ed Z _ L ((k:Int) - 1) w2 (HV.out.below hb2) hl);obtain ⟨n1,jl⟩:=ab (ax L ((k:Int)+1));obtain ⟨n2,hn2⟩:=ab (ax L ((k:Int) - 1));rw [<-jl] at gS ii j4;rw [<-hn2] at gS ii lU;obtain ⟨⟨K,T⟩,jN⟩ : ∃ y,y=L.getD k zc:=⟨_,rfl⟩;rw [<-jN] at c0 hh jK gS ii;simp only at c0 hh jK gS ii;have jU:=aa gS;have im:=aa ii;have HHH:=aa hh;have kK:=aa (show ∀ w2,Below w.heap.size w w2->w2.cell? ⟨b,off+k * 2,none⟩=some (.int .i64 K)/\w2.cell? ⟨b,off+k * 2+1,none⟩=some tv from fun w2 h=>⟨(h.cell (p:=⟨b,off+k * 2,none⟩) hb).trans c0,(h.cell (p:=⟨b,off+k * 2+1,none⟩) hb).trans c1⟩);clear jN gS ii jl hn2 hh HP c0 c1 hb;obtain ⟨tz9,tc,rfl,_⟩:=HHH.out.view;have HR:=aa (eH K _ T wr HHH.out jK);have w1:IntKind.i64.wrap ((k:Int)+1)=(k:Int)+1:=by rw [IntKind.wrap_i64];omega
   obtain ⟨c0,c1⟩:=kK.out wr hZ.out
   cases hr:ar (K,T) with
   |false =>
    rw [hr] at HR im
    go_wp2_with fail
    refine HR.out.mono ?_;rintro e w2 ⟨rfl,hb2⟩;have hb3:=hZ.out.trans (hb2.mono hZ.out.size);clear c0 c1;go_wp2;go_ret;exact ⟨ay (by rw [im.out (by simp)];try rfl),hb3⟩
   |true =>
    rw [hr] at HR im jU;have ks:(K=2/\(K == 3)=false/\(K == 2)=true/\((n1=3/\(n1 != 3)=false)\/(n1 != 3)=true))\/(K=3/\(K == 2)=false/\(K == 3)=true/\((n2=2/\(n2 != 2)=false)\/(n2 != 2)=true))\/((K == 3)=false/\(K == 2)=false):=by
     by_cases h2:K=2
     ·exact .inl ⟨h2,by simp;omega,by simpa using h2,by by_cases h:n1=3 <;> simp [h]⟩
     ·by_cases h3:K=3
      ·exact .inr (.inl ⟨h3,by simp;omega,by simpa using h3,by by_cases h:n2=2 <;> simp [h]⟩)
      ·exact .inr (.inr ⟨by simpa using h3,by simpa using h2⟩)
    rcases ks with ⟨rfl,h3,h2,⟨rfl,h1⟩ | h1⟩ | ⟨rfl,h2,h3,⟨rfl,h1⟩ | h1⟩ | ⟨h3,h2⟩
    ·rw [h3,h2,h1] at jU
     go_wp2_with fail
     refine HR.out.mono ?_;rintro e w2 ⟨rfl,hb2⟩;have hb3:=hZ.out.trans (hb2.mono hZ.out.size);clear c0 c1 hb2;obtain ⟨c0,c1⟩:=kK.out w2 hb3
     go_wp2_with fail
     refine (j4.out w2 hb3).mono ?_;rintro e w3 ⟨rfl,hb4⟩;have gF:=hb3.trans (hb4.mono hb3.size);clear c0 c1 hb4;obtain ⟨c0,c1⟩:=kK.out w3 gF;go_wp2
     go_roundw
     case rel=>exact ⟨k+1,by omega,by go_num,aa (by rw [jU.out];rfl),gF⟩
     case measure=>simp [intOf] <;> omega
    ·rw [h3,h2,h1] at im
     go_wp2_with fail
     refine HR.out.mono ?_;rintro e w2 ⟨rfl,hb2⟩;have hb3:=hZ.out.trans (hb2.mono hZ.out.size);clear c0 c1 hb2;obtain ⟨c0,c1⟩:=kK.out w2 hb3
     go_wp2_with fail
     refine (j4.out w2 hb3).mono ?_;rintro e w3 ⟨rfl,hb4⟩;have gF:=hb3.trans (hb4.mono hb3.size);clear c0 c1 hb4;go_wp2;go_ret;exact ⟨ay (by rw [im.out rfl];try rfl),gF⟩
    ·rw [h3,h2,h1] at jU
     go_wp2_with fail
     refine HR.out.mono ?_;rintro e w2 ⟨rfl,hb2⟩;have hb3:=hZ.out.trans (hb2.mono hZ.out.size);clear c0 c1 hb2;obtain ⟨c0,c1⟩:=kK.out w2 hb3
     go_wp2_with fail
     refine (lU.out w2 hb3).mono ?_;rintro e w3 ⟨rfl,hb4⟩;have gF:=hb3.trans (hb4.mono hb3.size);clear c0 c1 hb4;go_wp2
     go_roundw
     case rel=>exact ⟨k+1,by omega,by go_num,aa (by rw [jU.out];rfl),gF⟩
     case measure=>simp [intOf] <;> omega
    ·rw [h3,h2,h1] at im
     go_wp2_with fail
     refine HR.out.mono ?_;rintro e w2 ⟨rfl,hb2⟩;have hb3:=hZ.out.trans (hb2.mono hZ.out.size);clear c0 c1 hb2;obtain ⟨c0,c1⟩:=kK.out w2 hb3
     go_wp2_with fail
     refine (lU.out w2 hb3).mono ?_;rintro e w3 ⟨rfl,hb4⟩;have gF:=hb3.trans (hb4.mono hb3.size);clear c0 c1 hb4;go_wp2;go_ret;exact ⟨ay (by rw [im.out rfl];try rfl),gF⟩
    ·rw [h3,h2] at jU
     go_wp2_with fail
     refine HR.out.mono ?_;rintro e w2 ⟨rfl,hb2⟩;have hb3:=hZ.out.trans (hb2.mono hZ.out.size);clear c0 c1 hb2;obtain ⟨c0,c1⟩:=kK.out w2 hb3;go_wp2
     go_roundw
     case rel=>exact ⟨k+1,by omega,by go_num,aa (by rw [jU.out];rfl),hb3⟩
     case measure=>simp [intOf] <;> omega
  ·obtain rfl:k=L.length:=by omega
   go_wp2;go_ret;exact ⟨ay (by rw [HP.out];try rfl),hZ.out⟩
end Go.Proofs.YthdphijabffpiaaDoor
