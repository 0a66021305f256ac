import Derived.Test.YthdphijabffpiaaDoorZ0
import Derived.Test.YthdphijabffpiaaDoorCellR
set_option maxRecDepth 100000
set_option linter.unusedVariables false
set_option linter.unusedSimpArgs false
set_option maxHeartbeats 1600000
namespace Go.Proofs.YthdphijabffpiaaDoor
open Go.RowKit Go.ChangeShapes Go.WideShapes
theorem e7(Z:ak)(v:Value)(L:List Cl)(w:World)(hv:HeldE cellE Z w v L):Calls Tryd.prog 32 #[v] w (Gives w (.bool (bK L L.length))):=by
 have hl:=hv.max;have HV:=aa hv;obtain ⟨ao,cap,rfl⟩:=hv.len;obtain ⟨_,_,hc⟩:=aX hv;have HC:=aa hc;clear hc hv
 go_enter Tryd.func32,Tryd.ntmps32
 go_wp2
 go_loopw [3] (fun i wr=>∃ k:Nat,k<=L.length/\i=.int .i64 k/\Hid (bK L k=true)/\Below w.heap.size w wr) (fun i _=>L.length - (intOf i).toNat)
 case atStart=>exact ⟨0,Nat.zero_le _,rfl,aa rfl,Below.refl _ _⟩
 case round =>
  obtain ⟨k,hk,rfl,HP,gW⟩:=hrel;have gS:=aa gW;clear gW
  by_cases hlt:k<L.length
  ·obtain ⟨b,off,tv,rfl,hb,_,c0,c1,hh⟩:=HC.out k hlt;have l2:=hh.max;have hh:=hh.ints.below gS.out;have iW:bK L (k+1)=bH L k:=by rw [dC,HP.out];rfl
   have hU:=fun h=>fU (l:=L) (n:=L.length) hlt h
   unfold bH at iW hU;have nF:=aa (fun w2 (hb2:Below w.heap.size w w2)=>eI Z _ L ((k:Int)+1) w2 (HV.out.below hb2) hl);have nu:=aa (fun w2 (hb2:Below w.heap.size w w2)=>eI Z _ L ((k:Int) - 1) w2 (HV.out.below hb2) hl);obtain ⟨n1,kl⟩:=ab (aA L ((k:Int)+1));obtain ⟨n2,hn2⟩:=ab (aA L ((k:Int) - 1));rw [<-kl] at iW hU nF;rw [<-hn2] at iW hU nu;obtain ⟨⟨K,T⟩,kd⟩ : ∃ y,y=L.getD k zc:=⟨_,rfl⟩;rw [<-kd] at c0 hh l2 iW hU;simp only at c0 hh l2 iW hU;have jG:=aa iW;have ib:=aa hU;have HHH:=aa hh;have iU:=aa (show ∀ w2,Below w.heap.size w w2->w2.cell? ⟨b,off+k * 2,none⟩=some (.int .i64 K)/\w2.cell? ⟨b,off+k * 2+1,none⟩=some tv from fun w2 h=>⟨(h.cell (p:=⟨b,off+k * 2,none⟩) hb).trans c0,(h.cell (p:=⟨b,off+k * 2+1,none⟩) hb).trans c1⟩);clear kd iW hU kl hn2 hh HP c0 c1 hb;obtain ⟨tz9,tc,rfl,_⟩:=HHH.out.view;have HR:=aa (fd K _ T wr HHH.out l2);have w1:IntKind.i64.wrap ((k:Int)+1)=(k:Int)+1:=by rw [IntKind.wrap_i64];omega
   obtain ⟨c0,c1⟩:=iU.out wr gS.out
   cases hr:aw (K,T) with
   |false =>
    rw [hr] at HR ib
    go_wp2_with fail
    refine HR.out.mono ?_;rintro e w2 ⟨rfl,hb2⟩;have hb3:=gS.out.trans (hb2.mono gS.out.size);clear c0 c1;go_wp2;go_ret;exact ⟨ay (by rw [ib.out (by simp)];try rfl),hb3⟩
   |true =>
    rw [hr] at HR ib jG;have iJ:(K=2/\(K == 3)=false/\(K == 2)=true/\((n1=3/\(n1 != 3)=false)\/(n1 != 3)=true))\/(K=3/\(K == 2)=false/\(K == 3)=true/\((n2=2/\(n2 != 2)=false)\/(n2 != 2)=true))\/((K == 3)=false/\(K == 2)=false):=by
     by_cases h2:K=2
     ·exact .inl ⟨h2,by simp;omega,by simpa using h2,by by_cases h:n1=3 <;> simp [h]⟩
     ·by_cases h3:K=3
      ·exact .inr (.inl ⟨h3,by simp;omega,by simpa using h3,by by_cases h:n2=2 <;> simp [h]⟩)
      ·exact .inr (.inr ⟨by simpa using h3,by simpa using h2⟩)
    rcases iJ with ⟨rfl,h3,h2,⟨rfl,h1⟩ | h1⟩ | ⟨rfl,h2,h3,⟨rfl,h1⟩ | h1⟩ | ⟨h3,h2⟩
    ·rw [h3,h2,h1] at jG
     go_wp2_with fail
     refine HR.out.mono ?_;rintro e w2 ⟨rfl,hb2⟩;have hb3:=gS.out.trans (hb2.mono gS.out.size);clear c0 c1 hb2;obtain ⟨c0,c1⟩:=iU.out w2 hb3
     go_wp2_with fail
     refine (nF.out w2 hb3).mono ?_;rintro e w3 ⟨rfl,hb4⟩;have gQ:=hb3.trans (hb4.mono hb3.size);clear c0 c1 hb4;obtain ⟨c0,c1⟩:=iU.out w3 gQ;go_wp2
     go_roundw
     case rel=>exact ⟨k+1,by omega,by go_num,aa (by rw [jG.out];rfl),gQ⟩
     case measure=>simp [intOf] <;> omega
    ·rw [h3,h2,h1] at ib
     go_wp2_with fail
     refine HR.out.mono ?_;rintro e w2 ⟨rfl,hb2⟩;have hb3:=gS.out.trans (hb2.mono gS.out.size);clear c0 c1 hb2;obtain ⟨c0,c1⟩:=iU.out w2 hb3
     go_wp2_with fail
     refine (nF.out w2 hb3).mono ?_;rintro e w3 ⟨rfl,hb4⟩;have gQ:=hb3.trans (hb4.mono hb3.size);clear c0 c1 hb4;go_wp2;go_ret;exact ⟨ay (by rw [ib.out rfl];try rfl),gQ⟩
    ·rw [h3,h2,h1] at jG
     go_wp2_with fail
     refine HR.out.mono ?_;rintro e w2 ⟨rfl,hb2⟩;have hb3:=gS.out.trans (hb2.mono gS.out.size);clear c0 c1 hb2;obtain ⟨c0,c1⟩:=iU.out w2 hb3
     go_wp2_with fail
     refine (nu.out w2 hb3).mono ?_;rintro e w3 ⟨rfl,hb4⟩;have gQ:=hb3.trans (hb4.mono hb3.size);clear c0 c1 hb4;go_wp2
     go_roundw
     case rel=>exact ⟨k+1,by omega,by go_num,aa (by rw [jG.out];rfl),gQ⟩
     case measure=>simp [intOf] <;> omega
    ·rw [h3,h2,h1] at ib
     go_wp2_with fail
     refine HR.out.mono ?_;rintro e w2 ⟨rfl,hb2⟩;have hb3:=gS.out.trans (hb2.mono gS.out.size);clear c0 c1 hb2;obtain ⟨c0,c1⟩:=iU.out w2 hb3
     go_wp2_with fail
     refine (nu.out w2 hb3).mono ?_;rintro e w3 ⟨rfl,hb4⟩;have gQ:=hb3.trans (hb4.mono hb3.size);clear c0 c1 hb4;go_wp2;go_ret;exact ⟨ay (by rw [ib.out rfl];try rfl),gQ⟩
    ·rw [h3,h2] at jG
     go_wp2_with fail
     refine HR.out.mono ?_;rintro e w2 ⟨rfl,hb2⟩;have hb3:=gS.out.trans (hb2.mono gS.out.size);clear c0 c1 hb2;obtain ⟨c0,c1⟩:=iU.out w2 hb3;go_wp2
     go_roundw
     case rel=>exact ⟨k+1,by omega,by go_num,aa (by rw [jG.out];rfl),hb3⟩
     case measure=>simp [intOf] <;> omega
  ·obtain rfl:k=L.length:=by omega
   go_wp2;go_ret;exact ⟨ay (by rw [HP.out];try rfl),gS.out⟩
end Go.Proofs.YthdphijabffpiaaDoor
