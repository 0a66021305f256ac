import Derived.Test.YtechjomepdahiaaDoorZ0
import Derived.Test.YtechjomepdahiaaDoorCellR
set_option maxRecDepth 100000
set_option linter.unusedVariables false
set_option linter.unusedSimpArgs false
set_option maxHeartbeats 1600000
namespace Go.Proofs.YtechjomepdahiaaDoor
open Go.RowKit Go.ChangeShapes Go.WideShapes
theorem iQ(Z:an)(v:Value)(L:List Cl)(w:World)(hv:HeldE cellE Z w v L):Calls Tryd.prog 37 #[v] w (Gives w (.bool (c8 L L.length))):=by
 have hl:=hv.max;have HV:=aa hv;obtain ⟨ao,cap,rfl⟩:=hv.len;obtain ⟨_,_,hc⟩:=aW hv;have HC:=aa hc;clear hc hv
 go_enter Tryd.func37,Tryd.ntmps37
 go_wp2
 go_loopw [3] (fun i wr=>∃ k:Nat,k<=L.length/\i=.int .i64 k/\Hid (c8 L k=true)/\Below w.heap.size w wr) (fun i _=>L.length - (intOf i).toNat)
 case atStart=>exact ⟨0,Nat.zero_le _,rfl,aa rfl,Below.refl _ _⟩
 case round =>
  obtain ⟨k,hk,rfl,HP,mP⟩:=hrel;have mm:=aa mP;clear mP
  by_cases hlt:k<L.length
  ·obtain ⟨b,off,tv,rfl,hb,_,c0,c1,hh⟩:=HC.out k hlt;have rU:=hh.max;have hh:=hh.ints.below mm.out;have mH:c8 L (k+1)=cW L k:=by rw [fI,HP.out];rfl
   have mZ:=fun h=>kw (l:=L) (n:=L.length) hlt h
   unfold cW at mH mZ;have xj:=aa (fun w2 (hb2:Below w.heap.size w w2)=>ib Z _ L ((k:Int)+1) w2 (HV.out.below hb2) hl);have xY:=aa (fun w2 (hb2:Below w.heap.size w w2)=>ib Z _ L ((k:Int) - 1) w2 (HV.out.below hb2) hl);obtain ⟨n1,ol⟩:=ab (aG L ((k:Int)+1));obtain ⟨n2,r8⟩:=ab (aG L ((k:Int) - 1));rw [<-ol] at mH mZ xj;rw [<-r8] at mH mZ xY;obtain ⟨⟨K,T⟩,pB⟩ : ∃ y,y=L.getD k zc:=⟨_,rfl⟩;rw [<-pB] at c0 hh rU mH mZ;simp only at c0 hh rU mH mZ;have od:=aa mH;have mT:=aa mZ;have HHH:=aa hh;have pX:=aa (show ∀ w2,Below w.heap.size w w2->w2.cell? ⟨b,off+k * 2,none⟩=some (.int .i64 K)/\w2.cell? ⟨b,off+k * 2+1,none⟩=some tv from fun w2 h=>⟨(h.cell (p:=⟨b,off+k * 2,none⟩) hb).trans c0,(h.cell (p:=⟨b,off+k * 2+1,none⟩) hb).trans c1⟩);clear pB mH mZ ol r8 hh HP c0 c1 hb;obtain ⟨tz9,tc,rfl,_⟩:=HHH.out.view;have HR:=aa (iR K _ T wr HHH.out rU);have w1:IntKind.i64.wrap ((k:Int)+1)=(k:Int)+1:=by rw [IntKind.wrap_i64];omega
   obtain ⟨c0,c1⟩:=pX.out wr mm.out
   cases hr:am (K,T) with
   |false =>
    rw [hr] at HR mT
    go_wp2_with fail
    refine HR.out.mono ?_;rintro e w2 ⟨rfl,hb2⟩;have hb3:=mm.out.trans (hb2.mono mm.out.size);clear c0 c1;go_wp2;go_ret;exact ⟨aq (by rw [mT.out (by simp)];try rfl),hb3⟩
   |true =>
    rw [hr] at HR mT od;have tN:(K=2/\(K == 3)=false/\(K == 2)=true/\((n1=3/\(n1 != 3)=false)\/(n1 != 3)=true))\/(K=3/\(K == 2)=false/\(K == 3)=true/\((n2=2/\(n2 != 2)=false)\/(n2 != 2)=true))\/((K == 3)=false/\(K == 2)=false):=by
     by_cases h2:K=2
     ·exact .inl ⟨h2,by simp;omega,by simpa using h2,by by_cases h:n1=3 <;> simp [h]⟩
     ·by_cases h3:K=3
      ·exact .inr (.inl ⟨h3,by simp;omega,by simpa using h3,by by_cases h:n2=2 <;> simp [h]⟩)
      ·exact .inr (.inr ⟨by simpa using h3,by simpa using h2⟩)
    rcases tN with ⟨rfl,h3,h2,⟨rfl,h1⟩ | h1⟩ | ⟨rfl,h2,h3,⟨rfl,h1⟩ | h1⟩ | ⟨h3,h2⟩
    ·rw [h3,h2,h1] at od
     go_wp2_with fail
     refine HR.out.mono ?_;rintro e w2 ⟨rfl,hb2⟩;have hb3:=mm.out.trans (hb2.mono mm.out.size);clear c0 c1 hb2;obtain ⟨c0,c1⟩:=pX.out w2 hb3
     go_wp2_with fail
     refine (xj.out w2 hb3).mono ?_;rintro e w3 ⟨rfl,hb4⟩;have mF:=hb3.trans (hb4.mono hb3.size);clear c0 c1 hb4;obtain ⟨c0,c1⟩:=pX.out w3 mF;go_wp2
     go_roundw
     case rel=>exact ⟨k+1,by omega,by go_num,aa (by rw [od.out];rfl),mF⟩
     case measure=>simp [intOf] <;> omega
    ·rw [h3,h2,h1] at mT
     go_wp2_with fail
     refine HR.out.mono ?_;rintro e w2 ⟨rfl,hb2⟩;have hb3:=mm.out.trans (hb2.mono mm.out.size);clear c0 c1 hb2;obtain ⟨c0,c1⟩:=pX.out w2 hb3
     go_wp2_with fail
     refine (xj.out w2 hb3).mono ?_;rintro e w3 ⟨rfl,hb4⟩;have mF:=hb3.trans (hb4.mono hb3.size);clear c0 c1 hb4;go_wp2;go_ret;exact ⟨aq (by rw [mT.out rfl];try rfl),mF⟩
    ·rw [h3,h2,h1] at od
     go_wp2_with fail
     refine HR.out.mono ?_;rintro e w2 ⟨rfl,hb2⟩;have hb3:=mm.out.trans (hb2.mono mm.out.size);clear c0 c1 hb2;obtain ⟨c0,c1⟩:=pX.out w2 hb3
     go_wp2_with fail
     refine (xY.out w2 hb3).mono ?_;rintro e w3 ⟨rfl,hb4⟩;have mF:=hb3.trans (hb4.mono hb3.size);clear c0 c1 hb4;go_wp2
     go_roundw
     case rel=>exact ⟨k+1,by omega,by go_num,aa (by rw [od.out];rfl),mF⟩
     case measure=>simp [intOf] <;> omega
    ·rw [h3,h2,h1] at mT
     go_wp2_with fail
     refine HR.out.mono ?_;rintro e w2 ⟨rfl,hb2⟩;have hb3:=mm.out.trans (hb2.mono mm.out.size);clear c0 c1 hb2;obtain ⟨c0,c1⟩:=pX.out w2 hb3
     go_wp2_with fail
     refine (xY.out w2 hb3).mono ?_;rintro e w3 ⟨rfl,hb4⟩;have mF:=hb3.trans (hb4.mono hb3.size);clear c0 c1 hb4;go_wp2;go_ret;exact ⟨aq (by rw [mT.out rfl];try rfl),mF⟩
    ·rw [h3,h2] at od
     go_wp2_with fail
     refine HR.out.mono ?_;rintro e w2 ⟨rfl,hb2⟩;have hb3:=mm.out.trans (hb2.mono mm.out.size);clear c0 c1 hb2;obtain ⟨c0,c1⟩:=pX.out w2 hb3;go_wp2
     go_roundw
     case rel=>exact ⟨k+1,by omega,by go_num,aa (by rw [od.out];rfl),hb3⟩
     case measure=>simp [intOf] <;> omega
  ·obtain rfl:k=L.length:=by omega
   go_wp2;go_ret;exact ⟨aq (by rw [HP.out];try rfl),mm.out⟩
end Go.Proofs.YtechjomepdahiaaDoor
