import Derived.Test.YthdphijabffpiaaDoorZ0
import Derived.Test.YthdphijabffpiaaDoorCellR
set_option maxRecDepth 100000
set_option linter.unusedVariables false
set_option linter.unusedSimpArgs false
set_option maxHeartbeats 1600000
namespace Go.Proofs.YthdphijabffpiaaDoor
open Go.RowKit Go.ChangeShapes Go.WideShapes
theorem eM(Z:an)(v:Value)(L:List Cl)(w:World)(hv:HeldE cellE Z w v L):Calls Tryd.prog 32 #[v] w (Gives w (.bool (a8 L L.length))):=by
 have hl:=hv.max;have HV:=aa hv;obtain ⟨ao,cap,rfl⟩:=hv.len;obtain ⟨_,_,hc⟩:=aP hv;have HC:=aa hc;clear hc hv
 go_enter Tryd.func32,Tryd.ntmps32
 go_wp2
 go_loopw [3] (fun i wr=>∃ k:Nat,k<=L.length/\i=.int .i64 k/\Hid (a8 L k=true)/\Below w.heap.size w wr) (fun i _=>L.length - (intOf i).toNat)
 case atStart=>exact ⟨0,Nat.zero_le _,rfl,aa rfl,Below.refl _ _⟩
 case round =>
  obtain ⟨k,hk,rfl,HP,hZ⟩:=hrel;have it:=aa hZ;clear hZ
  by_cases hlt:k<L.length
  ·obtain ⟨b,off,tv,rfl,hb,_,c0,c1,hh⟩:=HC.out k hlt;have jp:=hh.max;have hh:=hh.ints.below it.out;have gV:a8 L (k+1)=bC L k:=by rw [dq,HP.out];rfl
   have iD:=fun h=>fD (l:=L) (n:=L.length) hlt h
   unfold bC at gV iD;have lr:=aa (fun w2 (hb2:Below w.heap.size w w2)=>ep Z _ L ((k:Int)+1) w2 (HV.out.below hb2) hl);have na:=aa (fun w2 (hb2:Below w.heap.size w w2)=>ep Z _ L ((k:Int) - 1) w2 (HV.out.below hb2) hl);obtain ⟨n1,ke⟩:=ab (ay L ((k:Int)+1));obtain ⟨n2,hn2⟩:=ab (ay L ((k:Int) - 1));rw [<-ke] at gV iD lr;rw [<-hn2] at gV iD na;obtain ⟨⟨K,T⟩,kC⟩ : ∃ y,y=L.getD k zc:=⟨_,rfl⟩;rw [<-kC] at c0 hh jp gV iD;simp only at c0 hh jp gV iD;have jx:=aa gV;have iG:=aa iD;have HHH:=aa hh;have mh:=aa (show ∀ w2,Below w.heap.size w w2->w2.cell? ⟨b,off+k * 2,none⟩=some (.int .i64 K)/\w2.cell? ⟨b,off+k * 2+1,none⟩=some tv from fun w2 h=>⟨(h.cell (p:=⟨b,off+k * 2,none⟩) hb).trans c0,(h.cell (p:=⟨b,off+k * 2+1,none⟩) hb).trans c1⟩);clear kC gV iD ke hn2 hh HP c0 c1 hb;obtain ⟨tz9,tc,rfl,_⟩:=HHH.out.view;have HR:=aa (eN K _ T wr HHH.out jp);have w1:IntKind.i64.wrap ((k:Int)+1)=(k:Int)+1:=by rw [IntKind.wrap_i64];omega
   obtain ⟨c0,c1⟩:=mh.out wr it.out
   cases hr:av (K,T) with
   |false =>
    rw [hr] at HR iG
    go_wp2_with fail
    refine HR.out.mono ?_;rintro e w2 ⟨rfl,hb2⟩;have hb3:=it.out.trans (hb2.mono it.out.size);clear c0 c1;go_wp2;go_ret;exact ⟨az (by rw [iG.out (by simp)];try rfl),hb3⟩
   |true =>
    rw [hr] at HR iG jx;have kW:(K=2/\(K == 3)=false/\(K == 2)=true/\((n1=3/\(n1 != 3)=false)\/(n1 != 3)=true))\/(K=3/\(K == 2)=false/\(K == 3)=true/\((n2=2/\(n2 != 2)=false)\/(n2 != 2)=true))\/((K == 3)=false/\(K == 2)=false):=by
     by_cases h2:K=2
     ·exact .inl ⟨h2,by simp;omega,by simpa using h2,by by_cases h:n1=3 <;> simp [h]⟩
     ·by_cases h3:K=3
      ·exact .inr (.inl ⟨h3,by simp;omega,by simpa using h3,by by_cases h:n2=2 <;> simp [h]⟩)
      ·exact .inr (.inr ⟨by simpa using h3,by simpa using h2⟩)
    rcases kW with ⟨rfl,h3,h2,⟨rfl,h1⟩ | h1⟩ | ⟨rfl,h2,h3,⟨rfl,h1⟩ | h1⟩ | ⟨h3,h2⟩
    ·rw [h3,h2,h1] at jx
     go_wp2_with fail
     refine HR.out.mono ?_;rintro e w2 ⟨rfl,hb2⟩;have hb3:=it.out.trans (hb2.mono it.out.size);clear c0 c1 hb2;obtain ⟨c0,c1⟩:=mh.out w2 hb3
     go_wp2_with fail
     refine (lr.out w2 hb3).mono ?_;rintro e w3 ⟨rfl,hb4⟩;have gE:=hb3.trans (hb4.mono hb3.size);clear c0 c1 hb4;obtain ⟨c0,c1⟩:=mh.out w3 gE;go_wp2
     go_roundw
     case rel=>exact ⟨k+1,by omega,by go_num,aa (by rw [jx.out];rfl),gE⟩
     case measure=>simp [intOf] <;> omega
    ·rw [h3,h2,h1] at iG
     go_wp2_with fail
     refine HR.out.mono ?_;rintro e w2 ⟨rfl,hb2⟩;have hb3:=it.out.trans (hb2.mono it.out.size);clear c0 c1 hb2;obtain ⟨c0,c1⟩:=mh.out w2 hb3
     go_wp2_with fail
     refine (lr.out w2 hb3).mono ?_;rintro e w3 ⟨rfl,hb4⟩;have gE:=hb3.trans (hb4.mono hb3.size);clear c0 c1 hb4;go_wp2;go_ret;exact ⟨az (by rw [iG.out rfl];try rfl),gE⟩
    ·rw [h3,h2,h1] at jx
     go_wp2_with fail
     refine HR.out.mono ?_;rintro e w2 ⟨rfl,hb2⟩;have hb3:=it.out.trans (hb2.mono it.out.size);clear c0 c1 hb2;obtain ⟨c0,c1⟩:=mh.out w2 hb3
     go_wp2_with fail
     refine (na.out w2 hb3).mono ?_;rintro e w3 ⟨rfl,hb4⟩;have gE:=hb3.trans (hb4.mono hb3.size);clear c0 c1 hb4;go_wp2
     go_roundw
     case rel=>exact ⟨k+1,by omega,by go_num,aa (by rw [jx.out];rfl),gE⟩
     case measure=>simp [intOf] <;> omega
    ·rw [h3,h2,h1] at iG
     go_wp2_with fail
     refine HR.out.mono ?_;rintro e w2 ⟨rfl,hb2⟩;have hb3:=it.out.trans (hb2.mono it.out.size);clear c0 c1 hb2;obtain ⟨c0,c1⟩:=mh.out w2 hb3
     go_wp2_with fail
     refine (na.out w2 hb3).mono ?_;rintro e w3 ⟨rfl,hb4⟩;have gE:=hb3.trans (hb4.mono hb3.size);clear c0 c1 hb4;go_wp2;go_ret;exact ⟨az (by rw [iG.out rfl];try rfl),gE⟩
    ·rw [h3,h2] at jx
     go_wp2_with fail
     refine HR.out.mono ?_;rintro e w2 ⟨rfl,hb2⟩;have hb3:=it.out.trans (hb2.mono it.out.size);clear c0 c1 hb2;obtain ⟨c0,c1⟩:=mh.out w2 hb3;go_wp2
     go_roundw
     case rel=>exact ⟨k+1,by omega,by go_num,aa (by rw [jx.out];rfl),hb3⟩
     case measure=>simp [intOf] <;> omega
  ·obtain rfl:k=L.length:=by omega
   go_wp2;go_ret;exact ⟨az (by rw [HP.out];try rfl),it.out⟩
end Go.Proofs.YthdphijabffpiaaDoor
