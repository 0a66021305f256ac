import Derived.Test.YthdphijabffpiaaDoorZ0
import Derived.Test.YthdphijabffpiaaDoorMg3
import Derived.Test.YthdphijabffpiaaDoorCellC
import Derived.Test.YthdphijabffpiaaDoorCellR
import Derived.Test.YthdphijabffpiaaDoorMg1
import Derived.Test.YthdphijabffpiaaDoorErrS
import Derived.Lib.MinMax
import Derived.Deep.Cut
set_option maxRecDepth 100000
set_option linter.unusedVariables false
set_option linter.unusedSimpArgs false
set_option maxHeartbeats 3000000
namespace Go.Proofs.YthdphijabffpiaaDoor
open Go.RowKit Go.ChangeShapes Go.WideShapes
theorem da(k:Int)(tv:Value)(t:List Int)(w:World)(ht:Held .i32 w tv t)(hl:t.length<=9223372036854775807):Calls Tryd.prog 63 #[.agg #[.int .i64 k,tv]] w (Gives w (.bool (ap (k,t)))):=by
 obtain ⟨ao,cap,rfl⟩:=ht.len;obtain ⟨W1,hW1⟩:=ab (w.alloc (.cells #[.int .i64 k,.slice ao t.length cap] 59));have b1:Below w.heap.size w W1:=by rw [hW1];exact af _ _
 have HR:=aa (dr 1 _ t W1 (ht.below b1) hl);have HB:=aa b1;clear b1 ht;subst hW1
 by_cases h0:t.length=0
 ·have hz:((t.length:Int) == 0)=true:=by rw [beq_iff_eq];omega
  have HE:=aa (show ap (k,t)=(k == 1) by unfold ap;rw [if_pos h0]);clear h0
  go_enter Tryd.func63,Tryd.ntmps63
  go_wp2;go_ret;exact ⟨aj (by rw [HE.out];try rfl),HB.out⟩
 ·have hz:((t.length:Int) == 0)=false:=by rw [beq_eq_false_iff_ne];omega
  have HE:=aa (show ap (k,t)=((k == 1 || k == 2) && an (1,t)) by unfold ap;rw [if_neg h0]);clear h0
  by_cases h1:k=1
  ·have hN:(k == 1)=true:=by rw [beq_iff_eq];exact h1
   rw [hN,Bool.true_or,Bool.true_and] at HE;clear h1
   go_enter Tryd.func63,Tryd.ntmps63
   go_wp2_with fail
   refine HR.out.mono ?_;rintro e w2 ⟨rfl,b2⟩;have gH:=aa (HB.out.trans (b2.mono HB.out.size));clear b2;go_wp2;go_ret;exact ⟨aj (by rw [HE.out];try rfl),gH.out⟩
  have hN:(k == 1)=false:=by rw [beq_eq_false_iff_ne];exact h1
  by_cases h2:k=2
  ·have hk2:(k == 2)=true:=by rw [beq_iff_eq];exact h2
   rw [hN,hk2,Bool.false_or,Bool.true_and] at HE;clear h1 h2
   go_enter Tryd.func63,Tryd.ntmps63
   go_wp2_with fail
   refine HR.out.mono ?_;rintro e w2 ⟨rfl,b2⟩;have gH:=aa (HB.out.trans (b2.mono HB.out.size));clear b2;go_wp2;go_ret;exact ⟨aj (by rw [HE.out];try rfl),gH.out⟩
  have hk2:(k == 2)=false:=by rw [beq_eq_false_iff_ne];exact h2
  rw [hN,hk2,Bool.false_or,Bool.false_and] at HE;clear h1 h2
  go_enter Tryd.func63,Tryd.ntmps63
  go_wp2;go_ret;exact ⟨aj (by rw [HE.out];try rfl),HB.out⟩
theorem cF(k:Int)(tv:Value)(t:List Int)(w:World)(ht:Held .i32 w tv t)(hl:t.length<=9223372036854775807):Calls Tryd.prog 30 #[.agg #[.int .i64 k,tv]] w (Gives w (.bool (ap (k,t)))):=by
 obtain ⟨ao,cap,rfl⟩:=ht.len;obtain ⟨W1,hW1⟩:=ab (w.alloc (.cells #[.int .i64 k,.slice ao t.length cap] 59));have b1:Below w.heap.size w W1:=by rw [hW1];exact af _ _
 have HR:=aa (c6 1 _ t W1 (ht.below b1) hl);have HB:=aa b1;clear b1 ht;subst hW1
 by_cases h0:t.length=0
 ·have hz:((t.length:Int) == 0)=true:=by rw [beq_iff_eq];omega
  have HE:=aa (show ap (k,t)=(k == 1) by unfold ap;rw [if_pos h0]);clear h0
  go_enter Tryd.func30,Tryd.ntmps30
  go_wp2;go_ret;exact ⟨aj (by rw [HE.out];try rfl),HB.out⟩
 ·have hz:((t.length:Int) == 0)=false:=by rw [beq_eq_false_iff_ne];omega
  have HE:=aa (show ap (k,t)=((k == 1 || k == 2) && an (1,t)) by unfold ap;rw [if_neg h0]);clear h0
  by_cases h1:k=1
  ·have hN:(k == 1)=true:=by rw [beq_iff_eq];exact h1
   rw [hN,Bool.true_or,Bool.true_and] at HE;clear h1
   go_enter Tryd.func30,Tryd.ntmps30
   go_wp2_with fail
   refine HR.out.mono ?_;rintro e w2 ⟨rfl,b2⟩;have gH:=aa (HB.out.trans (b2.mono HB.out.size));clear b2;go_wp2;go_ret;exact ⟨aj (by rw [HE.out];try rfl),gH.out⟩
  have hN:(k == 1)=false:=by rw [beq_eq_false_iff_ne];exact h1
  by_cases h2:k=2
  ·have hk2:(k == 2)=true:=by rw [beq_iff_eq];exact h2
   rw [hN,hk2,Bool.false_or,Bool.true_and] at HE;clear h1 h2
   go_enter Tryd.func30,Tryd.ntmps30
   go_wp2_with fail
   refine HR.out.mono ?_;rintro e w2 ⟨rfl,b2⟩;have gH:=aa (HB.out.trans (b2.mono HB.out.size));clear b2;go_wp2;go_ret;exact ⟨aj (by rw [HE.out];try rfl),gH.out⟩
  have hk2:(k == 2)=false:=by rw [beq_eq_false_iff_ne];exact h2
  rw [hN,hk2,Bool.false_or,Bool.false_and] at HE;clear h1 h2
  go_enter Tryd.func30,Tryd.ntmps30
  go_wp2;go_ret;exact ⟨aj (by rw [HE.out];try rfl),HB.out⟩
def fs(w:World)(M:List Cl)(e:Ending)(w':World):Prop:=∃ v',e=.returned (.tuple #[v',.nilIface])/\OwnE cellE (fun b=>w.heap.size<=b) w' w.heap.size 59 v' M/\Below w.heap.size w w'
theorem gw(Z:ak)(v:Value)(L:List Cl)(w:World)(hv:HeldE cellE Z w v L)(hl:L.length<=1000000)(hs:am L=true):Calls Tryd.prog 59 #[v] w (fs w (ar L)):=by
 have i8:=aa (dq _ _ _ _ hv);rw [hs] at i8;have lg:=aa (dW hs);have hv:=hv.lower;obtain ⟨ao,cap,rfl⟩:=hv.len;obtain ⟨_,_,hc⟩:=az hv;have HC:=aa hc;clear hc hv hs
 go_enter Tryd.func59,Tryd.ntmps59
 go_wp2_with fail
 refine i8.out.mono ?_;rintro e w1 ⟨rfl,b1⟩;have HB:=aa b1;clear b1 i8;go_wp2
 go_loopw [4,13] (fun t i wr=>∃ k:Nat,k<=L.length/\i=.int .i64 k/\OwnE cellE (fun b=>w1.heap.size<=b) wr w1.heap.size 59 t (ar (L.take k))/\Below w1.heap.size w1 wr) (fun _ i _=>L.length - (intOf i).toNat)
 case atStart=>exact ⟨0,Nat.zero_le _,rfl,OwnE.nil _ _ _ _ _,Below.refl _ _⟩
 case round =>
  obtain ⟨k,hk,rfl,hown,gF⟩:=hrel;have gD:=aa gF;have ko:=aa (HB.out.trans (gF.mono HB.out.size));clear gF
  by_cases hlt:k<L.length
  ·obtain ⟨b,off,tv,rfl,hb,_,c0,c1,hh⟩:=HC.out k hlt;have c0:=(ko.out.cell (p:=⟨b,off+k * 2,none⟩) hb).trans c0;have c1:=(ko.out.cell (p:=⟨b,off+k * 2+1,none⟩) hb).trans c1;have hs:=eE L k hlt;have hrt:=lg.out k hlt;have hlen:(ar (L.take k)).length<=1000000:=by have:=dw (L.take k);rw [List.length_take] at this;omega
   obtain ⟨⟨K,T⟩,gK⟩ : ∃ y,y=L.getD k zc:=⟨_,rfl⟩;rw [<-gK] at c0 hh hs hrt;have g8:=dX hrt;have jg:=bF hrt;simp only at c0 hh g8 jg;obtain ⟨tz9,tc,rfl⟩:=hh.len;obtain ⟨P0,hP⟩:=ab (ar (L.take k));rw [<-hP] at hown hs hlen;obtain ⟨W1,hW1⟩:=ab (wr.alloc (.cells #[.int .i64 K,.slice tz9 T.length tc] 74));have hb1:Below wr.heap.size wr W1:=by rw [hW1];exact af _ _
   have HH:=aa (show Has W1 wr.heap.size [.int .i64 K,.slice tz9 T.length tc] 74 by rw [hW1];exact Has.new wr _ _);have j8:=aa hown.lt;have HO:=aa (hown.below hb1);have gG:=aa (gD.out.trans (hb1.mono gD.out.size));have iT:=aa (show w1.heap.size<=wr.heap.size/\wr.heap.size<W1.heap.size from ⟨gD.out.size,HH.out.lt⟩);have HT:=aa (hh.below (ko.out.trans (hb1.mono ko.out.size)));have HS:=aa hs;obtain ⟨t,ku⟩:=ab (u4);rw [<-ku] at HO j8 ⊢;clear gK hP hh hb1 hown ku hs hb hrt
   rcases jg with ⟨hk03,hT0⟩ | ⟨hk12,_,_,_⟩
   ·have HT0:=aa hT0;clear hT0
    rcases hk03 with rfl | rfl
    ·have jo:=aa (show ar (L.take (k+1))=P0++[(1,[])] by rw [HS.out,HT0.out];rfl);clear HS
     go_upto_if 19 with (fail)
     rw [<-hW1];clear hW1 c0 c1;have HX:=aa (show HeldE cellE (fun b=>w1.heap.size<=b/\t.ownBlock≠some b) (W1.alloc (.cells [Value.int .i64 1,.slice none 0 0].toArray 59)) (.slice (some ⟨W1.heap.size,0,none⟩) 1 1) [(1,[])] from aB (Y:=fun _=>False) [.int .i64 1,.slice none 0 0] (1,[]) (cell_rep.2 ⟨_,rfl,HeldE.nil _ _ _⟩) (fun _ _ h=>h.elim) ⟨by have:=iT.out;omega,fun e=>by have:=(j8.out _ e).2;have:=iT.out;omega⟩);have iA:=aa (HO.out.below (af W1 (.cells [Value.int .i64 1,.slice none 0 0].toArray 59)));have gH:=aa (gG.out.alloc gG.out.size (.cells [Value.int .i64 1,.slice none 0 0].toArray 59));clear HO
     go_wp2_with (at_builtin;refine ai (E:=cellE) (Z:=fun b=>w1.heap.size<=b) rfl (.tmp 21) (.tmp 23) 53 rfl (.agg #[.int .i64 0,.slice none 0 0]) 32 Tryd.underlying53 bI rfl (by decide) rfl rfl iA.out HX.out (by simp;omega) (by simp;omega) gH.out.size ?_)
     intro v2 w2 gV hb2 _ _;rw [<-jo.out] at gV;have H2:=aa gV;have H3:=aa (gH.out.trans hb2);clear gV hb2;go_wp2
     go_roundw
     case rel=>exact ⟨k+1,by omega,by go_num,H2.out,H3.out⟩
     case measure=>simp [intOf] <;> omega
    ·have jo:=aa (show ar (L.take (k+1))=P0 by rw [HS.out,HT0.out];exact List.append_nil _);clear HS
     go_upto_if 19 with (fail)
     rw [<-hW1];clear hW1 c0 c1;have HOO:=aa (show OwnE cellE (fun b=>w1.heap.size<=b) W1 w1.heap.size 59 t (ar (L.take (k+1))) by rw [jo.out];exact HO.out);clear HO jo;go_wp2
     go_roundw
     case rel=>exact ⟨k+1,by omega,by go_num,HOO.out,gG.out⟩
     case measure=>simp [intOf] <;> omega
   rcases hk12 with rfl | rfl
   ·have jo:=aa (show ar (L.take (k+1))=P0++[(1,T)] from HS.out);clear HS
    go_upto_if 25 with (fail)
    rw [<-hW1];clear hW1 c0 c1;have a1:=HH.out.cell 1 _ rfl;have ig:=aa (cW _ T W1 HT.out.ints (by omega))
    go_wp2_with fail
    refine ig.out.mono ?_;rintro e w2 ⟨v2,rfl,gV,b2⟩;have it:=(HeldE.ownedInts gV).zone (Y:=fun b=>W1.heap.size<=b/\b<w2.heap.size) (fun b hb hz=>⟨hz,hb⟩);obtain ⟨a2,c2,rfl⟩:=it.len;have HX:=aa (show HeldE cellE (fun b=>w1.heap.size<=b/\t.ownBlock≠some b) (w2.alloc (.cells [Value.int .i64 1,.slice a2 T.length c2].toArray 59)) (.slice (some ⟨w2.heap.size,0,none⟩) 1 1) [(1,T)] from aB (Y:=fun b=>W1.heap.size<=b/\b<w2.heap.size) [.int .i64 1,.slice a2 T.length c2] (1,T) (cell_rep.2 ⟨_,rfl,it⟩) (fun b _ h=>⟨by have:=iT.out;omega,fun e=>by have:=(j8.out _ e).2;have:=iT.out;omega⟩) ⟨by have:=iT.out;have:=b2.size;omega,fun e=>by have:=(j8.out _ e).2;have:=iT.out;have:=b2.size;omega⟩);have iA:=aa ((HO.out.below b2).below (af w2 (.cells [Value.int .i64 1,.slice a2 T.length c2].toArray 59)));have kQ:=aa (gG.out.trans (b2.mono gG.out.size));have gH:=aa (kQ.out.alloc kQ.out.size (.cells [Value.int .i64 1,.slice a2 T.length c2].toArray 59));clear HO a1 gV b2 it ig
    go_wp2_with (at_builtin;refine ai (E:=cellE) (Z:=fun b=>w1.heap.size<=b) rfl (.tmp 27) (.tmp 32) 53 rfl (.agg #[.int .i64 0,.slice none 0 0]) 32 Tryd.underlying53 bI rfl (by decide) rfl rfl iA.out HX.out (by simp;omega) (by simp;omega) gH.out.size ?_)
    intro v3 w3 hO hb3 _ _;rw [<-jo.out] at hO;have H2:=aa hO;have H3:=aa (gH.out.trans hb3);clear hO hb3;go_wp2
    go_roundw
    case rel=>exact ⟨k+1,by omega,by go_num,H2.out,H3.out⟩
    case measure=>simp [intOf] <;> omega
   ·have jo:=aa (show ar (L.take (k+1))=P0++[(2,T)] from HS.out);clear HS
    go_upto_if 34 with (fail)
    rw [<-hW1];clear hW1 c0 c1;have a1:=HH.out.cell 1 _ rfl;have ig:=aa (cW _ T W1 HT.out.ints (by omega))
    go_wp2_with fail
    refine ig.out.mono ?_;rintro e w2 ⟨v2,rfl,gV,b2⟩;have it:=(HeldE.ownedInts gV).zone (Y:=fun b=>W1.heap.size<=b/\b<w2.heap.size) (fun b hb hz=>⟨hz,hb⟩);obtain ⟨a2,c2,rfl⟩:=it.len;have HX:=aa (show HeldE cellE (fun b=>w1.heap.size<=b/\t.ownBlock≠some b) (w2.alloc (.cells [Value.int .i64 2,.slice a2 T.length c2].toArray 59)) (.slice (some ⟨w2.heap.size,0,none⟩) 1 1) [(2,T)] from aB (Y:=fun b=>W1.heap.size<=b/\b<w2.heap.size) [.int .i64 2,.slice a2 T.length c2] (2,T) (cell_rep.2 ⟨_,rfl,it⟩) (fun b _ h=>⟨by have:=iT.out;omega,fun e=>by have:=(j8.out _ e).2;have:=iT.out;omega⟩) ⟨by have:=iT.out;have:=b2.size;omega,fun e=>by have:=(j8.out _ e).2;have:=iT.out;have:=b2.size;omega⟩);have iA:=aa ((HO.out.below b2).below (af w2 (.cells [Value.int .i64 2,.slice a2 T.length c2].toArray 59)));have kQ:=aa (gG.out.trans (b2.mono gG.out.size));have gH:=aa (kQ.out.alloc kQ.out.size (.cells [Value.int .i64 2,.slice a2 T.length c2].toArray 59));clear HO a1 gV b2 it ig
    go_wp2_with (at_builtin;refine ai (E:=cellE) (Z:=fun b=>w1.heap.size<=b) rfl (.tmp 36) (.tmp 41) 53 rfl (.agg #[.int .i64 0,.slice none 0 0]) 32 Tryd.underlying53 bI rfl (by decide) rfl rfl iA.out HX.out (by simp;omega) (by simp;omega) gH.out.size ?_)
    intro v3 w3 hO hb3 _ _;rw [<-jo.out] at hO;have H2:=aa hO;have H3:=aa (gH.out.trans hb3);clear hO hb3;go_wp2
    go_roundw
    case rel=>exact ⟨k+1,by omega,by go_num,H2.out,H3.out⟩
    case measure=>simp [intOf] <;> omega
  ·have he:ar (L.take k)=ar L:=by rw [List.take_of_length_le (by omega)]
   rw [he] at hown;have HO:=aa hown;clear he hown;go_wp2
   go_ret2
   exact ⟨_,rfl,(HO.out.base HB.out.size).zone (fun b _ h=>Nat.le_trans HB.out.size h),ko.out⟩
end Go.Proofs.YthdphijabffpiaaDoor
