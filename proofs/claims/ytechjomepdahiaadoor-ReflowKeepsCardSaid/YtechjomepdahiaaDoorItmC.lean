import Derived.Test.YtechjomepdahiaaDoorZ0
import Derived.Test.YtechjomepdahiaaDoorMg4
import Derived.Test.YtechjomepdahiaaDoorCellC
import Derived.Test.YtechjomepdahiaaDoorCellR
import Derived.Test.YtechjomepdahiaaDoorMg1
import Derived.Test.YtechjomepdahiaaDoorErrS
import Derived.Lib.MinMax
import Derived.Deep.Cut
set_option maxRecDepth 100000
set_option linter.unusedVariables false
set_option linter.unusedSimpArgs false
set_option maxHeartbeats 3000000
namespace Go.Proofs.YtechjomepdahiaaDoor
open Go.RowKit Go.ChangeShapes Go.WideShapes
theorem ed(k:Int)(tv:Value)(t:List Int)(w:World)(ht:Held .i32 w tv t)(hl:t.length<=9223372036854775807):Calls Tryd.prog 40 #[.agg #[.int .i64 k,tv]] w (Gives w (.bool (ap (k,t)))):=by
 obtain ⟨ao,cap,rfl⟩:=ht.len;obtain ⟨W1,hW1⟩:=ab (w.alloc (.cells #[.int .i64 k,.slice ao t.length cap] 27));have b1:Below w.heap.size w W1:=by rw [hW1];exact af _ _
 have HR:=aa (db 1 _ t W1 (ht.below b1) hl);have HB:=aa b1;clear b1 ht;subst hW1
 by_cases h0:t.length=0
 ·have hz:((t.length:Int) == 0)=true:=by rw [beq_iff_eq];omega
  have HE:=aa (show ap (k,t)=(k == 1) by unfold ap;rw [if_pos h0]);clear h0
  go_enter Tryd.func40,Tryd.ntmps40
  go_wp2;go_ret;exact ⟨am (by rw [HE.out];try rfl),HB.out⟩
 ·have hz:((t.length:Int) == 0)=false:=by rw [beq_eq_false_iff_ne];omega
  have HE:=aa (show ap (k,t)=((k == 1 || k == 2) && ak (1,t)) by unfold ap;rw [if_neg h0]);clear h0
  by_cases h1:k=1
  ·have fU:(k == 1)=true:=by rw [beq_iff_eq];exact h1
   rw [fU,Bool.true_or,Bool.true_and] at HE;clear h1
   go_enter Tryd.func40,Tryd.ntmps40
   go_wp2_with fail
   refine HR.out.mono ?_;rintro e w2 ⟨rfl,b2⟩;have fF:=aa (HB.out.trans (b2.mono HB.out.size));clear b2;go_wp2;go_ret;exact ⟨am (by rw [HE.out];try rfl),fF.out⟩
  have fU:(k == 1)=false:=by rw [beq_eq_false_iff_ne];exact h1
  by_cases h2:k=2
  ·have hk2:(k == 2)=true:=by rw [beq_iff_eq];exact h2
   rw [fU,hk2,Bool.false_or,Bool.true_and] at HE;clear h1 h2
   go_enter Tryd.func40,Tryd.ntmps40
   go_wp2_with fail
   refine HR.out.mono ?_;rintro e w2 ⟨rfl,b2⟩;have fF:=aa (HB.out.trans (b2.mono HB.out.size));clear b2;go_wp2;go_ret;exact ⟨am (by rw [HE.out];try rfl),fF.out⟩
  have hk2:(k == 2)=false:=by rw [beq_eq_false_iff_ne];exact h2
  rw [fU,hk2,Bool.false_or,Bool.false_and] at HE;clear h1 h2
  go_enter Tryd.func40,Tryd.ntmps40
  go_wp2;go_ret;exact ⟨am (by rw [HE.out];try rfl),HB.out⟩
theorem dL(k:Int)(tv:Value)(t:List Int)(w:World)(ht:Held .i32 w tv t)(hl:t.length<=9223372036854775807):Calls Tryd.prog 10 #[.agg #[.int .i64 k,tv]] w (Gives w (.bool (ap (k,t)))):=by
 obtain ⟨ao,cap,rfl⟩:=ht.len;obtain ⟨W1,hW1⟩:=ab (w.alloc (.cells #[.int .i64 k,.slice ao t.length cap] 27));have b1:Below w.heap.size w W1:=by rw [hW1];exact af _ _
 have HR:=aa (ea 1 _ t W1 (ht.below b1) hl);have HB:=aa b1;clear b1 ht;subst hW1
 by_cases h0:t.length=0
 ·have hz:((t.length:Int) == 0)=true:=by rw [beq_iff_eq];omega
  have HE:=aa (show ap (k,t)=(k == 1) by unfold ap;rw [if_pos h0]);clear h0
  go_enter Tryd.func10,Tryd.ntmps10
  go_wp2;go_ret;exact ⟨am (by rw [HE.out];try rfl),HB.out⟩
 ·have hz:((t.length:Int) == 0)=false:=by rw [beq_eq_false_iff_ne];omega
  have HE:=aa (show ap (k,t)=((k == 1 || k == 2) && ak (1,t)) by unfold ap;rw [if_neg h0]);clear h0
  by_cases h1:k=1
  ·have fU:(k == 1)=true:=by rw [beq_iff_eq];exact h1
   rw [fU,Bool.true_or,Bool.true_and] at HE;clear h1
   go_enter Tryd.func10,Tryd.ntmps10
   go_wp2_with fail
   refine HR.out.mono ?_;rintro e w2 ⟨rfl,b2⟩;have fF:=aa (HB.out.trans (b2.mono HB.out.size));clear b2;go_wp2;go_ret;exact ⟨am (by rw [HE.out];try rfl),fF.out⟩
  have fU:(k == 1)=false:=by rw [beq_eq_false_iff_ne];exact h1
  by_cases h2:k=2
  ·have hk2:(k == 2)=true:=by rw [beq_iff_eq];exact h2
   rw [fU,hk2,Bool.false_or,Bool.true_and] at HE;clear h1 h2
   go_enter Tryd.func10,Tryd.ntmps10
   go_wp2_with fail
   refine HR.out.mono ?_;rintro e w2 ⟨rfl,b2⟩;have fF:=aa (HB.out.trans (b2.mono HB.out.size));clear b2;go_wp2;go_ret;exact ⟨am (by rw [HE.out];try rfl),fF.out⟩
  have hk2:(k == 2)=false:=by rw [beq_eq_false_iff_ne];exact h2
  rw [fU,hk2,Bool.false_or,Bool.false_and] at HE;clear h1 h2
  go_enter Tryd.func10,Tryd.ntmps10
  go_wp2;go_ret;exact ⟨am (by rw [HE.out];try rfl),HB.out⟩
def eP(w:World)(M:List Cl)(e:Ending)(w':World):Prop:=∃ v',e=.returned (.tuple #[v',.nilIface])/\OwnE cellE (fun b=>w.heap.size<=b) w' w.heap.size 27 v' M/\Below w.heap.size w w'
theorem fu(Z:ai)(v:Value)(L:List Cl)(w:World)(hv:HeldE cellE Z w v L)(hl:L.length<=1000000)(hs:aj L=true):Calls Tryd.prog 46 #[v] w (eP w (al L)):=by
 have iq:=aa (da _ _ _ _ hv);rw [hs] at iq;have HRT:=aa (dG hs);have hv:=hv.lower;obtain ⟨ao,cap,rfl⟩:=hv.len;obtain ⟨_,_,hc⟩:=aK hv;have HC:=aa hc;clear hc hv hs
 go_enter Tryd.func46,Tryd.ntmps46
 go_wp2_with fail
 refine iq.out.mono ?_;rintro e w1 ⟨rfl,b1⟩;have HB:=aa b1;clear b1 iq;go_wp2
 go_loopw [4,13] (fun t i wr=>∃ k:Nat,k<=L.length/\i=.int .i64 k/\OwnE cellE (fun b=>w1.heap.size<=b) wr w1.heap.size 27 t (al (L.take k))/\Below w1.heap.size w1 wr) (fun _ i _=>L.length - (intOf i).toNat)
 case atStart=>exact ⟨0,Nat.zero_le _,rfl,OwnE.nil _ _ _ _ _,Below.refl _ _⟩
 case round =>
  obtain ⟨k,hk,rfl,hown,fB⟩:=hrel;have fz:=aa fB;have iB:=aa (HB.out.trans (fB.mono HB.out.size));clear fB
  by_cases hlt:k<L.length
  ·obtain ⟨b,off,tv,rfl,hb,_,c0,c1,hh⟩:=HC.out k hlt;have c0:=(iB.out.cell (p:=⟨b,off+k * 2,none⟩) hb).trans c0;have c1:=(iB.out.cell (p:=⟨b,off+k * 2+1,none⟩) hb).trans c1;have hs:=eg L k hlt;have hrt:=HRT.out k hlt;have hlen:(al (L.take k)).length<=1000000:=by have:=dj (L.take k);rw [List.length_take] at this;omega
   obtain ⟨⟨K,T⟩,fH⟩ : ∃ y,y=L.getD k zc:=⟨_,rfl⟩;rw [<-fH] at c0 hh hs hrt;have iI:=dH hrt;have fW:=aU hrt;simp only at c0 hh iI fW;obtain ⟨tz9,tc,rfl⟩:=hh.len;obtain ⟨P0,hP⟩:=ab (al (L.take k));rw [<-hP] at hown hs hlen;obtain ⟨W1,hW1⟩:=ab (wr.alloc (.cells #[.int .i64 K,.slice tz9 T.length tc] 85));have hb1:Below wr.heap.size wr W1:=by rw [hW1];exact af _ _
   have HH:=aa (show Has W1 wr.heap.size [.int .i64 K,.slice tz9 T.length tc] 85 by rw [hW1];exact Has.new wr _ _);have gL:=aa hown.lt;have HO:=aa (hown.below hb1);have fA:=aa (fz.out.trans (hb1.mono fz.out.size));have gG:=aa (show w1.heap.size<=wr.heap.size/\wr.heap.size<W1.heap.size from ⟨fz.out.size,HH.out.lt⟩);have HT:=aa (hh.below (iB.out.trans (hb1.mono iB.out.size)));have HS:=aa hs;obtain ⟨t,htt⟩:=ab (u4);rw [<-htt] at HO gL ⊢;clear fH hP hh hb1 hown htt hs hb hrt
   rcases fW with ⟨hk03,js⟩ | ⟨hk12,_,_,_⟩
   ·have hG:=aa js;clear js
    rcases hk03 with rfl | rfl
    ·have gR:=aa (show al (L.take (k+1))=P0++[(1,[])] by rw [HS.out,hG.out];rfl);clear HS
     go_upto_if 19 with (fail)
     rw [<-hW1];clear hW1 c0 c1;have HX:=aa (show HeldE cellE (fun b=>w1.heap.size<=b/\t.ownBlock≠some b) (W1.alloc (.cells [Value.int .i64 1,.slice none 0 0].toArray 27)) (.slice (some ⟨W1.heap.size,0,none⟩) 1 1) [(1,[])] from aI (Y:=fun _=>False) [.int .i64 1,.slice none 0 0] (1,[]) (cell_rep.2 ⟨_,rfl,HeldE.nil _ _ _⟩) (fun _ _ h=>h.elim) ⟨by have:=gG.out;omega,fun e=>by have:=(gL.out _ e).2;have:=gG.out;omega⟩);have gS:=aa (HO.out.below (af W1 (.cells [Value.int .i64 1,.slice none 0 0].toArray 27)));have fF:=aa (fA.out.alloc fA.out.size (.cells [Value.int .i64 1,.slice none 0 0].toArray 27));clear HO
     go_wp2_with (at_builtin;refine an (E:=cellE) (Z:=fun b=>w1.heap.size<=b) rfl (.tmp 21) (.tmp 23) 22 rfl (.agg #[.int .i64 0,.slice none 0 0]) 32 Tryd.underlying22 bB rfl (by decide) rfl rfl gS.out HX.out (by simp;omega) (by simp;omega) fF.out.size ?_)
     intro v2 w2 f5 hb2 _ _;rw [<-gR.out] at f5;have H2:=aa f5;have H3:=aa (fF.out.trans hb2);clear f5 hb2;go_wp2
     go_roundw
     case rel=>exact ⟨k+1,by omega,by go_num,H2.out,H3.out⟩
     case measure=>simp [intOf] <;> omega
    ·have gR:=aa (show al (L.take (k+1))=P0 by rw [HS.out,hG.out];exact List.append_nil _);clear HS
     go_upto_if 19 with (fail)
     rw [<-hW1];clear hW1 c0 c1;have HOO:=aa (show OwnE cellE (fun b=>w1.heap.size<=b) W1 w1.heap.size 27 t (al (L.take (k+1))) by rw [gR.out];exact HO.out);clear HO gR;go_wp2
     go_roundw
     case rel=>exact ⟨k+1,by omega,by go_num,HOO.out,fA.out⟩
     case measure=>simp [intOf] <;> omega
   rcases hk12 with rfl | rfl
   ·have gR:=aa (show al (L.take (k+1))=P0++[(1,T)] from HS.out);clear HS
    go_upto_if 25 with (fail)
    rw [<-hW1];clear hW1 c0 c1;have a1:=HH.out.cell 1 _ rfl;have gW:=aa (cM _ T W1 HT.out.ints (by omega))
    go_wp2_with fail
    refine gW.out.mono ?_;rintro e w2 ⟨v2,rfl,f5,b2⟩;have gM:=(HeldE.ownedInts f5).zone (Y:=fun b=>W1.heap.size<=b/\b<w2.heap.size) (fun b hb hz=>⟨hz,hb⟩);obtain ⟨a2,c2,rfl⟩:=gM.len;have HX:=aa (show HeldE cellE (fun b=>w1.heap.size<=b/\t.ownBlock≠some b) (w2.alloc (.cells [Value.int .i64 1,.slice a2 T.length c2].toArray 27)) (.slice (some ⟨w2.heap.size,0,none⟩) 1 1) [(1,T)] from aI (Y:=fun b=>W1.heap.size<=b/\b<w2.heap.size) [.int .i64 1,.slice a2 T.length c2] (1,T) (cell_rep.2 ⟨_,rfl,gM⟩) (fun b _ h=>⟨by have:=gG.out;omega,fun e=>by have:=(gL.out _ e).2;have:=gG.out;omega⟩) ⟨by have:=gG.out;have:=b2.size;omega,fun e=>by have:=(gL.out _ e).2;have:=gG.out;have:=b2.size;omega⟩);have gS:=aa ((HO.out.below b2).below (af w2 (.cells [Value.int .i64 1,.slice a2 T.length c2].toArray 27)));have iF:=aa (fA.out.trans (b2.mono fA.out.size));have fF:=aa (iF.out.alloc iF.out.size (.cells [Value.int .i64 1,.slice a2 T.length c2].toArray 27));clear HO a1 f5 b2 gM gW
    go_wp2_with (at_builtin;refine an (E:=cellE) (Z:=fun b=>w1.heap.size<=b) rfl (.tmp 27) (.tmp 32) 22 rfl (.agg #[.int .i64 0,.slice none 0 0]) 32 Tryd.underlying22 bB rfl (by decide) rfl rfl gS.out HX.out (by simp;omega) (by simp;omega) fF.out.size ?_)
    intro v3 w3 fT hb3 _ _;rw [<-gR.out] at fT;have H2:=aa fT;have H3:=aa (fF.out.trans hb3);clear fT hb3;go_wp2
    go_roundw
    case rel=>exact ⟨k+1,by omega,by go_num,H2.out,H3.out⟩
    case measure=>simp [intOf] <;> omega
   ·have gR:=aa (show al (L.take (k+1))=P0++[(2,T)] from HS.out);clear HS
    go_upto_if 34 with (fail)
    rw [<-hW1];clear hW1 c0 c1;have a1:=HH.out.cell 1 _ rfl;have gW:=aa (cM _ T W1 HT.out.ints (by omega))
    go_wp2_with fail
    refine gW.out.mono ?_;rintro e w2 ⟨v2,rfl,f5,b2⟩;have gM:=(HeldE.ownedInts f5).zone (Y:=fun b=>W1.heap.size<=b/\b<w2.heap.size) (fun b hb hz=>⟨hz,hb⟩);obtain ⟨a2,c2,rfl⟩:=gM.len;have HX:=aa (show HeldE cellE (fun b=>w1.heap.size<=b/\t.ownBlock≠some b) (w2.alloc (.cells [Value.int .i64 2,.slice a2 T.length c2].toArray 27)) (.slice (some ⟨w2.heap.size,0,none⟩) 1 1) [(2,T)] from aI (Y:=fun b=>W1.heap.size<=b/\b<w2.heap.size) [.int .i64 2,.slice a2 T.length c2] (2,T) (cell_rep.2 ⟨_,rfl,gM⟩) (fun b _ h=>⟨by have:=gG.out;omega,fun e=>by have:=(gL.out _ e).2;have:=gG.out;omega⟩) ⟨by have:=gG.out;have:=b2.size;omega,fun e=>by have:=(gL.out _ e).2;have:=gG.out;have:=b2.size;omega⟩);have gS:=aa ((HO.out.below b2).below (af w2 (.cells [Value.int .i64 2,.slice a2 T.length c2].toArray 27)));have iF:=aa (fA.out.trans (b2.mono fA.out.size));have fF:=aa (iF.out.alloc iF.out.size (.cells [Value.int .i64 2,.slice a2 T.length c2].toArray 27));clear HO a1 f5 b2 gM gW
    go_wp2_with (at_builtin;refine an (E:=cellE) (Z:=fun b=>w1.heap.size<=b) rfl (.tmp 36) (.tmp 41) 22 rfl (.agg #[.int .i64 0,.slice none 0 0]) 32 Tryd.underlying22 bB rfl (by decide) rfl rfl gS.out HX.out (by simp;omega) (by simp;omega) fF.out.size ?_)
    intro v3 w3 fT hb3 _ _;rw [<-gR.out] at fT;have H2:=aa fT;have H3:=aa (fF.out.trans hb3);clear fT hb3;go_wp2
    go_roundw
    case rel=>exact ⟨k+1,by omega,by go_num,H2.out,H3.out⟩
    case measure=>simp [intOf] <;> omega
  ·have he:al (L.take k)=al L:=by rw [List.take_of_length_le (by omega)]
   rw [he] at hown;have HO:=aa hown;clear he hown;go_wp2
   go_ret2
   exact ⟨_,rfl,(HO.out.base HB.out.size).zone (fun b _ h=>Nat.le_trans HB.out.size h),iB.out⟩
end Go.Proofs.YtechjomepdahiaaDoor
