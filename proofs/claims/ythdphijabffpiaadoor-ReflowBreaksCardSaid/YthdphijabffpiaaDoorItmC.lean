import Derived.Test.YthdphijabffpiaaDoorZ0
import Derived.Test.YthdphijabffpiaaDoorMg3
import Derived.Test.YthdphijabffpiaaDoorCellC
import Derived.Test.YthdphijabffpiaaDoorCellR
import Derived.Test.YthdphijabffpiaaDoorMg1
import Derived.Test.YthdphijabffpiaaDoorErrS
import Derived.Lib.MinMax
import Derived.Deep.Cut
set_option maxRecDepth 100000
set_option linter.unusedVariables false
set_option linter.unusedSimpArgs false
set_option maxHeartbeats 3000000
namespace Go.Proofs.YthdphijabffpiaaDoor
open Go.RowKit Go.ChangeShapes Go.WideShapes
theorem fc(k:Int)(tv:Value)(t:List Int)(w:World)(ht:Held .i32 w tv t)(hl:t.length<=9223372036854775807):Calls Tryd.prog 63 #[.agg #[.int .i64 k,tv]] w (Gives w (.bool (aO (k,t)))):=by
 obtain ⟨ao,cap,rfl⟩:=ht.len;obtain ⟨W1,hW1⟩:=ab (w.alloc (.cells #[.int .i64 k,.slice ao t.length cap] 59));have b1:Below w.heap.size w W1:=by rw [hW1];exact af _ _
 have HR:=aa (dJ 1 _ t W1 (ht.below b1) hl);have HB:=aa b1;clear b1 ht;subst hW1
 by_cases h0:t.length=0
 ·have hz:((t.length:Int) == 0)=true:=by rw [beq_iff_eq];omega
  have HE:=aa (show aO (k,t)=(k == 1) by unfold aO;rw [if_pos h0]);clear h0
  go_enter Tryd.func63,Tryd.ntmps63
  go_wp2;go_ret;exact ⟨ak (by rw [HE.out];try rfl),HB.out⟩
 ·have hz:((t.length:Int) == 0)=false:=by rw [beq_eq_false_iff_ne];omega
  have HE:=aa (show aO (k,t)=((k == 1 || k == 2) && ap (1,t)) by unfold aO;rw [if_neg h0]);clear h0
  by_cases h1:k=1
  ·have jp:(k == 1)=true:=by rw [beq_iff_eq];exact h1
   rw [jp,Bool.true_or,Bool.true_and] at HE;clear h1
   go_enter Tryd.func63,Tryd.ntmps63
   go_wp2_with fail
   refine HR.out.mono ?_;rintro e w2 ⟨rfl,b2⟩;have hG:=aa (HB.out.trans (b2.mono HB.out.size));clear b2;go_wp2;go_ret;exact ⟨ak (by rw [HE.out];try rfl),hG.out⟩
  have jp:(k == 1)=false:=by rw [beq_eq_false_iff_ne];exact h1
  by_cases h2:k=2
  ·have hk2:(k == 2)=true:=by rw [beq_iff_eq];exact h2
   rw [jp,hk2,Bool.false_or,Bool.true_and] at HE;clear h1 h2
   go_enter Tryd.func63,Tryd.ntmps63
   go_wp2_with fail
   refine HR.out.mono ?_;rintro e w2 ⟨rfl,b2⟩;have hG:=aa (HB.out.trans (b2.mono HB.out.size));clear b2;go_wp2;go_ret;exact ⟨ak (by rw [HE.out];try rfl),hG.out⟩
  have hk2:(k == 2)=false:=by rw [beq_eq_false_iff_ne];exact h2
  rw [jp,hk2,Bool.false_or,Bool.false_and] at HE;clear h1 h2
  go_enter Tryd.func63,Tryd.ntmps63
  go_wp2;go_ret;exact ⟨ak (by rw [HE.out];try rfl),HB.out⟩
def fR(w:World)(M:List Cl)(e:Ending)(w':World):Prop:=∃ v',e=.returned (.tuple #[v',.nilIface])/\OwnE cellE (fun b=>w.heap.size<=b) w' w.heap.size 59 v' M/\Below w.heap.size w w'
theorem gO(Z:aj)(v:Value)(L:List Cl)(w:World)(hv:HeldE cellE Z w v L)(hl:L.length<=1000000)(hs:al L=true):Calls Tryd.prog 59 #[v] w (fR w (an L)):=by
 have lm:=aa (cL _ _ _ _ hv);rw [hs] at lm;have lE:=aa (et hs);have hv:=hv.lower;obtain ⟨ao,cap,rfl⟩:=hv.len;obtain ⟨_,_,hc⟩:=aB hv;have HC:=aa hc;clear hc hv hs
 go_enter Tryd.func59,Tryd.ntmps59
 go_wp2_with fail
 refine lm.out.mono ?_;rintro e w1 ⟨rfl,b1⟩;have HB:=aa b1;clear b1 lm;go_wp2
 go_loopw [4,13] (fun t i wr=>∃ k:Nat,k<=L.length/\i=.int .i64 k/\OwnE cellE (fun b=>w1.heap.size<=b) wr w1.heap.size 59 t (an (L.take k))/\Below w1.heap.size w1 wr) (fun _ i _=>L.length - (intOf i).toNat)
 case atStart=>exact ⟨0,Nat.zero_le _,rfl,OwnE.nil _ _ _ _ _,Below.refl _ _⟩
 case round =>
  obtain ⟨k,hk,rfl,hown,g3⟩:=hrel;have gW:=aa g3;have lX:=aa (HB.out.trans (g3.mono HB.out.size));clear g3
  by_cases hlt:k<L.length
  ·obtain ⟨b,off,tv,rfl,hb,_,c0,c1,hh⟩:=HC.out k hlt;have c0:=(lX.out.cell (p:=⟨b,off+k * 2,none⟩) hb).trans c0;have c1:=(lX.out.cell (p:=⟨b,off+k * 2+1,none⟩) hb).trans c1;have hs:=dx L k hlt;have hrt:=lE.out k hlt;have hlen:(an (L.take k)).length<=1000000:=by have:=cP (L.take k);rw [List.length_take] at this;omega
   obtain ⟨⟨K,T⟩,ic⟩ : ∃ y,y=L.getD k zc:=⟨_,rfl⟩;rw [<-ic] at c0 hh hs hrt;have jn:=ew hrt;have jQ:=bQ hrt;simp only at c0 hh jn jQ;obtain ⟨tz9,tc,rfl⟩:=hh.len;obtain ⟨P0,hP⟩:=ab (an (L.take k));rw [<-hP] at hown hs hlen;obtain ⟨W1,hW1⟩:=ab (wr.alloc (.cells #[.int .i64 K,.slice tz9 T.length tc] 74));have hb1:Below wr.heap.size wr W1:=by rw [hW1];exact af _ _
   have HH:=aa (show Has W1 wr.heap.size [.int .i64 K,.slice tz9 T.length tc] 74 by rw [hW1];exact Has.new wr _ _);have jM:=aa hown.lt;have HO:=aa (hown.below hb1);have gZ:=aa (gW.out.trans (hb1.mono gW.out.size));have j8:=aa (show w1.heap.size<=wr.heap.size/\wr.heap.size<W1.heap.size from ⟨gW.out.size,HH.out.lt⟩);have HT:=aa (hh.below (lX.out.trans (hb1.mono lX.out.size)));have HS:=aa hs;obtain ⟨t,ky⟩:=ab (u4);rw [<-ky] at HO jM ⊢;clear ic hP hh hb1 hown ky hs hb hrt
   rcases jQ with ⟨hk03,hT0⟩ | ⟨hk12,_,_,_⟩
   ·have HT0:=aa hT0;clear hT0
    rcases hk03 with rfl | rfl
    ·have kw:=aa (show an (L.take (k+1))=P0++[(1,[])] by rw [HS.out,HT0.out];rfl);clear HS
     go_upto_if 19 with (fail)
     rw [<-hW1];clear hW1 c0 c1;have HX:=aa (show HeldE cellE (fun b=>w1.heap.size<=b/\t.ownBlock≠some b) (W1.alloc (.cells [Value.int .i64 1,.slice none 0 0].toArray 59)) (.slice (some ⟨W1.heap.size,0,none⟩) 1 1) [(1,[])] from ax (Y:=fun _=>False) [.int .i64 1,.slice none 0 0] (1,[]) (cell_rep.2 ⟨_,rfl,HeldE.nil _ _ _⟩) (fun _ _ h=>h.elim) ⟨by have:=j8.out;omega,fun e=>by have:=(jM.out _ e).2;have:=j8.out;omega⟩);have jO:=aa (HO.out.below (af W1 (.cells [Value.int .i64 1,.slice none 0 0].toArray 59)));have hG:=aa (gZ.out.alloc gZ.out.size (.cells [Value.int .i64 1,.slice none 0 0].toArray 59));clear HO
     go_wp2_with (at_builtin;refine ai (E:=cellE) (Z:=fun b=>w1.heap.size<=b) rfl (.tmp 21) (.tmp 23) 53 rfl (.agg #[.int .i64 0,.slice none 0 0]) 32 Tryd.underlying53 aW rfl (by decide) rfl rfl jO.out HX.out (by simp;omega) (by simp;omega) hG.out.size ?_)
     intro v2 w2 ig hb2 _ _;rw [<-kw.out] at ig;have H2:=aa ig;have H3:=aa (hG.out.trans hb2);clear ig hb2;go_wp2
     go_roundw
     case rel=>exact ⟨k+1,by omega,by go_num,H2.out,H3.out⟩
     case measure=>simp [intOf] <;> omega
    ·have kw:=aa (show an (L.take (k+1))=P0 by rw [HS.out,HT0.out];exact List.append_nil _);clear HS
     go_upto_if 19 with (fail)
     rw [<-hW1];clear hW1 c0 c1;have HOO:=aa (show OwnE cellE (fun b=>w1.heap.size<=b) W1 w1.heap.size 59 t (an (L.take (k+1))) by rw [kw.out];exact HO.out);clear HO kw;go_wp2
     go_roundw
     case rel=>exact ⟨k+1,by omega,by go_num,HOO.out,gZ.out⟩
     case measure=>simp [intOf] <;> omega
   rcases hk12 with rfl | rfl
   ·have kw:=aa (show an (L.take (k+1))=P0++[(1,T)] from HS.out);clear HS
    go_upto_if 25 with (fail)
    rw [<-hW1];clear hW1 c0 c1;have a1:=HH.out.cell 1 _ rfl;have iS:=aa (dl _ T W1 HT.out.ints (by omega))
    go_wp2_with fail
    refine iS.out.mono ?_;rintro e w2 ⟨v2,rfl,ig,b2⟩;have jd:=(HeldE.ownedInts ig).zone (Y:=fun b=>W1.heap.size<=b/\b<w2.heap.size) (fun b hb hz=>⟨hz,hb⟩);obtain ⟨a2,c2,rfl⟩:=jd.len;have HX:=aa (show HeldE cellE (fun b=>w1.heap.size<=b/\t.ownBlock≠some b) (w2.alloc (.cells [Value.int .i64 1,.slice a2 T.length c2].toArray 59)) (.slice (some ⟨w2.heap.size,0,none⟩) 1 1) [(1,T)] from ax (Y:=fun b=>W1.heap.size<=b/\b<w2.heap.size) [.int .i64 1,.slice a2 T.length c2] (1,T) (cell_rep.2 ⟨_,rfl,jd⟩) (fun b _ h=>⟨by have:=j8.out;omega,fun e=>by have:=(jM.out _ e).2;have:=j8.out;omega⟩) ⟨by have:=j8.out;have:=b2.size;omega,fun e=>by have:=(jM.out _ e).2;have:=j8.out;have:=b2.size;omega⟩);have jO:=aa ((HO.out.below b2).below (af w2 (.cells [Value.int .i64 1,.slice a2 T.length c2].toArray 59)));have ma:=aa (gZ.out.trans (b2.mono gZ.out.size));have hG:=aa (ma.out.alloc ma.out.size (.cells [Value.int .i64 1,.slice a2 T.length c2].toArray 59));clear HO a1 ig b2 jd iS
    go_wp2_with (at_builtin;refine ai (E:=cellE) (Z:=fun b=>w1.heap.size<=b) rfl (.tmp 27) (.tmp 32) 53 rfl (.agg #[.int .i64 0,.slice none 0 0]) 32 Tryd.underlying53 aW rfl (by decide) rfl rfl jO.out HX.out (by simp;omega) (by simp;omega) hG.out.size ?_)
    intro v3 w3 jg hb3 _ _;rw [<-kw.out] at jg;have H2:=aa jg;have H3:=aa (hG.out.trans hb3);clear jg hb3;go_wp2
    go_roundw
    case rel=>exact ⟨k+1,by omega,by go_num,H2.out,H3.out⟩
    case measure=>simp [intOf] <;> omega
   ·have kw:=aa (show an (L.take (k+1))=P0++[(2,T)] from HS.out);clear HS
    go_upto_if 34 with (fail)
    rw [<-hW1];clear hW1 c0 c1;have a1:=HH.out.cell 1 _ rfl;have iS:=aa (dl _ T W1 HT.out.ints (by omega))
    go_wp2_with fail
    refine iS.out.mono ?_;rintro e w2 ⟨v2,rfl,ig,b2⟩;have jd:=(HeldE.ownedInts ig).zone (Y:=fun b=>W1.heap.size<=b/\b<w2.heap.size) (fun b hb hz=>⟨hz,hb⟩);obtain ⟨a2,c2,rfl⟩:=jd.len;have HX:=aa (show HeldE cellE (fun b=>w1.heap.size<=b/\t.ownBlock≠some b) (w2.alloc (.cells [Value.int .i64 2,.slice a2 T.length c2].toArray 59)) (.slice (some ⟨w2.heap.size,0,none⟩) 1 1) [(2,T)] from ax (Y:=fun b=>W1.heap.size<=b/\b<w2.heap.size) [.int .i64 2,.slice a2 T.length c2] (2,T) (cell_rep.2 ⟨_,rfl,jd⟩) (fun b _ h=>⟨by have:=j8.out;omega,fun e=>by have:=(jM.out _ e).2;have:=j8.out;omega⟩) ⟨by have:=j8.out;have:=b2.size;omega,fun e=>by have:=(jM.out _ e).2;have:=j8.out;have:=b2.size;omega⟩);have jO:=aa ((HO.out.below b2).below (af w2 (.cells [Value.int .i64 2,.slice a2 T.length c2].toArray 59)));have ma:=aa (gZ.out.trans (b2.mono gZ.out.size));have hG:=aa (ma.out.alloc ma.out.size (.cells [Value.int .i64 2,.slice a2 T.length c2].toArray 59));clear HO a1 ig b2 jd iS
    go_wp2_with (at_builtin;refine ai (E:=cellE) (Z:=fun b=>w1.heap.size<=b) rfl (.tmp 36) (.tmp 41) 53 rfl (.agg #[.int .i64 0,.slice none 0 0]) 32 Tryd.underlying53 aW rfl (by decide) rfl rfl jO.out HX.out (by simp;omega) (by simp;omega) hG.out.size ?_)
    intro v3 w3 jg hb3 _ _;rw [<-kw.out] at jg;have H2:=aa jg;have H3:=aa (hG.out.trans hb3);clear jg hb3;go_wp2
    go_roundw
    case rel=>exact ⟨k+1,by omega,by go_num,H2.out,H3.out⟩
    case measure=>simp [intOf] <;> omega
  ·have he:an (L.take k)=an L:=by rw [List.take_of_length_le (by omega)]
   rw [he] at hown;have HO:=aa hown;clear he hown;go_wp2
   go_ret2
   exact ⟨_,rfl,(HO.out.base HB.out.size).zone (fun b _ h=>Nat.le_trans HB.out.size h),lX.out⟩
end Go.Proofs.YthdphijabffpiaaDoor
