import Derived.Test.YthdphijabffpiaaDoorZ0
import Derived.Test.YthdphijabffpiaaDoorMg3
set_option maxRecDepth 100000
set_option linter.unusedVariables false
set_option linter.unusedSimpArgs false
set_option maxHeartbeats 800000
namespace Go.Proofs.YthdphijabffpiaaDoor
open Go.RowKit Go.ChangeShapes Go.WideShapes
def cC(x:Cl):List Int:=(if x.1=0 then [32] else [])++x.2
def aN(L:List Cl):List Int:=L.flatMap cC
theorem eT(L:List Cl)(k:Nat)(h:k<L.length):aN (L.take (k+1))=aN (L.take k)++cC (L.getD k zc):=by
 unfold aN;rw [List.take_succ_eq_append_getElem h,List.flatMap_append]
 simp [List.getD,List.getElem?_eq_getElem h]
theorem dw(L:List Cl)(k:Nat):(aN (L.take k)).length<=(aN L).length:=by
 have:aN L=aN (L.take k)++aN (L.drop k):=by unfold aN;rw [<-List.flatMap_append,List.take_append_drop]
 rw [this,List.length_append];omega
theorem a7(Z:an)(v:Value)(L:List Cl)(w:World)(hv:HeldE cellE Z w v L)(ht:(aN L).length<=1000000000000):Calls Tryd.prog 71 #[v] w (dO (aB .i32) (fun _=>True) 21 w (aN L)):=by
 have hl:=hv.max;have hv:=hv.zone (Y:=fun b=>b<w.heap.size) (fun b hb _=>hb);obtain ⟨ao,cap,rfl⟩:=hv.len;obtain ⟨_,_,hc⟩:=aL hv;have HC:=aa hc;clear hc hv
 go_enter Tryd.func71,Tryd.ntmps71
 go_wp2
 go_loopw [3,8] (fun t i wr=>∃ k:Nat,k<=L.length/\i=.int .i64 k/\OwnE (aB .i32) (fun _=>True) wr w.heap.size 21 t (aN (L.take k))/\Below w.heap.size w wr) (fun _ i _=>L.length - (intOf i).toNat)
 case atStart=>exact ⟨0,Nat.zero_le _,rfl,OwnE.nil _ _ _ _ _,Below.refl _ _⟩
 case round =>
  obtain ⟨k,hk,rfl,hown,ig⟩:=hrel;have hZ:=aa ig;clear ig
  by_cases hlt:k<L.length
  ·obtain ⟨b,off,tv,rfl,hb,_,c0,c1,hh⟩:=HC.out k hlt;have hw:=hh;have hh:=hh.below hZ.out;have c0:=(hZ.out.cell (p:=⟨b,off+k * 2,none⟩) hb).trans c0;have c1:=(hZ.out.cell (p:=⟨b,off+k * 2+1,none⟩) hb).trans c1;have hs:=eT L k hlt;have hle:=dw L (k+1);rw [hs,List.length_append] at hle;obtain ⟨⟨K,T⟩,jN⟩ : ∃ y,y=L.getD k zc:=⟨_,rfl⟩;rw [<-jN] at c0 hh hw hs hle;unfold cC at hs hle;simp only at c0 hh hw hs hle;have HW:=aa hw;clear jN hw;obtain ⟨P0,hP⟩:=ab (aN (L.take k));rw [<-hP] at hown hs hle;clear hP;obtain ⟨W1,hW1⟩:=ab (wr.alloc (.cells #[.int .i64 K,tv] 74));have hb1:Below wr.heap.size wr W1:=by rw [hW1];exact af _ _
   by_cases hk0:K=0
   ·subst hk0;rw [if_pos rfl] at hs;replace hs:aN (L.take (k+1))=P0++32 :: T:=hs;rw [if_pos rfl] at hle;simp only [List.length_append,List.length_cons,List.length_nil] at hle;obtain ⟨W2,hW2⟩:=ab (W1.alloc (.cells [Value.int .i32 32].toArray 21));have hb2:Below wr.heap.size wr W2:=by rw [hW2];exact hb1.alloc hb1.size _
    have ij:=hown.lt;have hown:=hown.below hb2;have hsz:W1.heap.size=wr.heap.size+1:=by rw [hW1];exact Array.size_push _
    have hx:HeldE (aB .i32) (fun b=>True/\u3.ownBlock≠some b) W2 (.slice (some ⟨wr.heap.size+1,0,none⟩) 1 1) [32]:=by
     rw [hW2,<-hsz];exact bj (Y:=fun _=>False) [.int .i32 32] 32 rfl (fun _ _ h=>h.elim) ⟨trivial,fun e=>by have:=(ij _ e).2;omega⟩
    have h1:Has W1 wr.heap.size [.int .i64 0,tv] 74:=by rw [hW1];exact Has.new wr _ _
    have kr:Hid (Has W2 wr.heap.size [.int .i64 0,tv] 74):=aa (by rw [hW2];exact Has.below h1 (af _ _) h1.lt);have HOB:=aa (show u3.ownBlock≠some wr.heap.size from fun e=>by have:=(ij _ e).2;omega);clear h1;have HS:=aa hs;have HO:=aa hown;have HX:=aa hx;have gX:=aa (hZ.out.trans (hb2.mono hZ.out.size));subst hW2;subst hW1;obtain ⟨tz9,tc,rfl⟩:=hh.len;clear hown hb1 hb2 ij hh hx hs hsz
    go_wp2_with (at_builtin;refine al (E:=aB .i32) (Z:=fun _=>True) rfl (.tmp 15) (.tmp 16) 57 rfl (.int .i32 0) 4 Tryd.underlying57 aK rfl (Nat.lt_succ_self 0) rfl rfl HO.out HX.out (by simp;omega) (by simp;omega) gX.out.size ?_)
    intro v2 w2 gU hb2 gZ _;have q1:=(gZ.has kr.out HOB.out).cell 1 _ rfl;clear gZ;have hb3:=gX.out.trans hb2;have jn:=gU.lt;have hu2:HeldE (aB .i32) (fun b=>True/\v2.ownBlock≠some b) w2 (.slice tz9 T.length tc) T:=by
     exact (HW.out.below hb3).zone (fun b _ hz=>⟨trivial,fun e=>by have:=(jn b e).1;omega⟩)
    have kc:=aa gU;have HU2:=aa hu2;have jQ:=aa hb3;clear gU hu2 hb2 hb3 jn
    go_wp2_with (at_builtin;refine al (E:=aB .i32) (Z:=fun _=>True) rfl (.tmp 18) (.tmp 20) 57 rfl (.int .i32 0) 4 Tryd.underlying57 aK rfl (Nat.lt_succ_self 0) rfl rfl kc.out HU2.out (by simp;omega) (by simp;omega) jQ.out.size ?_)
    intro v3 w3 jC hb4 _ _;have gF:=jQ.out.trans hb4;rw [<-HS.out] at jC;have H2:=aa jC;have H3:=aa gF;clear jC hb4 gF;go_wp2
    go_roundw
    case rel=>exact ⟨k+1,by omega,by go_num,H2.out,H3.out⟩
    case measure=>simp [intOf] <;> omega
   ·have ln:(K == 0)=false:=by rw [beq_eq_false_iff_ne];exact hk0
    rw [if_neg hk0,List.nil_append] at hs hle;have ij:=hown.lt;have hown:=hown.below hb1;have hu:HeldE (aB .i32) (fun b=>True/\u3.ownBlock≠some b) W1 tv T:=(hh.below hb1).zone (fun b _ hz=>⟨trivial,fun e=>by have:=(ij b e).1;omega⟩);have HS:=aa hs;have HO:=aa hown;have HU:=aa hu;have gJ:=aa (hZ.out.trans (hb1.mono hZ.out.size));subst hW1;obtain ⟨tz9,tc,rfl⟩:=hh.len;clear hown hu hb1 ij hh hs;have jl:P0.length+T.length<=1000000000000:=by omega
    go_wp2_with (at_builtin;refine al (E:=aB .i32) (Z:=fun _=>True) rfl (.tmp 18) (.tmp 20) 57 rfl (.int .i32 0) 4 Tryd.underlying57 aK rfl (Nat.lt_succ_self 0) rfl rfl HO.out HU.out (by omega) (by omega) gJ.out.size ?_)
    intro v2 w2 gU hb2 _ _;have hb3:=gJ.out.trans hb2;rw [<-HS.out] at gU;have H2:=aa gU;have H3:=aa hb3;clear gU hb2 hb3;go_wp2
    go_roundw
    case rel=>exact ⟨k+1,by omega,by go_num,H2.out,H3.out⟩
    case measure=>simp [intOf] <;> omega
  ·obtain rfl:k=L.length:=by omega
   rw [List.take_length] at hown;have HO:=aa hown;clear hown;go_wp2;go_ret;exact ⟨_,rfl,HO.out,hZ.out⟩
def aX(L:List Cl):Nat->Nat
 | 0=>0
 | k+1=>if (L.getD k zc).1=0 then aX L k else k+1
def aQ(L:List Cl):Nat:=aX L L.length
theorem cD(L:List Cl):∀ k,aX L k<=k
 |0=>Nat.le_refl _
 |k+1=>by
  unfold aX;have:=cD L k
  split <;> omega
theorem cK(Z:an)(ao:Option Addr)(n cap:Nat)(L:List Cl)(w:World)(hv:HeldE cellE Z w (.slice ao n cap) L):Calls Tryd.prog 73 #[.slice ao n cap] w (fun e w'=>e=.returned (.slice ao (aQ L) cap)/\w=w'):=by
 obtain ⟨rfl,i1,hc⟩:=aL hv;have hl:=hv.max;have HC:=aa hc;clear hc hv
 go_enter Tryd.func73,Tryd.ntmps73
 go_wp2
 go_loopw [3] (fun i wr=>∃ k:Nat,k<=L.length/\i=.int .i64 k/\aX L k=aQ L/\w=wr) (fun i _=>(intOf i).toNat)
 case atStart=>exact ⟨L.length,Nat.le_refl _,rfl,rfl,rfl⟩
 case round =>
  obtain ⟨k,hk,rfl,ht,rfl⟩:=hrel;have HT:=aa ht;clear ht
  cases k with
  |zero =>
   have ht:aQ L=0:=HT.out.symm;go_wp2;go_ret;exact ⟨by rw [ht];rfl,rfl⟩
  |succ k =>
   obtain ⟨b,off,tv,rfl,hb,_,c0,c1,hh⟩:=HC.out k (by omega);have hw:IntKind.i64.wrap (((k+1:Nat):Int) - 1)=(k:Int):=by rw [IntKind.wrap_i64];omega
   have hpos:(0:Int)<((k+1:Nat):Int):=by omega
   have hlt:k<L.length:=by omega
   have ht:=HT.out;unfold aX at ht;generalize (L.getD k zc).1=K at c0 ht;clear c1 hh hb
   by_cases h0:K=0
   ·subst h0;rw [if_pos rfl] at ht;have kU:=aa ht;clear ht;go_wp2
    go_roundw
    case rel=>exact ⟨k,by omega,by go_num,kU.out,trivial⟩
    case measure=>simp [intOf] <;> omega
   ·have ln:(K == 0)=false:=by rw [beq_eq_false_iff_ne];exact h0
    rw [if_neg h0] at ht;have ks:k+1<=cap:=by omega
    have kU:=aa ht;clear ht;go_wp2;go_ret;exact ⟨by rw [<-kU.out];go_num,rfl⟩
def bi(L:List Cl)(f:Nat):Nat:=if (L.getD f zc).1=3 then f - 1 else f
def a8(L:List Cl)(t:Nat):Nat:=if (L.getD t zc).1=2 then t+1 else t
def aG(L:List Cl)(f t:Nat):List Cl:=(L.drop (bi L f)).take (a8 L t+1 - bi L f)
theorem cV(Z:an)(v:Value)(L:List Cl)(f t:Nat)(w:World)(hv:HeldE cellE Z w v L)(iB:f<=t)(jK:t<L.length)(hF:(L.getD f zc).1=3->0<f)(hT:(L.getD t zc).1=2->t+1<L.length):Calls Tryd.prog 70 #[v,.int .i64 f,.int .i64 t] w (fun e w'=>∃ u,e=.returned u/\HeldE cellE Z w' u (aG L f t)/\w=w'):=by
 have hl:=hv.max;obtain ⟨ao,cap,rfl,i1,hcm,_⟩:=id hv;obtain ⟨_,_,hc⟩:=aL hv;obtain ⟨b,off,tv,rfl,hb,_,c0,_,_⟩:=hc f (by omega);obtain ⟨b2,off2,tv2,e2,_,_,d0,_,_⟩:=hc t jK
 cases e2
 have HP:=aa (fun (lo hi:Nat) (h1:lo<=hi) (h2:hi<=L.length)=>hv.part lo hi h1 h2 (some ⟨b,off+lo * 2,none⟩) (cap - lo) (fun e=>by cases e) (fun b' off' e _=>by cases e;rfl) (fun _ _=>by simp) (by omega) (by omega));unfold aG;obtain ⟨f',hf'⟩:=ab (bi L f);obtain ⟨t',iP⟩:=ab (a8 L t);rw [<-hf',<-iP];unfold bi at hf';unfold a8 at iP;generalize (L.getD f zc).1=K1 at c0 hf' hF;generalize (L.getD t zc).1=K2 at d0 iP hT;clear hc hv hb
 by_cases h1:K1=3 <;> by_cases h2:K2=2
 ·subst h1;subst h2;rw [if_pos rfl] at hf' iP;have g1:=hF rfl;have g2:=hT rfl;have w1:IntKind.i64.wrap ((f:Int) - 1)=(f':Int):=by rw [IntKind.wrap_i64];omega
  have w2:IntKind.i64.wrap ((t:Int)+1)=(t':Int):=by rw [IntKind.wrap_i64];omega
  have w3:IntKind.i64.wrap ((t':Int)+1)=(t':Int)+1:=by rw [IntKind.wrap_i64];omega
  have h3:f'<=t'+1:=by omega
  have h4:t'+1<=L.length:=by omega
  have h5:(f':Int)<=(t':Int)+1:=by omega
  have h6:(t':Int)+1<=(cap:Int):=by omega
  have h7:f'<cap:=by omega
  have h8:t'+1<=cap:=by omega
  have HQ:=aa (HP.out f' (t'+1) h3 h4)
  try clear hf'
  try clear iP
  go_enter Tryd.func70,Tryd.ntmps70
  go_wp2;go_ret;exact ⟨_,rfl,HQ.out,rfl⟩
 ·subst h1;rw [if_pos rfl] at hf';rw [if_neg h2] at iP;have g1:=hF rfl;have k2:(K2 == 2)=false:=by rw [beq_eq_false_iff_ne];exact h2
  have w1:IntKind.i64.wrap ((f:Int) - 1)=(f':Int):=by rw [IntKind.wrap_i64];omega
  subst iP;have w3:IntKind.i64.wrap ((t':Int)+1)=(t':Int)+1:=by rw [IntKind.wrap_i64];omega
  have h3:f'<=t'+1:=by omega
  have h4:t'+1<=L.length:=by omega
  have h5:(f':Int)<=(t':Int)+1:=by omega
  have h6:(t':Int)+1<=(cap:Int):=by omega
  have h7:f'<cap:=by omega
  have h8:t'+1<=cap:=by omega
  have HQ:=aa (HP.out f' (t'+1) h3 h4)
  try clear hf'
  try clear iP
  go_enter Tryd.func70,Tryd.ntmps70
  go_wp2;go_ret;exact ⟨_,rfl,HQ.out,rfl⟩
 ·subst h2;rw [if_neg h1] at hf';rw [if_pos rfl] at iP;have g2:=hT rfl;have k1:(K1 == 3)=false:=by rw [beq_eq_false_iff_ne];exact h1
  have w2:IntKind.i64.wrap ((t:Int)+1)=(t':Int):=by rw [IntKind.wrap_i64];omega
  have w3:IntKind.i64.wrap ((t':Int)+1)=(t':Int)+1:=by rw [IntKind.wrap_i64];omega
  subst hf';have h3:f'<=t'+1:=by omega
  have h4:t'+1<=L.length:=by omega
  have h5:(f':Int)<=(t':Int)+1:=by omega
  have h6:(t':Int)+1<=(cap:Int):=by omega
  have h7:f'<cap:=by omega
  have h8:t'+1<=cap:=by omega
  have HQ:=aa (HP.out f' (t'+1) h3 h4)
  try clear hf'
  try clear iP
  go_enter Tryd.func70,Tryd.ntmps70
  go_wp2;go_ret;exact ⟨_,rfl,HQ.out,rfl⟩
 ·rw [if_neg h1] at hf';rw [if_neg h2] at iP;have k1:(K1 == 3)=false:=by rw [beq_eq_false_iff_ne];exact h1
  have k2:(K2 == 2)=false:=by rw [beq_eq_false_iff_ne];exact h2
  subst hf';subst iP;have w3:IntKind.i64.wrap ((t':Int)+1)=(t':Int)+1:=by rw [IntKind.wrap_i64];omega
  have h3:f'<=t'+1:=by omega
  have h4:t'+1<=L.length:=by omega
  have h5:(f':Int)<=(t':Int)+1:=by omega
  have h6:(t':Int)+1<=(cap:Int):=by omega
  have h7:f'<cap:=by omega
  have h8:t'+1<=cap:=by omega
  have HQ:=aa (HP.out f' (t'+1) h3 h4)
  try clear hf'
  try clear iP
  go_enter Tryd.func70,Tryd.ntmps70
  go_wp2;go_ret;exact ⟨_,rfl,HQ.out,rfl⟩
end Go.Proofs.YthdphijabffpiaaDoor
