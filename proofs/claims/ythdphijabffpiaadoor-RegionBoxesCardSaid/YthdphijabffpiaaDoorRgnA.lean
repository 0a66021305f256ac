import Derived.Test.YthdphijabffpiaaDoorZ0
import Derived.Test.YthdphijabffpiaaDoorMg3
set_option maxRecDepth 100000
set_option linter.unusedVariables false
set_option linter.unusedSimpArgs false
set_option maxHeartbeats 800000
namespace Go.Proofs.YthdphijabffpiaaDoor
open Go.RowKit Go.ChangeShapes Go.WideShapes
def cp(x:Cl):List Int:=(if x.1=0 then [32] else [])++x.2
def aS(L:List Cl):List Int:=L.flatMap cp
theorem eZ(L:List Cl)(k:Nat)(h:k<L.length):aS (L.take (k+1))=aS (L.take k)++cp (L.getD k zc):=by
 unfold aS;rw [List.take_succ_eq_append_getElem h,List.flatMap_append]
 simp [List.getD,List.getElem?_eq_getElem h]
theorem dC(L:List Cl)(k:Nat):(aS (L.take k)).length<=(aS L).length:=by
 have:aS L=aS (L.take k)++aS (L.drop k):=by unfold aS;rw [<-List.flatMap_append,List.take_append_drop]
 rw [this,List.length_append];omega
theorem be(Z:an)(v:Value)(L:List Cl)(w:World)(hv:HeldE cellE Z w v L)(ht:(aS L).length<=1000000000000):Calls Tryd.prog 71 #[v] w (dU (aA .i32) (fun _=>True) 21 w (aS L)):=by
 have hl:=hv.max;have hv:=hv.zone (Y:=fun b=>b<w.heap.size) (fun b hb _=>hb);obtain ⟨ao,cap,rfl⟩:=hv.len;obtain ⟨_,_,hc⟩:=aP hv;have HC:=aa hc;clear hc hv
 go_enter Tryd.func71,Tryd.ntmps71
 go_wp2
 go_loopw [3,8] (fun t i wr=>∃ k:Nat,k<=L.length/\i=.int .i64 k/\OwnE (aA .i32) (fun _=>True) wr w.heap.size 21 t (aS (L.take k))/\Below w.heap.size w wr) (fun _ i _=>L.length - (intOf i).toNat)
 case atStart=>exact ⟨0,Nat.zero_le _,rfl,OwnE.nil _ _ _ _ _,Below.refl _ _⟩
 case round =>
  obtain ⟨k,hk,rfl,hown,hZ⟩:=hrel;have it:=aa hZ;clear hZ
  by_cases hlt:k<L.length
  ·obtain ⟨b,off,tv,rfl,hb,_,c0,c1,hh⟩:=HC.out k hlt;have hw:=hh;have hh:=hh.below it.out;have c0:=(it.out.cell (p:=⟨b,off+k * 2,none⟩) hb).trans c0;have c1:=(it.out.cell (p:=⟨b,off+k * 2+1,none⟩) hb).trans c1;have hs:=eZ L k hlt;have hle:=dC L (k+1);rw [hs,List.length_append] at hle;obtain ⟨⟨K,T⟩,kC⟩ : ∃ y,y=L.getD k zc:=⟨_,rfl⟩;rw [<-kC] at c0 hh hw hs hle;unfold cp at hs hle;simp only at c0 hh hw hs hle;have HW:=aa hw;clear kC hw;obtain ⟨P0,hP⟩:=ab (aS (L.take k));rw [<-hP] at hown hs hle;clear hP;obtain ⟨W1,hW1⟩:=ab (wr.alloc (.cells #[.int .i64 K,tv] 74));have hb1:Below wr.heap.size wr W1:=by rw [hW1];exact af _ _
   by_cases jh:K=0
   ·subst jh;rw [if_pos rfl] at hs;replace hs:aS (L.take (k+1))=P0++32 :: T:=hs;rw [if_pos rfl] at hle;simp only [List.length_append,List.length_cons,List.length_nil] at hle;obtain ⟨W2,hW2⟩:=ab (W1.alloc (.cells [Value.int .i32 32].toArray 21));have hb2:Below wr.heap.size wr W2:=by rw [hW2];exact hb1.alloc hb1.size _
    have ij:=hown.lt;have hown:=hown.below hb2;have hsz:W1.heap.size=wr.heap.size+1:=by rw [hW1];exact Array.size_push _
    have hx:HeldE (aA .i32) (fun b=>True/\u3.ownBlock≠some b) W2 (.slice (some ⟨wr.heap.size+1,0,none⟩) 1 1) [32]:=by
     rw [hW2,<-hsz];exact a9 (Y:=fun _=>False) [.int .i32 32] 32 rfl (fun _ _ h=>h.elim) ⟨trivial,fun e=>by have:=(ij _ e).2;omega⟩
    have h1:Has W1 wr.heap.size [.int .i64 0,tv] 74:=by rw [hW1];exact Has.new wr _ _
    have kS:Hid (Has W2 wr.heap.size [.int .i64 0,tv] 74):=aa (by rw [hW2];exact Has.below h1 (af _ _) h1.lt);have HOB:=aa (show u3.ownBlock≠some wr.heap.size from fun e=>by have:=(ij _ e).2;omega);clear h1;have HS:=aa hs;have HO:=aa hown;have HX:=aa hx;have ii:=aa (it.out.trans (hb2.mono it.out.size));subst hW2;subst hW1;obtain ⟨tz9,tc,rfl⟩:=hh.len;clear hown hb1 hb2 ij hh hx hs hsz
    go_wp2_with (at_builtin;refine ai (E:=aA .i32) (Z:=fun _=>True) rfl (.tmp 15) (.tmp 16) 57 rfl (.int .i32 0) 4 Tryd.underlying57 aF rfl (Nat.lt_succ_self 0) rfl rfl HO.out HX.out (by simp;omega) (by simp;omega) ii.out.size ?_)
    intro v2 w2 hO hb2 ik _;have q1:=(ik.has kS.out HOB.out).cell 1 _ rfl;clear ik;have hb3:=ii.out.trans hb2;have iZ:=hO.lt;have hu2:HeldE (aA .i32) (fun b=>True/\v2.ownBlock≠some b) w2 (.slice tz9 T.length tc) T:=by
     exact (HW.out.below hb3).zone (fun b _ hz=>⟨trivial,fun e=>by have:=(iZ b e).1;omega⟩)
    have lu:=aa hO;have HU2:=aa hu2;have jv:=aa hb3;clear hO hu2 hb2 hb3 iZ
    go_wp2_with (at_builtin;refine ai (E:=aA .i32) (Z:=fun _=>True) rfl (.tmp 18) (.tmp 20) 57 rfl (.int .i32 0) 4 Tryd.underlying57 aF rfl (Nat.lt_succ_self 0) rfl rfl lu.out HU2.out (by simp;omega) (by simp;omega) jv.out.size ?_)
    intro v3 w3 i5 hb4 _ _;have gE:=jv.out.trans hb4;rw [<-HS.out] at i5;have H2:=aa i5;have H3:=aa gE;clear i5 hb4 gE;go_wp2
    go_roundw
    case rel=>exact ⟨k+1,by omega,by go_num,H2.out,H3.out⟩
    case measure=>simp [intOf] <;> omega
   ·have kN:(K == 0)=false:=by rw [beq_eq_false_iff_ne];exact jh
    rw [if_neg jh,List.nil_append] at hs hle;have ij:=hown.lt;have hown:=hown.below hb1;have hu:HeldE (aA .i32) (fun b=>True/\u3.ownBlock≠some b) W1 tv T:=(hh.below hb1).zone (fun b _ hz=>⟨trivial,fun e=>by have:=(ij b e).1;omega⟩);have HS:=aa hs;have HO:=aa hown;have HU:=aa hu;have gU:=aa (it.out.trans (hb1.mono it.out.size));subst hW1;obtain ⟨tz9,tc,rfl⟩:=hh.len;clear hown hu hb1 ij hh hs;have ke:P0.length+T.length<=1000000000000:=by omega
    go_wp2_with (at_builtin;refine ai (E:=aA .i32) (Z:=fun _=>True) rfl (.tmp 18) (.tmp 20) 57 rfl (.int .i32 0) 4 Tryd.underlying57 aF rfl (Nat.lt_succ_self 0) rfl rfl HO.out HU.out (by omega) (by omega) gU.out.size ?_)
    intro v2 w2 hO hb2 _ _;have hb3:=gU.out.trans hb2;rw [<-HS.out] at hO;have H2:=aa hO;have H3:=aa hb3;clear hO hb2 hb3;go_wp2
    go_roundw
    case rel=>exact ⟨k+1,by omega,by go_num,H2.out,H3.out⟩
    case measure=>simp [intOf] <;> omega
  ·obtain rfl:k=L.length:=by omega
   rw [List.take_length] at hown;have HO:=aa hown;clear hown;go_wp2;go_ret;exact ⟨_,rfl,HO.out,it.out⟩
def aw(L:List Cl):Nat->Nat
 | 0=>0
 | k+1=>if (L.getD k zc).1=0 then aw L k else k+1
def aU(L:List Cl):Nat:=aw L L.length
theorem bB(L:List Cl):∀ k,aw L k<=k
 |0=>Nat.le_refl _
 |k+1=>by
  unfold aw;have:=bB L k
  split <;> omega
theorem cM(Z:an)(ao:Option Addr)(n cap:Nat)(L:List Cl)(w:World)(hv:HeldE cellE Z w (.slice ao n cap) L):Calls Tryd.prog 73 #[.slice ao n cap] w (fun e w'=>e=.returned (.slice ao (aU L) cap)/\w=w'):=by
 obtain ⟨rfl,jN,hc⟩:=aP hv;have hl:=hv.max;have HC:=aa hc;clear hc hv
 go_enter Tryd.func73,Tryd.ntmps73
 go_wp2
 go_loopw [3] (fun i wr=>∃ k:Nat,k<=L.length/\i=.int .i64 k/\aw L k=aU L/\w=wr) (fun i _=>(intOf i).toNat)
 case atStart=>exact ⟨L.length,Nat.le_refl _,rfl,rfl,rfl⟩
 case round =>
  obtain ⟨k,hk,rfl,ht,rfl⟩:=hrel;have HT:=aa ht;clear ht
  cases k with
  |zero =>
   have ht:aU L=0:=HT.out.symm;go_wp2;go_ret;exact ⟨by rw [ht];rfl,rfl⟩
  |succ k =>
   obtain ⟨b,off,tv,rfl,hb,_,c0,c1,hh⟩:=HC.out k (by omega);have hw:IntKind.i64.wrap (((k+1:Nat):Int) - 1)=(k:Int):=by rw [IntKind.wrap_i64];omega
   have hpos:(0:Int)<((k+1:Nat):Int):=by omega
   have hlt:k<L.length:=by omega
   have ht:=HT.out;unfold aw at ht;generalize (L.getD k zc).1=K at c0 ht;clear c1 hh hb
   by_cases h0:K=0
   ·subst h0;rw [if_pos rfl] at ht;have lN:=aa ht;clear ht;go_wp2
    go_roundw
    case rel=>exact ⟨k,by omega,by go_num,lN.out,trivial⟩
    case measure=>simp [intOf] <;> omega
   ·have kN:(K == 0)=false:=by rw [beq_eq_false_iff_ne];exact h0
    rw [if_neg h0] at ht;have kW:k+1<=cap:=by omega
    have lN:=aa ht;clear ht;go_wp2;go_ret;exact ⟨by rw [<-lN.out];go_num,rfl⟩
def aO(L:List Cl)(f:Nat):Nat:=if (L.getD f zc).1=3 then f - 1 else f
def am(L:List Cl)(t:Nat):Nat:=if (L.getD t zc).1=2 then t+1 else t
def aJ(L:List Cl)(f t:Nat):List Cl:=(L.drop (aO L f)).take (am L t+1 - aO L f)
theorem c4(Z:an)(v:Value)(L:List Cl)(f t:Nat)(w:World)(hv:HeldE cellE Z w v L)(iQ:f<=t)(jp:t<L.length)(hF:(L.getD f zc).1=3->0<f)(hT:(L.getD t zc).1=2->t+1<L.length):Calls Tryd.prog 70 #[v,.int .i64 f,.int .i64 t] w (fun e w'=>∃ u,e=.returned u/\HeldE cellE Z w' u (aJ L f t)/\w=w'):=by
 have hl:=hv.max;obtain ⟨ao,cap,rfl,jN,hcm,_⟩:=id hv;obtain ⟨_,_,hc⟩:=aP hv;obtain ⟨b,off,tv,rfl,hb,_,c0,_,_⟩:=hc f (by omega);obtain ⟨b2,off2,tv2,e2,_,_,d0,_,_⟩:=hc t jp
 cases e2
 have HP:=aa (fun (lo hi:Nat) (h1:lo<=hi) (h2:hi<=L.length)=>hv.part lo hi h1 h2 (some ⟨b,off+lo * 2,none⟩) (cap - lo) (fun e=>by cases e) (fun b' off' e _=>by cases e;rfl) (fun _ _=>by simp) (by omega) (by omega));unfold aJ;obtain ⟨f',hf'⟩:=ab (aO L f);obtain ⟨t',jr⟩:=ab (am L t);rw [<-hf',<-jr];unfold aO at hf';unfold am at jr;generalize (L.getD f zc).1=K1 at c0 hf' hF;generalize (L.getD t zc).1=K2 at d0 jr hT;clear hc hv hb
 by_cases h1:K1=3 <;> by_cases h2:K2=2
 ·subst h1;subst h2;rw [if_pos rfl] at hf' jr;have g1:=hF rfl;have g2:=hT rfl;have w1:IntKind.i64.wrap ((f:Int) - 1)=(f':Int):=by rw [IntKind.wrap_i64];omega
  have w2:IntKind.i64.wrap ((t:Int)+1)=(t':Int):=by rw [IntKind.wrap_i64];omega
  have w3:IntKind.i64.wrap ((t':Int)+1)=(t':Int)+1:=by rw [IntKind.wrap_i64];omega
  have h3:f'<=t'+1:=by omega
  have h4:t'+1<=L.length:=by omega
  have h5:(f':Int)<=(t':Int)+1:=by omega
  have h6:(t':Int)+1<=(cap:Int):=by omega
  have h7:f'<cap:=by omega
  have h8:t'+1<=cap:=by omega
  have HQ:=aa (HP.out f' (t'+1) h3 h4)
  try clear hf'
  try clear jr
  go_enter Tryd.func70,Tryd.ntmps70
  go_wp2;go_ret;exact ⟨_,rfl,HQ.out,rfl⟩
 ·subst h1;rw [if_pos rfl] at hf';rw [if_neg h2] at jr;have g1:=hF rfl;have k2:(K2 == 2)=false:=by rw [beq_eq_false_iff_ne];exact h2
  have w1:IntKind.i64.wrap ((f:Int) - 1)=(f':Int):=by rw [IntKind.wrap_i64];omega
  subst jr;have w3:IntKind.i64.wrap ((t':Int)+1)=(t':Int)+1:=by rw [IntKind.wrap_i64];omega
  have h3:f'<=t'+1:=by omega
  have h4:t'+1<=L.length:=by omega
  have h5:(f':Int)<=(t':Int)+1:=by omega
  have h6:(t':Int)+1<=(cap:Int):=by omega
  have h7:f'<cap:=by omega
  have h8:t'+1<=cap:=by omega
  have HQ:=aa (HP.out f' (t'+1) h3 h4)
  try clear hf'
  try clear jr
  go_enter Tryd.func70,Tryd.ntmps70
  go_wp2;go_ret;exact ⟨_,rfl,HQ.out,rfl⟩
 ·subst h2;rw [if_neg h1] at hf';rw [if_pos rfl] at jr;have g2:=hT rfl;have k1:(K1 == 3)=false:=by rw [beq_eq_false_iff_ne];exact h1
  have w2:IntKind.i64.wrap ((t:Int)+1)=(t':Int):=by rw [IntKind.wrap_i64];omega
  have w3:IntKind.i64.wrap ((t':Int)+1)=(t':Int)+1:=by rw [IntKind.wrap_i64];omega
  subst hf';have h3:f'<=t'+1:=by omega
  have h4:t'+1<=L.length:=by omega
  have h5:(f':Int)<=(t':Int)+1:=by omega
  have h6:(t':Int)+1<=(cap:Int):=by omega
  have h7:f'<cap:=by omega
  have h8:t'+1<=cap:=by omega
  have HQ:=aa (HP.out f' (t'+1) h3 h4)
  try clear hf'
  try clear jr
  go_enter Tryd.func70,Tryd.ntmps70
  go_wp2;go_ret;exact ⟨_,rfl,HQ.out,rfl⟩
 ·rw [if_neg h1] at hf';rw [if_neg h2] at jr;have k1:(K1 == 3)=false:=by rw [beq_eq_false_iff_ne];exact h1
  have k2:(K2 == 2)=false:=by rw [beq_eq_false_iff_ne];exact h2
  subst hf';subst jr;have w3:IntKind.i64.wrap ((t':Int)+1)=(t':Int)+1:=by rw [IntKind.wrap_i64];omega
  have h3:f'<=t'+1:=by omega
  have h4:t'+1<=L.length:=by omega
  have h5:(f':Int)<=(t':Int)+1:=by omega
  have h6:(t':Int)+1<=(cap:Int):=by omega
  have h7:f'<cap:=by omega
  have h8:t'+1<=cap:=by omega
  have HQ:=aa (HP.out f' (t'+1) h3 h4)
  try clear hf'
  try clear jr
  go_enter Tryd.func70,Tryd.ntmps70
  go_wp2;go_ret;exact ⟨_,rfl,HQ.out,rfl⟩
end Go.Proofs.YthdphijabffpiaaDoor
