import Derived.Test.YtechjomepdahiaaDoorZ0
import Derived.Test.YtechjomepdahiaaDoorAudA
import Derived.Lib.MinMax
import Derived.Deep.Cut
set_option maxRecDepth 100000
set_option linter.unusedVariables false
set_option linter.unusedSimpArgs false
set_option maxHeartbeats 3000000
namespace Go.Proofs.YtechjomepdahiaaDoor
open Go.RowKit Go.ChangeShapes Go.WideShapes
def Qt(wb A B:World):Prop:=(wb.heap.size<=A.heap.size->Below wb.heap.size A B)/\A.heap.size<=B.heap.size/\∀ b C ty,ty≠31/\ty≠163->Has A b C ty->Has B b C ty
theorem Qt.refl(wb A:World):Qt wb A A:=⟨fun _=>Below.refl _ _,Nat.le_refl _,fun _ _ _ _ h=>h⟩
theorem Qt.trans{wb a b c:World}(h:Qt wb a b)(k:Qt wb b c):Qt wb a c:=⟨fun e=>(h.1 e).trans (k.1 (Nat.le_trans e h.2.1)),Nat.le_trans h.2.1 k.2.1,fun b C ty hn hh=>k.2.2 b C ty hn (h.2.2 b C ty hn hh)⟩
theorem Qt.ofBelow{wb A B:World}(h:Below A.heap.size A B):Qt wb A B:=⟨fun e=>h.mono e,h.size,fun _ _ _ _ hh=>hh.below h hh.lt⟩
theorem Qt.has{wb A B:World}(h:Qt wb A B){b:Nat}{C:List Value}{ty:TypeId}(hh:Has A b C ty)(hn:ty≠31/\ty≠163):Has B b C ty:=h.2.2 b C ty hn hh
theorem cy{wb A B:World}(h:Below wb.heap.size wb A)(k:Qt wb A B):Below wb.heap.size wb B:=h.trans (k.1 h.size)
inductive ErrT (sa:Nat->Addr) (w:World):Value->List Int->Nat->Prop
 | sent (k:Nat) (hk:k<8):ErrT sa w (.iface 186 (.pointer (some (sa k)))) [] (k+1)
 | fault (b:Nat) (at_:Int) (e:Value) (ps:List Int) (c:Nat) (h:Has w b [.int .i64 at_,e] 134) (k:ErrT sa w e ps c):ErrT sa w (.iface 132 (.pointer (some ⟨b,0,none⟩))) (at_ :: ps) c
theorem ErrT.has{sa:Nat->Addr}{w w':World}{e:Value}{ps:List Int}{c:Nat}(h:ErrT sa w e ps c)(hk:∀ b C,Has w b C 134->Has w' b C 134):ErrT sa w' e ps c:=by
 induction h with
 | sent k hk8=>exact ErrT.sent k hk8
 | fault b at_ e ps c hh _ ih=>exact ErrT.fault b at_ e ps c (hk _ _ hh) ih
theorem ErrT.keep{sa:Nat->Addr}{w w':World}{e:Value}{ps:List Int}{c:Nat}(h:ErrT sa w e ps c)(hb:Below w.heap.size w w'):ErrT sa w' e ps c:=h.has fun _ _ hh=>hh.below hb hh.lt
theorem ErrT.qt{sa:Nat->Addr}{wb w w':World}{e:Value}{ps:List Int}{c:Nat}(h:ErrT sa w e ps c)(hq:Qt wb w w'):ErrT sa w' e ps c:=h.has fun _ _ hh=>hq.has hh (by decide)
theorem ErrT.iface{sa:Nat->Addr}{w:World}{e:Value}{ps:List Int}{c:Nat}(h:ErrT sa w e ps c):∃ T v,e=.iface T v:=by
 cases h with
 | sent k hk=>exact ⟨_,_,rfl⟩
 | fault b at_ e ps c hh _=>exact ⟨_,_,rfl⟩
structure Tells (sa:Nat->Addr) (wb:World) (go:Bool) (N:Nat) (gf:Nat) (lb:Array Value) (J:List Fnd->World->Prop):Prop where
 enter:∀ args w',(callFunc gf args).run Tryd.prog w'=.ok (.enter gf args) w'
 keep:∀ t A B,J t A->Below A.heap.size A B->J t B
 step:∀ t u path code W,(go=true\/t=[])->t.length<N->J t W->Below wb.heap.size wb W->ErrT sa W u path code->Calls Tryd.prog gf (#[u]++lb) W (fun e W'=>e=.returned (.bool go)/\J (t++[(path,code)]) W'/\Qt wb W W')
def gP(wb:World)(J:List Fnd->World->Prop)(w:World)(t:List Fnd)(w':World):Prop:=J t w'/\Qt wb w w'/\Below wb.heap.size wb w'
theorem gQ(sa:Nat->Addr)(w:World)(k:Nat)(hk:k<8):ErrT sa w (fH sa (k+1)) [] (k+1):=ErrT.sent k hk
theorem ec(sa:Nat->Addr)(w:World)(i:Int)(T:TypeId)(x:Value)(ps:List Int)(c:Nat)(h:ErrT sa w (.iface T x) ps c):ErrT sa (w.alloc (.cells #[.int .i64 i,.iface T x] 134)) (.iface 132 (.pointer (some ⟨w.heap.size,0,none⟩))) (i :: ps) c:=by
 have hH:=Has.new w [.int .i64 i,.iface T x] 134;exact ErrT.fault _ _ _ ps c hH (h.keep (l7 _ _))
theorem fE(L:List Cl)(k:Nat):ba L k=0\/ba L k=5\/ba L k=2:=by
 unfold ba
 split
 ·exact .inr (.inl rfl)
 ·split
  ·exact .inr (.inr rfl)
  ·exact .inl rfl
theorem ed(L:List Cl):∀ k,(aw L k).length<=k
 |0=>Nat.le_refl _
 |k+1=>by
  have:=ed L k;rw [bL,List.length_append];have h2:(bK L k).length<=1:=by unfold bK;split <;> simp
  omega
theorem gR(L:List Cl){k n:Nat}(h:k<=n):∃ t,aw L n=aw L k++t:=by
 induction n with
 |zero =>
  obtain rfl:k=0:=by omega
  exact ⟨[],by simp⟩
 |succ n ih =>
  by_cases hk:k=n+1
  ·subst hk;exact ⟨[],by simp⟩
  ·obtain ⟨t,ht⟩:=ih (by omega);exact ⟨t++bK L n,by rw [bL,ht,List.append_assoc]⟩
theorem fF(sa:Nat->Addr)(wb:World)(go:Bool)(N:Nat)(gf:Nat)(lb:Array Value)(J:List Fnd->World->Prop)(hT:Tells sa wb go N gf lb J)(hs:Five wb sa)(v:Value)(L:List Cl)(wide:Int)(w:World)(hv:HeldE cellE (fun _=>True) wb v L)(hl:L.length<=9223372036854775807)
  (hw:Below wb.heap.size wb w) (hJ:J [] w) (hN:L.length+1<=N) :
  Calls Tryd.prog 107 #[.int .i64 wide,v,.func (.func gf) #[] lb] w (fun e w'=>e=.returned (.bool (go || (aO wide L).isEmpty))/\gP wb J w (cr go (aO wide L)) w'):=by
 obtain ⟨ao,ca,rfl⟩:=hv.len;obtain ⟨n,hn⟩:=ab (L.length);have xR:=aa (fun (k:Nat) (w':World) (hk:k<n) (b:Below wb.heap.size wb w')=>iG sa _ _ L k w' (hs.below b) (hv.below b) (by omega) hl);have nS:=aa hn;have HT:=aa hT;have rG:=aa hT.enter;have qJ:=aa hw;have tR:=aa hs;rw [<-hn] at xR hl hN ⊢;have HN:=aa (show L.length+1<=N by omega)
 by_cases hlen:(n:Int)=wide
 ·have hne:((n:Int) != wide)=false:=by simp [hlen]
  have uH:=aa (show aO wide L=[]++aw L L.length from by unfold aO jg;rw [if_pos (by rw [<-hn];exact hlen)]);have rj:=aa (show J ([]++aw L 0) w from hJ);have nP:=aa (show go=true\/([]:List Fnd)++aw L 0=[] from .inr rfl);have pa:=aa (Qt.refl wb w);clear hlen hJ hw hT hs hv hn hN
  go_enter Tryd.func107,Tryd.ntmps107
  go_upto_region 3 with (fail)
  go_wp2
  go_loopw [21] (fun iv wr=>∃ k:Nat,k<=n/\iv=.int .i64 k/\(go=true\/[]++aw L k=[])/\J ([]++aw L k) wr/\Qt wb w wr/\Below wb.heap.size wb wr) (fun iv _=>n - (intOf iv).toNat)
  case atStart=>exact ⟨0,Nat.zero_le _,rfl,nP.out,rj.out,pa.out,qJ.out⟩
  case round =>
   obtain ⟨k,hk,rfl,hg,hj,hu,hb⟩:=hrel;obtain ⟨wq,oe⟩:=ab (wr);subst oe;have HG:=aa hg;have HJ:=aa hj;have HU:=aa hu;have HB:=aa hb;clear hg hj hu hb
   by_cases hlt:k<n
   ·have ry:(k:Int)<(n:Int):=by omega
    have pn:IntKind.i64.wrap ((k:Int)+1)=(k:Int)+1:=by rw [IntKind.wrap_i64];omega
    have hwr:=xR.out k wq hlt HB.out;have hcs:aw L (k+1)=aw L k++bK L k:=bL L k;have qz:=aa hcs;have sd:=fE L k
    by_cases h0:ba L k=0
    ·have rZ:=aa (show bK L k=[] from by unfold bK;rw [if_pos h0]);rw [h0,show fH sa 0=.nilIface from rfl] at hwr;have qq:=aa hwr;clear hwr hcs sd h0
     go_wp2_with fail
     refine qq.out.mono ?_;rintro e w2 ⟨rfl,b2⟩;have HE:=aa (show (go=true\/[]++aw L (k+1)=[])/\J ([]++aw L (k+1)) w2/\Qt wb w w2/\Below wb.heap.size wb w2 from by
      rw [qz.out,rZ.out,List.append_nil];exact ⟨HG.out,HT.out.keep _ _ _ HJ.out b2,HU.out.trans (Qt.ofBelow b2),HB.out.trans (b2.mono HB.out.size)⟩)
     clear b2 qq;go_wp2
     go_roundw
     case rel=>exact ⟨k+1,by omega,by go_num,HE.out.1,HE.out.2.1,HE.out.2.2.1,HE.out.2.2.2⟩
     case measure=>simp [intOf] <;> omega
    ·obtain ⟨c,hc,vz⟩ : ∃ c,ba L k=c+1/\c<8:=by
      rcases sd with h | h | h
      ·exact absurd h h0
      ·exact ⟨4,h,by decide⟩
      ·exact ⟨1,h,by decide⟩
     have rZ:=aa (show bK L k=[([(k:Int)],c+1)] from by unfold bK;rw [if_neg h0,hc]);rw [hc,show fH sa (c+1)=.iface 186 (.pointer (some (sa c))) from rfl] at hwr;have qq:=aa hwr;have xw:=aa vz;clear hwr hcs sd h0 hc vz
     go_wp2_with fail
     refine qq.out.mono ?_;rintro e w2 ⟨rfl,b2⟩;have B2:=aa b2;clear b2 qq
     go_wp2_with fail
     refine (F.wrong_any w2 (k:Int) _ _).mono ?_;rintro e w3 ⟨rfl,hw3⟩;have hb3:Below w2.heap.size w2 w3:=by rw [<-hw3];exact l7 _ _
     have tJ:=ec sa w2 (k:Int) _ _ [] (c+1) (gQ sa w2 c xw.out);rw [hw3] at tJ;replace B2:=aa (B2.out.trans (hb3.mono B2.out.size));have HST:=aa (HT.out.step ([]++aw L k) _ [(k:Int)] (c+1) w3 HG.out (by have:=ed L k;have:=HN.out;have:=nS.out;rw [List.length_append];simp;omega) (HT.out.keep _ _ _ HJ.out B2.out) (HB.out.trans (B2.out.mono HB.out.size)) tJ);clear hw3 hb3 tJ
     go_wp2_with fail
     rw [rG.out,Oper.upon_enter];refine HST.out.mono ?_;rintro e w4 ⟨rfl,qP,pR⟩;have HE:=aa (show J ([]++aw L (k+1)) w4/\Qt wb w w4/\Below wb.heap.size wb w4 from by
      rw [qz.out,rZ.out,<-List.append_assoc];exact ⟨qP,(HU.out.trans (Qt.ofBelow B2.out)).trans pR,cy (HB.out.trans (B2.out.mono HB.out.size)) pR⟩)
     clear qP pR HST B2
     cases go with
     |true =>
      go_wp2
      go_roundw
      case rel=>exact ⟨k+1,by omega,by go_num,.inl (by first | rfl | trivial),HE.out.1,HE.out.2.1,HE.out.2.2⟩
      case measure=>simp [intOf] <;> omega
     |false =>
      have HF:=aa (show (false || (aO wide L).isEmpty)=false/\cr false (aO wide L)=[]++aw L (k+1) from by
       obtain ⟨t,ht⟩:=gR L (show k+1<=L.length by rw [<-nS.out];omega);have h9:[]++aw L k=[]:=HG.out.resolve_left (by decide);rw [uH.out,ht,<-List.append_assoc,qz.out,rZ.out,<-List.append_assoc,h9];exact ⟨rfl,rfl⟩)
      go_wp2;go_ret;rw [HF.out.1,HF.out.2];exact ⟨ae,HE.out.1,HE.out.2.1,HE.out.2.2⟩
   ·obtain rfl:k=n:=by omega
    have HF:=aa (show (go || (aO wide L).isEmpty)=true/\cr go (aO wide L)=[]++aw L k from by
     rw [uH.out,nS.out]
     rcases HG.out with e | e
     ·rw [e];exact ⟨rfl,rfl⟩
     ·rw [nS.out] at e;rw [e];exact ⟨by simp,gS _⟩)
    go_wp2;go_ret
    (try rw [HF.out.1])
    rw [HF.out.2];exact ⟨ae,HJ.out,HU.out,HB.out⟩
 ·have hne:((n:Int) != wide)=true:=by simp [hlen]
  have uH:=aa (show aO wide L=[([],4)]++aw L L.length from by unfold aO jg;rw [if_neg (by rw [<-hn];exact hlen)]);have g3:=hs.below hw |>.cell 3 (by decide)
  simp only [F.glob] at g3;have HST:=aa (hT.step [] _ [] 4 w (.inr rfl) (by simp;omega) hJ hw (ErrT.sent (sa:=sa) 3 (by decide)));clear hlen hJ hw hT hs hv hn hN
  go_enter Tryd.func107,Tryd.ntmps107
  go_wp2_with fail
  rw [rG.out,Oper.upon_enter];refine HST.out.mono ?_;rintro e w1 ⟨rfl,vo,rf⟩;have rj:=aa (show J ([([],4)]++aw L 0) w1 from vo);have pa:=aa rf;replace qJ:=aa (cy qJ.out rf);clear vo rf HST g3
  cases go with
  |false =>
   have HF:=aa (show (false || (aO wide L).isEmpty)=false/\cr false (aO wide L)=[([],4)]++aw L 0 from by
    rw [uH.out];exact ⟨rfl,rfl⟩)
   go_wp2;go_ret;rw [HF.out.1,HF.out.2];exact ⟨ae,rj.out,pa.out,qJ.out⟩
  |true =>
   have nP:=aa (show True\/([([],4)]:List Fnd)++aw L 0=[] from .inl trivial)
   go_upto_region 3 with (fail)
   go_wp2
   go_loopw [21] (fun iv wr=>∃ k:Nat,k<=n/\iv=.int .i64 k/\(True\/[([],4)]++aw L k=[])/\J ([([],4)]++aw L k) wr/\Qt wb w wr/\Below wb.heap.size wb wr) (fun iv _=>n - (intOf iv).toNat)
   case atStart=>exact ⟨0,Nat.zero_le _,rfl,nP.out,rj.out,pa.out,qJ.out⟩
   case round =>
    obtain ⟨k,hk,rfl,hg,hj,hu,hb⟩:=hrel;obtain ⟨wq,oe⟩:=ab (wr);subst oe;have HG:=aa hg;have HJ:=aa hj;have HU:=aa hu;have HB:=aa hb;clear hg hj hu hb
    by_cases hlt:k<n
    ·have ry:(k:Int)<(n:Int):=by omega
     have pn:IntKind.i64.wrap ((k:Int)+1)=(k:Int)+1:=by rw [IntKind.wrap_i64];omega
     have hwr:=xR.out k wq hlt HB.out;have hcs:aw L (k+1)=aw L k++bK L k:=bL L k;have qz:=aa hcs;have sd:=fE L k
     by_cases h0:ba L k=0
     ·have rZ:=aa (show bK L k=[] from by unfold bK;rw [if_pos h0]);rw [h0,show fH sa 0=.nilIface from rfl] at hwr;have qq:=aa hwr;clear hwr hcs sd h0
      go_wp2_with fail
      refine qq.out.mono ?_;rintro e w2 ⟨rfl,b2⟩;have HE:=aa (show (True\/[([],4)]++aw L (k+1)=[])/\J ([([],4)]++aw L (k+1)) w2/\Qt wb w w2/\Below wb.heap.size wb w2 from by
       rw [qz.out,rZ.out,List.append_nil];exact ⟨HG.out,HT.out.keep _ _ _ HJ.out b2,HU.out.trans (Qt.ofBelow b2),HB.out.trans (b2.mono HB.out.size)⟩)
      clear b2 qq;go_wp2
      go_roundw
      case rel=>exact ⟨k+1,by omega,by go_num,HE.out.1,HE.out.2.1,HE.out.2.2.1,HE.out.2.2.2⟩
      case measure=>simp [intOf] <;> omega
     ·obtain ⟨c,hc,vz⟩ : ∃ c,ba L k=c+1/\c<8:=by
       rcases sd with h | h | h
       ·exact absurd h h0
       ·exact ⟨4,h,by decide⟩
       ·exact ⟨1,h,by decide⟩
      have rZ:=aa (show bK L k=[([(k:Int)],c+1)] from by unfold bK;rw [if_neg h0,hc]);rw [hc,show fH sa (c+1)=.iface 186 (.pointer (some (sa c))) from rfl] at hwr;have qq:=aa hwr;have xw:=aa vz;clear hwr hcs sd h0 hc vz
      go_wp2_with fail
      refine qq.out.mono ?_;rintro e w2 ⟨rfl,b2⟩;have B2:=aa b2;clear b2 qq
      go_wp2_with fail
      refine (F.wrong_any w2 (k:Int) _ _).mono ?_;rintro e w3 ⟨rfl,hw3⟩;have hb3:Below w2.heap.size w2 w3:=by rw [<-hw3];exact l7 _ _
      have tJ:=ec sa w2 (k:Int) _ _ [] (c+1) (gQ sa w2 c xw.out);rw [hw3] at tJ;replace B2:=aa (B2.out.trans (hb3.mono B2.out.size));have HST:=aa (HT.out.step ([([],4)]++aw L k) _ [(k:Int)] (c+1) w3 (.inl rfl) (by have:=ed L k;have:=HN.out;have:=nS.out;rw [List.length_append];simp;omega) (HT.out.keep _ _ _ HJ.out B2.out) (HB.out.trans (B2.out.mono HB.out.size)) tJ);clear hw3 hb3 tJ
      go_wp2_with fail
      rw [rG.out,Oper.upon_enter];refine HST.out.mono ?_;rintro e w4 ⟨rfl,qP,pR⟩;have HE:=aa (show J ([([],4)]++aw L (k+1)) w4/\Qt wb w w4/\Below wb.heap.size wb w4 from by
       rw [qz.out,rZ.out,<-List.append_assoc];exact ⟨qP,(HU.out.trans (Qt.ofBelow B2.out)).trans pR,cy (HB.out.trans (B2.out.mono HB.out.size)) pR⟩)
      clear qP pR HST B2;go_wp2
      go_roundw
      case rel=>exact ⟨k+1,by omega,by go_num,.inl (by first | rfl | trivial),HE.out.1,HE.out.2.1,HE.out.2.2⟩
      case measure=>simp [intOf] <;> omega
    ·obtain rfl:k=n:=by omega
     have HF:=aa (show (true || (aO wide L).isEmpty)=true/\cr true (aO wide L)=[([],4)]++aw L k from by
      rw [uH.out,nS.out];exact ⟨rfl,rfl⟩)
     go_wp2;go_ret
     (try rw [HF.out.1])
     rw [HF.out.2];exact ⟨ae,HJ.out,HU.out,HB.out⟩
end Go.Proofs.YtechjomepdahiaaDoor
