import Derived.Test.YthdphijabffpiaaDoorZ0
import Derived.Test.YthdphijabffpiaaDoorAudC
set_option maxRecDepth 100000
set_option linter.unusedVariables false
set_option linter.unusedSimpArgs false
set_option maxHeartbeats 3000000
namespace Go.Proofs.YthdphijabffpiaaDoor
open Go.RowKit Go.ChangeShapes Go.WideShapes
theorem cM(w:Int)(Ls:List Ln){k n:Nat}(h:k<=n):∃ t,ap w Ls n=ap w Ls k++t:=by
 induction n with
 |zero =>
  obtain rfl:k=0:=by omega
  exact ⟨[],by simp⟩
 |succ n ih =>
  by_cases hk:k=n+1
  ·subst hk;exact ⟨[],by simp⟩
  ·obtain ⟨t,ht⟩:=ih (by omega);exact ⟨t++bO n (aF w (Ls.getD n zl).1),by rw [aV,ht,List.append_assoc]⟩
def aE(v:Vw)(lv:Value):Value:=.agg #[.int .i64 v.w,.int .i64 v.h,lv,.int .i64 v.r,.int .i64 v.c,.bool v.pd,.bool v.au]
def dV(v:Vw)(lv:Value):List Value:=[.int .i64 v.w,.int .i64 v.h,lv,.int .i64 v.r,.int .i64 v.c,.bool v.pd,.bool v.au]
def ViewAt(wb:World)(v:Vw)(lv:Value):Prop:=HeldE lineE (fun _=>True) wb lv v.L /\ -9223372036854775808<=v.w/\v.w<=9223372036854775807 /\ -9223372036854775808<=v.h/\v.h<=9223372036854775807
def fV(v:Vw)(N:Nat):Prop:=∀ i,i<v.L.length->(c6 v++ap v.w v.L i).length+((v.L.getD i zl).1.length+1)<=N
theorem ez(sa:Nat->Addr)(wb:World)(go:Bool)(N:Nat)(gf:Nat)(lb:Array Value)(J:List Fnd->World->Prop)(hT:Tells sa wb go N gf lb J)(hs:Five wb sa)(v:Vw)(lv:Value)(w:World)(hv:ViewAt wb v lv)
  (hw:Below wb.heap.size wb w) (hJ:J [] w) (hN:(aY v).length+1<=N) (hR:fV v N) :
  Calls Tryd.prog 46 #[aE v lv,.func (.func gf) #[] lb] w (fun e w'=>e=.returned (.tuple #[])/\dW wb J w (bw go (aY v)) w'):=by
 obtain ⟨vw,vh,Ls,r,c,pd,au⟩:=v;obtain ⟨iM,w0,w1,h0,h1⟩:=hv;simp only at iM w0 w1 h0 h1;have lQ:=iM.max;unfold aE;simp only;obtain ⟨lo,lc,rfl⟩:=iM.len;have hlc:=(aJ iM).2.1;have i9:=aa (aJ iM).2.2;have HT:=aa hT;have kh:=aa hT.enter;have lx:=aa hs;have HRM:=aa hR;have m7:=aa hN;have kn:=trivial;have la:=aa (fun (w':World)=>dp vw w');have kr:=aa (fun (w':World)=>dp vh w');have lB:=aa (fun (w':World)=>eI r c pd vw vh w');obtain ⟨n,hn⟩:=ab (Ls.length);have iL:=aa hn;rw [<-hn] at hlc lQ i9 ⊢;obtain ⟨W2,hW2⟩:=ab ((w.alloc (.cells [Value.int .i64 vw,.int .i64 vh,.slice lo n lc,.int .i64 r,.int .i64 c,.bool pd,.bool au].toArray 26)).alloc (.cells [Value.func (.func gf) #[] lb].toArray 86));obtain ⟨gv,iI⟩:=ab (w.heap.size);obtain ⟨gt,m3⟩:=ab (w.heap.size+1);have hb2:Below w.heap.size w W2:=by rw [hW2];exact (af _ _).alloc (by simp) _
 have hv2:Has W2 gv [.int .i64 vw,.int .i64 vh,.slice lo n lc,.int .i64 r,.int .i64 c,.bool pd,.bool au] 26:=by rw [hW2,iI];exact (Has.new w _ _).alloc _
 have ht2:Has W2 gt [.func (.func gf) #[] lb] 86:=by
  have h:=Has.new (w.alloc (.cells [Value.int .i64 vw,.int .i64 vh,.slice lo n lc,.int .i64 r,.int .i64 c,.bool pd,.bool au].toArray 26)) [Value.func (.func gf) #[] lb] 86;rw [World.size_alloc] at h;rw [hW2,m3];exact h
 have gV:=aa hv2;have kU:=aa ht2;have gX:=aa hb2;have HJ2:=aa (hT.keep _ _ _ hJ hb2);have kX:=aa (hw.trans (hb2.mono hw.size));have jS:=aa (show w.heap.size<=gv by omega);have HGT:=aa (show w.heap.size<=gt by omega);have iV:=aa hW2;have HGS:=aa (And.intro iI m3);clear hW2 hb2 hv2 ht2 hJ hw hT hs iM hn hR hN iI m3;obtain ⟨bad,ii⟩ : ∃ bad,bad = !(aq vw && aq vh && (vh == (n:Int))):=⟨_,rfl⟩;have gL:=aa ii;clear ii;have kg:(w.alloc (.cells #[Value.int .i64 vw,.int .i64 vh,.slice lo n lc,.int .i64 r,.int .i64 c,.bool pd,.bool au] 26)).alloc (.cells #[Value.func (.func gf) #[] lb] 86)=W2:=iV.out.symm
 go_enter Tryd.func46,Tryd.ntmps46
 go_upto_region 1 with (fail)
 rw [<-HGS.out.2,<-HGS.out.1];clear kg
 go_cut [23] from 6 to 23 (fun tv wx=>tv=.bool bad/\wx=W2)
 case first =>
  have q0:=gV.out.cell 0 _ rfl;have q1:=gV.out.cell 1 _ rfl;have q2:=gV.out.cell 2 _ rfl
  cases hs1:aq vw with
  |false =>
   rw [hs1] at la gL;have im:=aa (show bad=true from by rw [gL.out];rfl);clear hs1
   go_wp2_with fail
   refine (la.out _).mono ?_;rintro e w' ⟨rfl,rfl⟩
   go_wp2_with fail
   go_meet;exact ⟨by rw [im.out],rfl⟩
  |true =>
   rw [hs1] at la gL
   cases hs2:aq vh with
   |false =>
    rw [hs2] at kr gL;have im:=aa (show bad=true from by rw [gL.out];rfl);clear hs1 hs2
    go_wp2_with fail
    refine (la.out _).mono ?_;rintro e w' ⟨rfl,rfl⟩
    go_wp2_with fail
    refine (kr.out _).mono ?_;rintro e w' ⟨rfl,rfl⟩
    go_wp2_with fail
    go_meet;exact ⟨by rw [im.out],rfl⟩
   |true =>
    rw [hs2] at kr gL;have im:=aa (show bad=(vh != (n:Int)) from by rw [gL.out];simp [bne]);clear hs1 hs2
    go_wp2_with fail
    refine (la.out _).mono ?_;rintro e w' ⟨rfl,rfl⟩
    go_wp2_with fail
    refine (kr.out _).mono ?_;rintro e w' ⟨rfl,rfl⟩
    go_wp2_with fail
    go_meet;exact ⟨by rw [im.out],rfl⟩
 case rest =>
  obtain ⟨rfl,hwc⟩:=hcut;subst wc
  cases hbd:bad with
  |false =>
   have mm:=aa (show c6 ⟨vw,vh,Ls,r,c,pd,au⟩=[] from by
    have h:=gL.out;rw [hbd] at h;unfold c6;simp only;rw [if_pos];have h2:(aq vw && aq vh && (vh == (n:Int)))=true:=by simpa using h.symm
    rw [Bool.and_eq_true,Bool.and_eq_true,beq_iff_eq] at h2;rw [<-iL.out];exact ⟨h2.1.1,h2.1.2,h2.2⟩)
   replace kn:=mm;have j7:=aa (show J ([]++ap vw Ls 0) W2 from HJ2.out);have ld:=aa (show go=true\/([]:List Fnd)++ap vw Ls 0=[] from .inr rfl);have jp:=aa (Qt.ofBelow (wb:=wb) gX.out);have jR:=kX;have ml:=gV;have no:=kU;clear hbd mm gL la kr
   go_upto_region 3 with (fail)
   have q2:=ml.out.cell 2 _ rfl;go_wp2
   go_loopw [31] (fun iv wr=>∃ k:Nat,k<=n/\iv=.int .i64 k/\(go=true\/[]++ap vw Ls k=[])/\J ([]++ap vw Ls k) wr/\Qt wb w wr/\Below wb.heap.size wb wr/\Has wr gv [.int .i64 vw,.int .i64 vh,.slice lo n lc,.int .i64 r,.int .i64 c,.bool pd,.bool au] 26/\Has wr gt [.func (.func gf) #[] lb] 86) (fun iv _=>n - (intOf iv).toNat)
   case atStart=>exact ⟨0,Nat.zero_le _,rfl,ld.out,j7.out,jp.out,jR.out,ml.out,no.out⟩
   case round =>
    obtain ⟨k,hk,rfl,hg,hj,hu,hb,iQ,l7⟩:=hrel;obtain ⟨wq,iD⟩:=ab (wr);subst iD;have HG:=aa hg;have HJ:=aa hj;have HU:=aa hu;have HB:=aa hb;have HV:=aa iQ;have i2:=aa l7;clear hg hj hu hb iQ l7 q2
    by_cases hlt:k<n
    ·obtain ⟨b,off,cv,eo,hb,_,hc0,hc1,hcv⟩:=i9.out k hlt;subst eo;have c0:=(HB.out.cell (p:=⟨b,off+k * 2,none⟩) hb).trans hc0;have c1:=(HB.out.cell (p:=⟨b,off+k * 2+1,none⟩) hb).trans hc1;obtain ⟨Lk,jz⟩:=ab ((Ls.getD k zl).1);obtain ⟨bk,me⟩:=ab ((Ls.getD k zl).2);rw [<-me] at c1;rw [<-jz] at hcv;have kf:=aa jz;have ju:=aa hcv.max;have nb:=aa (show ([]++ap vw Ls k).length+(Lk.length+1)<=N from by
      have:=HRM.out k (by rw [<-iL.out];exact hlt);rw [kn.out] at this;rw [jz];exact this)
     obtain ⟨co,cc,ecv⟩:=hcv.len;obtain ⟨nk,jy⟩:=ab (Lk.length);rw [<-jy] at ecv;subst ecv;have j8:=aa hcv;have kd:(k:Int)<(n:Int):=by omega
     have kD:IntKind.i64.wrap ((k:Int)+1)=(k:Int)+1:=by rw [IntKind.wrap_i64];omega
     have ks:k<lc:=by omega
     obtain ⟨W5,jH⟩:=ab ((wq.alloc (.cells [Value.int .i64 k].toArray 3)).alloc (.cells [Value.slice co nk cc,.bool bk].toArray 30));obtain ⟨fi,j9⟩:=ab (wq.heap.size);have gF:Below wq.heap.size wq W5:=by rw [jH];exact (af _ _).alloc (by simp) _
     have kJ:Has W5 fi [.int .i64 k] 3:=by rw [jH,j9];exact (Has.new wq [.int .i64 k] _).alloc _
     have lM:Has W5 (fi+1) [.slice co nk cc,.bool bk] 30:=by
      have h:=Has.new (wq.alloc (.cells [Value.int .i64 k].toArray 3)) [.slice co nk cc,.bool bk] 30;rw [World.size_alloc] at h;rw [jH,j9];exact h
     have io:=aa jH;have kG:=aa j9;have ir:=aa gF;have HI5:=aa kJ;have m6:=aa lM;have lH:=LineJ.tells HT.out ([]++ap vw Ls k) k gt fi (Lk.length+1) HG.out nb.out;have i5:=aa (dn sa wb go (Lk.length+1) 81 _ _ lH lx.out _ Lk vw W5 j8.out ju.out (HB.out.trans (gF.mono HB.out.size)) ⟨by rw [c5,List.append_nil];exact HT.out.keep _ _ _ HJ.out gF,i2.out.below gF i2.out.lt,kJ⟩ (Nat.le_refl _));have ll:(wq.alloc (.cells #[Value.int .i64 k] 3)).alloc (.cells #[Value.slice co nk cc,.bool bk] 30)=W5:=io.out.symm;have k9:=kG.out.symm;clear hc0 hc1 jz me hcv jy hb jH j9 gF kJ lM lH
     go_upto_region 6 with (fail)
     clear ll k9;have q0:=(HV.out.below ir.out HV.out.lt).cell 0 _ rfl;have q1:=m6.out.cell 0 _ rfl;clear c0 c1
     cases go with
     |true =>
      simp only [Bool.true_or] at i5
      go_wp2_with fail
      refine i5.out.mono ?_;rintro e w6 ⟨rfl,ho⟩;have HE:=aa (show J ([]++ap vw Ls (k+1)) w6/\Qt wb w w6/\Below wb.heap.size wb w6/\Has w6 gv [.int .i64 vw,.int .i64 vh,.slice (some ⟨b,off,none⟩) n lc,.int .i64 r,.int .i64 c,.bool pd,.bool au] 26/\Has w6 gt [.func (.func gf) #[] lb] 86 from by
       rw [aV,<-kf.out,<-List.append_assoc];exact ⟨ho.1.1,(HU.out.trans (Qt.ofBelow ir.out)).trans ho.2.1,ho.2.2,ho.2.1.has (HV.out.below ir.out HV.out.lt) (by decide),ho.1.2.1⟩)
      clear ho q0 q1 i5;go_wp2
      go_roundw
      case rel=>exact ⟨k+1,by omega,by go_num,.inl (by first | rfl | trivial),HE.out.1,HE.out.2.1,HE.out.2.2.1,HE.out.2.2.2.1,HE.out.2.2.2.2⟩
      case measure=>simp [intOf] <;> omega
     |false =>
      have h9:[]++ap vw Ls k=[]:=HG.out.resolve_left (by decide)
      cases hE:(aF vw Lk).isEmpty with
      |true =>
       rw [hE] at i5;simp only [Bool.or_true] at i5;have h8:aF vw Lk=[]:=List.isEmpty_iff.1 hE;have mr:=aa (show []++ap vw Ls (k+1)=[]/\bw false (aF vw Lk)=[] from by
        rw [aV,<-kf.out,<-List.append_assoc,h9,h8];exact ⟨rfl,rfl⟩)
       have H9:=aa h9;clear hE h8 h9
       go_wp2_with fail
       refine i5.out.mono ?_;rintro e w6 ⟨rfl,ho⟩;have HE:=aa (show J ([]++ap vw Ls (k+1)) w6/\Qt wb w w6/\Below wb.heap.size wb w6/\Has w6 gv [.int .i64 vw,.int .i64 vh,.slice (some ⟨b,off,none⟩) n lc,.int .i64 r,.int .i64 c,.bool pd,.bool au] 26/\Has w6 gt [.func (.func gf) #[] lb] 86 from by
        have h7:=ho.1.1;rw [mr.out.2,c5,List.append_nil,H9.out] at h7;rw [mr.out.1];exact ⟨h7,(HU.out.trans (Qt.ofBelow ir.out)).trans ho.2.1,ho.2.2,ho.2.1.has (HV.out.below ir.out HV.out.lt) (by decide),ho.1.2.1⟩)
       clear ho q0 q1 i5;go_wp2
       go_roundw
       case rel=>exact ⟨k+1,by omega,by go_num,.inr mr.out.1,HE.out.1,HE.out.2.1,HE.out.2.2.1,HE.out.2.2.2.1,HE.out.2.2.2.2⟩
       case measure=>simp [intOf] <;> omega
      |false =>
       rw [hE] at i5;simp only [Bool.or_self] at i5;have mr:=aa (show bw false (aY ⟨vw,vh,Ls,r,c,pd,au⟩)=([]++ap vw Ls k)++bO k (bw false (aF vw Lk)) from by
        obtain ⟨t,ht⟩:=cM vw Ls (show k+1<=Ls.length by rw [<-iL.out];omega);obtain ⟨x,t2,hx⟩ : ∃ x t2,aF vw Lk=x :: t2:=by
         cases hq:aF vw Lk with
         | nil=>rw [hq] at hE;cases hE
         | cons x t2=>exact ⟨x,t2,rfl⟩
        unfold aY;rw [kn.out];simp only;rw [ht,aV,<-kf.out,hx,<-List.append_assoc,<-List.append_assoc,h9]
        rfl)
       clear hE h9
       go_wp2_with fail
       refine i5.out.mono ?_;rintro e w6 ⟨rfl,ho⟩;have HE:=aa (show dW wb J w (bw false (aY ⟨vw,vh,Ls,r,c,pd,au⟩)) w6 from by
        rw [mr.out];exact ⟨ho.1.1,(HU.out.trans (Qt.ofBelow ir.out)).trans ho.2.1,ho.2.2⟩)
       clear ho q0 q1 i5;go_wp2
       first | exact bodyPost_end (by kernel_rfl) rfl ⟨rfl,HE.out⟩ | exact bodyPost_ret (v:=.tuple #[]) (by simp [results,Tryd.results46,go_sem]) rfl ⟨rfl,HE.out⟩
    ·obtain rfl:k=n:=by omega
     have hv3:=HV.out.cell 3 _ rfl;have hv4:=HV.out.cell 4 _ rfl;have lX:=HV.out.cell 5 _ rfl;have hv0:=HV.out.cell 0 _ rfl;have iz:=HV.out.cell 1 _ rfl;have l5:=i2.out.cell 0 _ rfl;have kV:=aa (show aY ⟨vw,vh,Ls,r,c,pd,au⟩=([]++ap vw Ls k)++bM ⟨vw,vh,Ls,r,c,pd,au⟩ from by
      unfold aY;rw [kn.out];simp only;rw [<-iL.out])
     cases hcr:aj r c pd vw vh with
     |true =>
      have i3:=aa (lB.out wq);rw [hcr] at i3;have HF:=aa (show bw go (aY ⟨vw,vh,Ls,r,c,pd,au⟩)=[]++ap vw Ls k from by
       rw [kV.out,show bM ⟨vw,vh,Ls,r,c,pd,au⟩=[] from by unfold bM;rw [if_pos hcr],List.append_nil]
       rcases HG.out with e | e
       ·rw [e];rfl
       ·rw [e];exact dZ _)
      clear hcr l5
      go_wp2_with fail
      refine i3.out.mono ?_;rintro e w7 ⟨rfl,b7⟩;have HE:=aa (show dW wb J w (bw go (aY ⟨vw,vh,Ls,r,c,pd,au⟩)) w7 from by
       rw [HF.out];exact ⟨HT.out.keep _ _ _ HJ.out b7,HU.out.trans (Qt.ofBelow b7),HB.out.trans (b7.mono HB.out.size)⟩)
      clear b7 hv0 iz hv3 hv4 lX i3;go_wp2;exact bodyPost_end (by kernel_rfl) rfl ⟨rfl,HE.out⟩
     |false =>
      have i3:=aa (lB.out wq);rw [hcr] at i3;have mh:=aa (show bM ⟨vw,vh,Ls,r,c,pd,au⟩=[([],8)] from by unfold bM;rw [if_neg (by simp [hcr])]);have HF:=aa (show bw go (aY ⟨vw,vh,Ls,r,c,pd,au⟩)=([]++ap vw Ls k)++[([],8)] from by
       rw [kV.out,mh.out]
       rcases HG.out with e | e
       ·rw [e];rfl
       ·rw [e];exact fF)
      clear hcr l5
      go_wp2_with fail
      refine i3.out.mono ?_;rintro e w7 ⟨rfl,b7⟩;have g7:=(lx.out.below (HB.out.trans (b7.mono HB.out.size))).cell 7 (by decide);simp only [F.glob] at g7;have nF:=(i2.out.below b7 i2.out.lt).cell 0 _ rfl;have HST:=aa (HT.out.step ([]++ap vw Ls k) _ [] 8 w7 HG.out (by have:=m7.out;rw [kV.out,mh.out,List.length_append] at this;simp at this ⊢;omega) (HT.out.keep _ _ _ HJ.out b7) (HB.out.trans (b7.mono HB.out.size)) (ErrT.sent (sa:=sa) 7 (by decide)));have nH:=aa (HU.out.trans (Qt.ofBelow b7));have jZ:=aa (HB.out.trans (b7.mono HB.out.size));clear b7 hv0 iz hv3 hv4 lX i3
      go_wp2_with fail
      rw [kh.out,Oper.upon_enter];refine HST.out.mono ?_;rintro e w8 ⟨rfl,lP,kE⟩;have HE:=aa (show dW wb J w (bw go (aY ⟨vw,vh,Ls,r,c,pd,au⟩)) w8 from by
       rw [HF.out];exact ⟨lP,nH.out.trans kE,bD jZ.out kE⟩)
      clear lP kE g7 nF;go_wp2;exact bodyPost_end (by kernel_rfl) rfl ⟨rfl,HE.out⟩
  |true =>
   have mm:=aa (show c6 ⟨vw,vh,Ls,r,c,pd,au⟩=[([],3)] from by
    have h:=gL.out;rw [hbd] at h;unfold c6;simp only;rw [if_neg];intro h2;rw [<-iL.out] at h2;rw [h2.1,h2.2.1,h2.2.2] at h
    simp at h)
   replace kn:=mm;have g2:=(lx.out.below kX.out).cell 2 (by decide);simp only [F.glob] at g2;have t0:=kU.out.cell 0 _ rfl;have HST:=aa (HT.out.step [] _ [] 3 W2 (.inr rfl) (by have:=m7.out;simp;omega) HJ2.out kX.out (ErrT.sent (sa:=sa) 2 (by decide)));clear hbd mm gL la kr
   go_wp2_with fail
   rw [kh.out,Oper.upon_enter];refine HST.out.mono ?_;rintro e w1 ⟨rfl,mn,j5⟩;have j7:=aa (show J ([([],3)]++ap vw Ls 0) w1 from mn);have jp:=aa ((Qt.ofBelow (wb:=wb) gX.out).trans j5);have jR:=aa (bD kX.out j5);have ml:=aa (j5.has gV.out (by decide));have no:=aa (j5.has kU.out (by decide));clear mn j5 HST g2 t0
   cases go with
   |false =>
    have HF:=aa (show dW wb J w (bw false (aY ⟨vw,vh,Ls,r,c,pd,au⟩)) w1 from by
     unfold aY;rw [kn.out];exact ⟨j7.out,jp.out,jR.out⟩)
    go_wp2
    first | exact bodyPost_end (by kernel_rfl) rfl ⟨rfl,HF.out⟩ | exact bodyPost_ret (v:=.tuple #[]) (by simp [results,Tryd.results46,go_sem]) rfl ⟨rfl,HF.out⟩
   |true =>
    have ld:=aa (show True\/([([],3)]:List Fnd)++ap vw Ls 0=[] from .inl trivial)
    go_upto_region 3 with (fail)
    have q2:=ml.out.cell 2 _ rfl;go_wp2
    go_loopw [31] (fun iv wr=>∃ k:Nat,k<=n/\iv=.int .i64 k/\(True\/[([],3)]++ap vw Ls k=[])/\J ([([],3)]++ap vw Ls k) wr/\Qt wb w wr/\Below wb.heap.size wb wr/\Has wr gv [.int .i64 vw,.int .i64 vh,.slice lo n lc,.int .i64 r,.int .i64 c,.bool pd,.bool au] 26/\Has wr gt [.func (.func gf) #[] lb] 86) (fun iv _=>n - (intOf iv).toNat)
    case atStart=>exact ⟨0,Nat.zero_le _,rfl,ld.out,j7.out,jp.out,jR.out,ml.out,no.out⟩
    case round =>
     obtain ⟨k,hk,rfl,hg,hj,hu,hb,iQ,l7⟩:=hrel;obtain ⟨wq,iD⟩:=ab (wr);subst iD;have HG:=aa hg;have HJ:=aa hj;have HU:=aa hu;have HB:=aa hb;have HV:=aa iQ;have i2:=aa l7;clear hg hj hu hb iQ l7 q2
     by_cases hlt:k<n
     ·obtain ⟨b,off,cv,eo,hb,_,hc0,hc1,hcv⟩:=i9.out k hlt;subst eo;have c0:=(HB.out.cell (p:=⟨b,off+k * 2,none⟩) hb).trans hc0;have c1:=(HB.out.cell (p:=⟨b,off+k * 2+1,none⟩) hb).trans hc1;obtain ⟨Lk,jz⟩:=ab ((Ls.getD k zl).1);obtain ⟨bk,me⟩:=ab ((Ls.getD k zl).2);rw [<-me] at c1;rw [<-jz] at hcv;have kf:=aa jz;have ju:=aa hcv.max;have nb:=aa (show ([([],3)]++ap vw Ls k).length+(Lk.length+1)<=N from by
       have:=HRM.out k (by rw [<-iL.out];exact hlt);rw [kn.out] at this;rw [jz];exact this)
      obtain ⟨co,cc,ecv⟩:=hcv.len;obtain ⟨nk,jy⟩:=ab (Lk.length);rw [<-jy] at ecv;subst ecv;have j8:=aa hcv;have kd:(k:Int)<(n:Int):=by omega
      have kD:IntKind.i64.wrap ((k:Int)+1)=(k:Int)+1:=by rw [IntKind.wrap_i64];omega
      have ks:k<lc:=by omega
      obtain ⟨W5,jH⟩:=ab ((wq.alloc (.cells [Value.int .i64 k].toArray 3)).alloc (.cells [Value.slice co nk cc,.bool bk].toArray 30));obtain ⟨fi,j9⟩:=ab (wq.heap.size);have gF:Below wq.heap.size wq W5:=by rw [jH];exact (af _ _).alloc (by simp) _
      have kJ:Has W5 fi [.int .i64 k] 3:=by rw [jH,j9];exact (Has.new wq [.int .i64 k] _).alloc _
      have lM:Has W5 (fi+1) [.slice co nk cc,.bool bk] 30:=by
       have h:=Has.new (wq.alloc (.cells [Value.int .i64 k].toArray 3)) [.slice co nk cc,.bool bk] 30;rw [World.size_alloc] at h;rw [jH,j9];exact h
      have io:=aa jH;have kG:=aa j9;have ir:=aa gF;have HI5:=aa kJ;have m6:=aa lM;have lH:=LineJ.tells HT.out ([([],3)]++ap vw Ls k) k gt fi (Lk.length+1) (.inl rfl) nb.out;have i5:=aa (dn sa wb true (Lk.length+1) 81 _ _ lH lx.out _ Lk vw W5 j8.out ju.out (HB.out.trans (gF.mono HB.out.size)) ⟨by rw [c5,List.append_nil];exact HT.out.keep _ _ _ HJ.out gF,i2.out.below gF i2.out.lt,kJ⟩ (Nat.le_refl _));have ll:(wq.alloc (.cells #[Value.int .i64 k] 3)).alloc (.cells #[Value.slice co nk cc,.bool bk] 30)=W5:=io.out.symm;have k9:=kG.out.symm;clear hc0 hc1 jz me hcv jy hb jH j9 gF kJ lM lH
      go_upto_region 6 with (fail)
      clear ll k9;have q0:=(HV.out.below ir.out HV.out.lt).cell 0 _ rfl;have q1:=m6.out.cell 0 _ rfl;clear c0 c1;simp only [Bool.true_or] at i5
      go_wp2_with fail
      refine i5.out.mono ?_;rintro e w6 ⟨rfl,ho⟩;have HE:=aa (show J ([([],3)]++ap vw Ls (k+1)) w6/\Qt wb w w6/\Below wb.heap.size wb w6/\Has w6 gv [.int .i64 vw,.int .i64 vh,.slice (some ⟨b,off,none⟩) n lc,.int .i64 r,.int .i64 c,.bool pd,.bool au] 26/\Has w6 gt [.func (.func gf) #[] lb] 86 from by
       rw [aV,<-kf.out,<-List.append_assoc];exact ⟨ho.1.1,(HU.out.trans (Qt.ofBelow ir.out)).trans ho.2.1,ho.2.2,ho.2.1.has (HV.out.below ir.out HV.out.lt) (by decide),ho.1.2.1⟩)
      clear ho q0 q1 i5;go_wp2
      go_roundw
      case rel=>exact ⟨k+1,by omega,by go_num,.inl (by first | rfl | trivial),HE.out.1,HE.out.2.1,HE.out.2.2.1,HE.out.2.2.2.1,HE.out.2.2.2.2⟩
      case measure=>simp [intOf] <;> omega
     ·obtain rfl:k=n:=by omega
      have hv3:=HV.out.cell 3 _ rfl;have hv4:=HV.out.cell 4 _ rfl;have lX:=HV.out.cell 5 _ rfl;have hv0:=HV.out.cell 0 _ rfl;have iz:=HV.out.cell 1 _ rfl;have l5:=i2.out.cell 0 _ rfl;have kV:=aa (show aY ⟨vw,vh,Ls,r,c,pd,au⟩=([([],3)]++ap vw Ls k)++bM ⟨vw,vh,Ls,r,c,pd,au⟩ from by
       unfold aY;rw [kn.out];simp only;rw [<-iL.out])
      cases hcr:aj r c pd vw vh with
      |true =>
       have i3:=aa (lB.out wq);rw [hcr] at i3;have HF:=aa (show bw true (aY ⟨vw,vh,Ls,r,c,pd,au⟩)=[([],3)]++ap vw Ls k from by
        rw [kV.out,show bM ⟨vw,vh,Ls,r,c,pd,au⟩=[] from by unfold bM;rw [if_pos hcr],List.append_nil]
        rfl)
       clear hcr l5
       go_wp2_with fail
       refine i3.out.mono ?_;rintro e w7 ⟨rfl,b7⟩;have HE:=aa (show dW wb J w (bw true (aY ⟨vw,vh,Ls,r,c,pd,au⟩)) w7 from by
        rw [HF.out];exact ⟨HT.out.keep _ _ _ HJ.out b7,HU.out.trans (Qt.ofBelow b7),HB.out.trans (b7.mono HB.out.size)⟩)
       clear b7 hv0 iz hv3 hv4 lX i3;go_wp2;exact bodyPost_end (by kernel_rfl) rfl ⟨rfl,HE.out⟩
      |false =>
       have i3:=aa (lB.out wq);rw [hcr] at i3;have mh:=aa (show bM ⟨vw,vh,Ls,r,c,pd,au⟩=[([],8)] from by unfold bM;rw [if_neg (by simp [hcr])]);have HF:=aa (show bw true (aY ⟨vw,vh,Ls,r,c,pd,au⟩)=([([],3)]++ap vw Ls k)++[([],8)] from by
        rw [kV.out,mh.out]
        rfl)
       clear hcr l5
       go_wp2_with fail
       refine i3.out.mono ?_;rintro e w7 ⟨rfl,b7⟩;have g7:=(lx.out.below (HB.out.trans (b7.mono HB.out.size))).cell 7 (by decide);simp only [F.glob] at g7;have nF:=(i2.out.below b7 i2.out.lt).cell 0 _ rfl;have HST:=aa (HT.out.step ([([],3)]++ap vw Ls k) _ [] 8 w7 (.inl rfl) (by have:=m7.out;rw [kV.out,mh.out,List.length_append] at this;simp at this ⊢;omega) (HT.out.keep _ _ _ HJ.out b7) (HB.out.trans (b7.mono HB.out.size)) (ErrT.sent (sa:=sa) 7 (by decide)));have nH:=aa (HU.out.trans (Qt.ofBelow b7));have jZ:=aa (HB.out.trans (b7.mono HB.out.size));clear b7 hv0 iz hv3 hv4 lX i3
       go_wp2_with fail
       rw [kh.out,Oper.upon_enter];refine HST.out.mono ?_;rintro e w8 ⟨rfl,lP,kE⟩;have HE:=aa (show dW wb J w (bw true (aY ⟨vw,vh,Ls,r,c,pd,au⟩)) w8 from by
        rw [HF.out];exact ⟨lP,nH.out.trans kE,bD jZ.out kE⟩)
       clear lP kE g7 nF;go_wp2;exact bodyPost_end (by kernel_rfl) rfl ⟨rfl,HE.out⟩
end Go.Proofs.YthdphijabffpiaaDoor
