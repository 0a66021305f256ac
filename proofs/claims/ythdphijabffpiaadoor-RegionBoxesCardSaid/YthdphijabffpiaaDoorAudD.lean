import Derived.Test.YthdphijabffpiaaDoorZ0
import Derived.Test.YthdphijabffpiaaDoorAudC
set_option maxRecDepth 100000
set_option linter.unusedVariables false
set_option linter.unusedSimpArgs false
set_option maxHeartbeats 3000000
namespace Go.Proofs.YthdphijabffpiaaDoor
open Go.RowKit Go.ChangeShapes Go.WideShapes
theorem cO(w:Int)(Ls:List Ln){k n:Nat}(h:k<=n):∃ t,aq w Ls n=aq w Ls k++t:=by
 induction n with
 |zero =>
  obtain rfl:k=0:=by omega
  exact ⟨[],by simp⟩
 |succ n ih =>
  by_cases hk:k=n+1
  ·subst hk;exact ⟨[],by simp⟩
  ·obtain ⟨t,ht⟩:=ih (by omega);exact ⟨t++bP n (aL w (Ls.getD n zl).1),by rw [a5,ht,List.append_assoc]⟩
def aK(v:Vw)(lv:Value):Value:=.agg #[.int .i64 v.w,.int .i64 v.h,lv,.int .i64 v.r,.int .i64 v.c,.bool v.pd,.bool v.au]
def eb(v:Vw)(lv:Value):List Value:=[.int .i64 v.w,.int .i64 v.h,lv,.int .i64 v.r,.int .i64 v.c,.bool v.pd,.bool v.au]
def ViewAt(wb:World)(v:Vw)(lv:Value):Prop:=HeldE lineE (fun _=>True) wb lv v.L /\ -9223372036854775808<=v.w/\v.w<=9223372036854775807 /\ -9223372036854775808<=v.h/\v.h<=9223372036854775807
def gd(v:Vw)(N:Nat):Prop:=∀ i,i<v.L.length->(da v++aq v.w v.L i).length+((v.L.getD i zl).1.length+1)<=N
theorem eF(sa:Nat->Addr)(wb:World)(go:Bool)(N:Nat)(gf:Nat)(lb:Array Value)(J:List Fnd->World->Prop)(hT:Tells sa wb go N gf lb J)(hs:Five wb sa)(v:Vw)(lv:Value)(w:World)(hv:ViewAt wb v lv)
  (hw:Below wb.heap.size wb w) (hJ:J [] w) (hN:(a6 v).length+1<=N) (hR:gd v N) :
  Calls Tryd.prog 46 #[aK v lv,.func (.func gf) #[] lb] w (fun e w'=>e=.returned (.tuple #[])/\ec wb J w (bw go (a6 v)) w'):=by
 obtain ⟨vw,vh,Ls,r,c,pd,au⟩:=v;obtain ⟨jc,w0,w1,h0,h1⟩:=hv;simp only at jc w0 w1 h0 h1;have nf:=jc.max;unfold aK;simp only;obtain ⟨lo,lc,rfl⟩:=jc.len;have hlc:=(aM jc).2.1;have jW:=aa (aM jc).2.2;have HT:=aa hT;have ld:=aa hT.enter;have mC:=aa hs;have HRM:=aa hR;have ox:=aa hN;have lF:=trivial;have mg:=aa (fun (w':World)=>dw vw w');have kS:=aa (fun (w':World)=>dw vh w');have mw:=aa (fun (w':World)=>eO r c pd vw vh w');obtain ⟨n,hn⟩:=ab (Ls.length);have je:=aa hn;rw [<-hn] at hlc nf jW ⊢;obtain ⟨W2,hW2⟩:=ab ((w.alloc (.cells [Value.int .i64 vw,.int .i64 vh,.slice lo n lc,.int .i64 r,.int .i64 c,.bool pd,.bool au].toArray 26)).alloc (.cells [Value.func (.func gf) #[] lb].toArray 86));obtain ⟨gv,i2⟩:=ab (w.heap.size);obtain ⟨gt,oo⟩:=ab (w.heap.size+1);have hb2:Below w.heap.size w W2:=by rw [hW2];exact (af _ _).alloc (by simp) _
 have hv2:Has W2 gv [.int .i64 vw,.int .i64 vh,.slice lo n lc,.int .i64 r,.int .i64 c,.bool pd,.bool au] 26:=by rw [hW2,i2];exact (Has.new w _ _).alloc _
 have ht2:Has W2 gt [.func (.func gf) #[] lb] 86:=by
  have h:=Has.new (w.alloc (.cells [Value.int .i64 vw,.int .i64 vh,.slice lo n lc,.int .i64 r,.int .i64 c,.bool pd,.bool au].toArray 26)) [Value.func (.func gf) #[] lb] 86;rw [World.size_alloc] at h;rw [hW2,oo];exact h
 have io:=aa hv2;have lN:=aa ht2;have ii:=aa hb2;have HJ2:=aa (hT.keep _ _ _ hJ hb2);have kL:=aa (hw.trans (hb2.mono hw.size));have kO:=aa (show w.heap.size<=gv by omega);have HGT:=aa (show w.heap.size<=gt by omega);have jw:=aa hW2;have HGS:=aa (And.intro i2 oo);clear hW2 hb2 hv2 ht2 hJ hw hT hs jc hn hR hN i2 oo;obtain ⟨bad,iD⟩ : ∃ bad,bad = !(ar vw && ar vh && (vh == (n:Int))):=⟨_,rfl⟩;have gX:=aa iD;clear iD;have kZ:(w.alloc (.cells #[Value.int .i64 vw,.int .i64 vh,.slice lo n lc,.int .i64 r,.int .i64 c,.bool pd,.bool au] 26)).alloc (.cells #[Value.func (.func gf) #[] lb] 86)=W2:=jw.out.symm
 go_enter Tryd.func46,Tryd.ntmps46
 go_upto_region 1 with (fail)
 rw [<-HGS.out.2,<-HGS.out.1];clear kZ
 go_cut [23] from 6 to 23 (fun tv wx=>tv=.bool bad/\wx=W2)
 case first =>
  have q0:=io.out.cell 0 _ rfl;have q1:=io.out.cell 1 _ rfl;have q2:=io.out.cell 2 _ rfl
  cases hs1:ar vw with
  |false =>
   rw [hs1] at mg gX;have iG:=aa (show bad=true from by rw [gX.out];rfl);clear hs1
   go_wp2_with fail
   refine (mg.out _).mono ?_;rintro e w' ⟨rfl,rfl⟩
   go_wp2_with fail
   go_meet;exact ⟨by rw [iG.out],rfl⟩
  |true =>
   rw [hs1] at mg gX
   cases hs2:ar vh with
   |false =>
    rw [hs2] at kS gX;have iG:=aa (show bad=true from by rw [gX.out];rfl);clear hs1 hs2
    go_wp2_with fail
    refine (mg.out _).mono ?_;rintro e w' ⟨rfl,rfl⟩
    go_wp2_with fail
    refine (kS.out _).mono ?_;rintro e w' ⟨rfl,rfl⟩
    go_wp2_with fail
    go_meet;exact ⟨by rw [iG.out],rfl⟩
   |true =>
    rw [hs2] at kS gX;have iG:=aa (show bad=(vh != (n:Int)) from by rw [gX.out];simp [bne]);clear hs1 hs2
    go_wp2_with fail
    refine (mg.out _).mono ?_;rintro e w' ⟨rfl,rfl⟩
    go_wp2_with fail
    refine (kS.out _).mono ?_;rintro e w' ⟨rfl,rfl⟩
    go_wp2_with fail
    go_meet;exact ⟨by rw [iG.out],rfl⟩
 case rest =>
  obtain ⟨rfl,hwc⟩:=hcut;subst wc
  cases hbd:bad with
  |false =>
   have ny:=aa (show da ⟨vw,vh,Ls,r,c,pd,au⟩=[] from by
    have h:=gX.out;rw [hbd] at h;unfold da;simp only;rw [if_pos];have h2:(ar vw && ar vh && (vh == (n:Int)))=true:=by simpa using h.symm
    rw [Bool.and_eq_true,Bool.and_eq_true,beq_iff_eq] at h2;rw [<-je.out];exact ⟨h2.1.1,h2.1.2,h2.2⟩)
   replace lF:=ny;have lm:=aa (show J ([]++aq vw Ls 0) W2 from HJ2.out);have l7:=aa (show go=true\/([]:List Fnd)++aq vw Ls 0=[] from .inr rfl);have km:=aa (Qt.ofBelow (wb:=wb) ii.out);have kT:=kL;have m8:=io;have oH:=lN;clear hbd ny gX mg kS
   go_upto_region 3 with (fail)
   have q2:=m8.out.cell 2 _ rfl;go_wp2
   go_loopw [31] (fun iv wr=>∃ k:Nat,k<=n/\iv=.int .i64 k/\(go=true\/[]++aq vw Ls k=[])/\J ([]++aq vw Ls k) wr/\Qt wb w wr/\Below wb.heap.size wb wr/\Has wr gv [.int .i64 vw,.int .i64 vh,.slice lo n lc,.int .i64 r,.int .i64 c,.bool pd,.bool au] 26/\Has wr gt [.func (.func gf) #[] lb] 86) (fun iv _=>n - (intOf iv).toNat)
   case atStart=>exact ⟨0,Nat.zero_le _,rfl,l7.out,lm.out,km.out,kT.out,m8.out,oH.out⟩
   case round =>
    obtain ⟨k,hk,rfl,hg,hj,hu,hb,jt,m4⟩:=hrel;obtain ⟨wq,iS⟩:=ab (wr);subst iS;have HG:=aa hg;have HJ:=aa hj;have HU:=aa hu;have HB:=aa hb;have HV:=aa jt;have kE:=aa m4;clear hg hj hu hb jt m4 q2
    by_cases hlt:k<n
    ·obtain ⟨b,off,cv,eo,hb,_,hc0,hc1,hcv⟩:=jW.out k hlt;subst eo;have c0:=(HB.out.cell (p:=⟨b,off+k * 2,none⟩) hb).trans hc0;have c1:=(HB.out.cell (p:=⟨b,off+k * 2+1,none⟩) hb).trans hc1;obtain ⟨Lk,kr⟩:=ab ((Ls.getD k zl).1);obtain ⟨bk,nh⟩:=ab ((Ls.getD k zl).2);rw [<-nh] at c1;rw [<-kr] at hcv;have jg:=aa kr;have j8:=aa hcv.max;have oW:=aa (show ([]++aq vw Ls k).length+(Lk.length+1)<=N from by
      have:=HRM.out k (by rw [<-je.out];exact hlt);rw [lF.out] at this;rw [kr];exact this)
     obtain ⟨co,cc,ecv⟩:=hcv.len;obtain ⟨nk,ko⟩:=ab (Lk.length);rw [<-ko] at ecv;subst ecv;have kY:=aa hcv;have k7:(k:Int)<(n:Int):=by omega
     have lJ:IntKind.i64.wrap ((k:Int)+1)=(k:Int)+1:=by rw [IntKind.wrap_i64];omega
     have kW:k<lc:=by omega
     obtain ⟨W5,ky⟩:=ab ((wq.alloc (.cells [Value.int .i64 k].toArray 3)).alloc (.cells [Value.slice co nk cc,.bool bk].toArray 30));obtain ⟨fi,k8⟩:=ab (wq.heap.size);have gE:Below wq.heap.size wq W5:=by rw [ky];exact (af _ _).alloc (by simp) _
     have mj:Has W5 fi [.int .i64 k] 3:=by rw [ky,k8];exact (Has.new wq [.int .i64 k] _).alloc _
     have mH:Has W5 (fi+1) [.slice co nk cc,.bool bk] 30:=by
      have h:=Has.new (wq.alloc (.cells [Value.int .i64 k].toArray 3)) [.slice co nk cc,.bool bk] 30;rw [World.size_alloc] at h;rw [ky,k8];exact h
     have iI:=aa ky;have l6:=aa k8;have iY:=aa gE;have HI5:=aa mj;have oK:=aa mH;have mQ:=LineJ.tells HT.out ([]++aq vw Ls k) k gt fi (Lk.length+1) HG.out oW.out;have jJ:=aa (dv sa wb go (Lk.length+1) 81 _ _ mQ mC.out _ Lk vw W5 kY.out j8.out (HB.out.trans (gE.mono HB.out.size)) ⟨by rw [c9,List.append_nil];exact HT.out.keep _ _ _ HJ.out gE,kE.out.below gE kE.out.lt,mj⟩ (Nat.le_refl _));have lP:(wq.alloc (.cells #[Value.int .i64 k] 3)).alloc (.cells #[Value.slice co nk cc,.bool bk] 30)=W5:=iI.out.symm;have l4:=l6.out.symm;clear hc0 hc1 kr nh hcv ko hb ky k8 gE mj mH mQ
     go_upto_region 6 with (fail)
     clear lP l4;have q0:=(HV.out.below iY.out HV.out.lt).cell 0 _ rfl;have q1:=oK.out.cell 0 _ rfl;clear c0 c1
     cases go with
     |true =>
      simp only [Bool.true_or] at jJ
      go_wp2_with fail
      refine jJ.out.mono ?_;rintro e w6 ⟨rfl,ho⟩;have HE:=aa (show J ([]++aq vw Ls (k+1)) w6/\Qt wb w w6/\Below wb.heap.size wb w6/\Has w6 gv [.int .i64 vw,.int .i64 vh,.slice (some ⟨b,off,none⟩) n lc,.int .i64 r,.int .i64 c,.bool pd,.bool au] 26/\Has w6 gt [.func (.func gf) #[] lb] 86 from by
       rw [a5,<-jg.out,<-List.append_assoc];exact ⟨ho.1.1,(HU.out.trans (Qt.ofBelow iY.out)).trans ho.2.1,ho.2.2,ho.2.1.has (HV.out.below iY.out HV.out.lt) (by decide),ho.1.2.1⟩)
      clear ho q0 q1 jJ;go_wp2
      go_roundw
      case rel=>exact ⟨k+1,by omega,by go_num,.inl (by first | rfl | trivial),HE.out.1,HE.out.2.1,HE.out.2.2.1,HE.out.2.2.2.1,HE.out.2.2.2.2⟩
      case measure=>simp [intOf] <;> omega
     |false =>
      have h9:[]++aq vw Ls k=[]:=HG.out.resolve_left (by decide)
      cases hE:(aL vw Lk).isEmpty with
      |true =>
       rw [hE] at jJ;simp only [Bool.or_true] at jJ;have h8:aL vw Lk=[]:=List.isEmpty_iff.1 hE;have mJ:=aa (show []++aq vw Ls (k+1)=[]/\bw false (aL vw Lk)=[] from by
        rw [a5,<-jg.out,<-List.append_assoc,h9,h8];exact ⟨rfl,rfl⟩)
       have H9:=aa h9;clear hE h8 h9
       go_wp2_with fail
       refine jJ.out.mono ?_;rintro e w6 ⟨rfl,ho⟩;have HE:=aa (show J ([]++aq vw Ls (k+1)) w6/\Qt wb w w6/\Below wb.heap.size wb w6/\Has w6 gv [.int .i64 vw,.int .i64 vh,.slice (some ⟨b,off,none⟩) n lc,.int .i64 r,.int .i64 c,.bool pd,.bool au] 26/\Has w6 gt [.func (.func gf) #[] lb] 86 from by
        have h7:=ho.1.1;rw [mJ.out.2,c9,List.append_nil,H9.out] at h7;rw [mJ.out.1];exact ⟨h7,(HU.out.trans (Qt.ofBelow iY.out)).trans ho.2.1,ho.2.2,ho.2.1.has (HV.out.below iY.out HV.out.lt) (by decide),ho.1.2.1⟩)
       clear ho q0 q1 jJ;go_wp2
       go_roundw
       case rel=>exact ⟨k+1,by omega,by go_num,.inr mJ.out.1,HE.out.1,HE.out.2.1,HE.out.2.2.1,HE.out.2.2.2.1,HE.out.2.2.2.2⟩
       case measure=>simp [intOf] <;> omega
      |false =>
       rw [hE] at jJ;simp only [Bool.or_self] at jJ;have mJ:=aa (show bw false (a6 ⟨vw,vh,Ls,r,c,pd,au⟩)=([]++aq vw Ls k)++bP k (bw false (aL vw Lk)) from by
        obtain ⟨t,ht⟩:=cO vw Ls (show k+1<=Ls.length by rw [<-je.out];omega);obtain ⟨x,t2,hx⟩ : ∃ x t2,aL vw Lk=x :: t2:=by
         cases hq:aL vw Lk with
         | nil=>rw [hq] at hE;cases hE
         | cons x t2=>exact ⟨x,t2,rfl⟩
        unfold a6;rw [lF.out];simp only;rw [ht,a5,<-jg.out,hx,<-List.append_assoc,<-List.append_assoc,h9]
        rfl)
       clear hE h9
       go_wp2_with fail
       refine jJ.out.mono ?_;rintro e w6 ⟨rfl,ho⟩;have HE:=aa (show ec wb J w (bw false (a6 ⟨vw,vh,Ls,r,c,pd,au⟩)) w6 from by
        rw [mJ.out];exact ⟨ho.1.1,(HU.out.trans (Qt.ofBelow iY.out)).trans ho.2.1,ho.2.2⟩)
       clear ho q0 q1 jJ;go_wp2
       first | exact bodyPost_end (by kernel_rfl) rfl ⟨rfl,HE.out⟩ | exact bodyPost_ret (v:=.tuple #[]) (by simp [results,Tryd.results46,go_sem]) rfl ⟨rfl,HE.out⟩
    ·obtain rfl:k=n:=by omega
     have hv3:=HV.out.cell 3 _ rfl;have hv4:=HV.out.cell 4 _ rfl;have nx:=HV.out.cell 5 _ rfl;have hv0:=HV.out.cell 0 _ rfl;have iR:=HV.out.cell 1 _ rfl;have nr:=kE.out.cell 0 _ rfl;have mi:=aa (show a6 ⟨vw,vh,Ls,r,c,pd,au⟩=([]++aq vw Ls k)++bN ⟨vw,vh,Ls,r,c,pd,au⟩ from by
      unfold a6;rw [lF.out];simp only;rw [<-je.out])
     cases hcr:aj r c pd vw vh with
     |true =>
      have jM:=aa (mw.out wq);rw [hcr] at jM;have HF:=aa (show bw go (a6 ⟨vw,vh,Ls,r,c,pd,au⟩)=[]++aq vw Ls k from by
       rw [mi.out,show bN ⟨vw,vh,Ls,r,c,pd,au⟩=[] from by unfold bN;rw [if_pos hcr],List.append_nil]
       rcases HG.out with e | e
       ·rw [e];rfl
       ·rw [e];exact ef _)
      clear hcr nr
      go_wp2_with fail
      refine jM.out.mono ?_;rintro e w7 ⟨rfl,b7⟩;have HE:=aa (show ec wb J w (bw go (a6 ⟨vw,vh,Ls,r,c,pd,au⟩)) w7 from by
       rw [HF.out];exact ⟨HT.out.keep _ _ _ HJ.out b7,HU.out.trans (Qt.ofBelow b7),HB.out.trans (b7.mono HB.out.size)⟩)
      clear b7 hv0 iR hv3 hv4 nx jM;go_wp2;exact bodyPost_end (by kernel_rfl) rfl ⟨rfl,HE.out⟩
     |false =>
      have jM:=aa (mw.out wq);rw [hcr] at jM;have no:=aa (show bN ⟨vw,vh,Ls,r,c,pd,au⟩=[([],8)] from by unfold bN;rw [if_neg (by simp [hcr])]);have HF:=aa (show bw go (a6 ⟨vw,vh,Ls,r,c,pd,au⟩)=([]++aq vw Ls k)++[([],8)] from by
       rw [mi.out,no.out]
       rcases HG.out with e | e
       ·rw [e];rfl
       ·rw [e];exact fM)
      clear hcr nr
      go_wp2_with fail
      refine jM.out.mono ?_;rintro e w7 ⟨rfl,b7⟩;have g7:=(mC.out.below (HB.out.trans (b7.mono HB.out.size))).cell 7 (by decide);simp only [F.glob] at g7;have oC:=(kE.out.below b7 kE.out.lt).cell 0 _ rfl;have HST:=aa (HT.out.step ([]++aq vw Ls k) _ [] 8 w7 HG.out (by have:=ox.out;rw [mi.out,no.out,List.length_append] at this;simp at this ⊢;omega) (HT.out.keep _ _ _ HJ.out b7) (HB.out.trans (b7.mono HB.out.size)) (ErrT.sent (sa:=sa) 7 (by decide)));have oX:=aa (HU.out.trans (Qt.ofBelow b7));have mx:=aa (HB.out.trans (b7.mono HB.out.size));clear b7 hv0 iR hv3 hv4 nx jM
      go_wp2_with fail
      rw [ld.out,Oper.upon_enter];refine HST.out.mono ?_;rintro e w8 ⟨rfl,m7,l2⟩;have HE:=aa (show ec wb J w (bw go (a6 ⟨vw,vh,Ls,r,c,pd,au⟩)) w8 from by
       rw [HF.out];exact ⟨m7,oX.out.trans l2,bF mx.out l2⟩)
      clear m7 l2 g7 oC;go_wp2;exact bodyPost_end (by kernel_rfl) rfl ⟨rfl,HE.out⟩
  |true =>
   have ny:=aa (show da ⟨vw,vh,Ls,r,c,pd,au⟩=[([],3)] from by
    have h:=gX.out;rw [hbd] at h;unfold da;simp only;rw [if_neg];intro h2;rw [<-je.out] at h2;rw [h2.1,h2.2.1,h2.2.2] at h
    simp at h)
   replace lF:=ny;have g2:=(mC.out.below kL.out).cell 2 (by decide);simp only [F.glob] at g2;have t0:=lN.out.cell 0 _ rfl;have HST:=aa (HT.out.step [] _ [] 3 W2 (.inr rfl) (by have:=ox.out;simp;omega) HJ2.out kL.out (ErrT.sent (sa:=sa) 2 (by decide)));clear hbd ny gX mg kS
   go_wp2_with fail
   rw [ld.out,Oper.upon_enter];refine HST.out.mono ?_;rintro e w1 ⟨rfl,m3,le⟩;have lm:=aa (show J ([([],3)]++aq vw Ls 0) w1 from m3);have km:=aa ((Qt.ofBelow (wb:=wb) ii.out).trans le);have kT:=aa (bF kL.out le);have m8:=aa (le.has io.out (by decide));have oH:=aa (le.has lN.out (by decide));clear m3 le HST g2 t0
   cases go with
   |false =>
    have HF:=aa (show ec wb J w (bw false (a6 ⟨vw,vh,Ls,r,c,pd,au⟩)) w1 from by
     unfold a6;rw [lF.out];exact ⟨lm.out,km.out,kT.out⟩)
    go_wp2
    first | exact bodyPost_end (by kernel_rfl) rfl ⟨rfl,HF.out⟩ | exact bodyPost_ret (v:=.tuple #[]) (by simp [results,Tryd.results46,go_sem]) rfl ⟨rfl,HF.out⟩
   |true =>
    have l7:=aa (show True\/([([],3)]:List Fnd)++aq vw Ls 0=[] from .inl trivial)
    go_upto_region 3 with (fail)
    have q2:=m8.out.cell 2 _ rfl;go_wp2
    go_loopw [31] (fun iv wr=>∃ k:Nat,k<=n/\iv=.int .i64 k/\(True\/[([],3)]++aq vw Ls k=[])/\J ([([],3)]++aq vw Ls k) wr/\Qt wb w wr/\Below wb.heap.size wb wr/\Has wr gv [.int .i64 vw,.int .i64 vh,.slice lo n lc,.int .i64 r,.int .i64 c,.bool pd,.bool au] 26/\Has wr gt [.func (.func gf) #[] lb] 86) (fun iv _=>n - (intOf iv).toNat)
    case atStart=>exact ⟨0,Nat.zero_le _,rfl,l7.out,lm.out,km.out,kT.out,m8.out,oH.out⟩
    case round =>
     obtain ⟨k,hk,rfl,hg,hj,hu,hb,jt,m4⟩:=hrel;obtain ⟨wq,iS⟩:=ab (wr);subst iS;have HG:=aa hg;have HJ:=aa hj;have HU:=aa hu;have HB:=aa hb;have HV:=aa jt;have kE:=aa m4;clear hg hj hu hb jt m4 q2
     by_cases hlt:k<n
     ·obtain ⟨b,off,cv,eo,hb,_,hc0,hc1,hcv⟩:=jW.out k hlt;subst eo;have c0:=(HB.out.cell (p:=⟨b,off+k * 2,none⟩) hb).trans hc0;have c1:=(HB.out.cell (p:=⟨b,off+k * 2+1,none⟩) hb).trans hc1;obtain ⟨Lk,kr⟩:=ab ((Ls.getD k zl).1);obtain ⟨bk,nh⟩:=ab ((Ls.getD k zl).2);rw [<-nh] at c1;rw [<-kr] at hcv;have jg:=aa kr;have j8:=aa hcv.max;have oW:=aa (show ([([],3)]++aq vw Ls k).length+(Lk.length+1)<=N from by
       have:=HRM.out k (by rw [<-je.out];exact hlt);rw [lF.out] at this;rw [kr];exact this)
      obtain ⟨co,cc,ecv⟩:=hcv.len;obtain ⟨nk,ko⟩:=ab (Lk.length);rw [<-ko] at ecv;subst ecv;have kY:=aa hcv;have k7:(k:Int)<(n:Int):=by omega
      have lJ:IntKind.i64.wrap ((k:Int)+1)=(k:Int)+1:=by rw [IntKind.wrap_i64];omega
      have kW:k<lc:=by omega
      obtain ⟨W5,ky⟩:=ab ((wq.alloc (.cells [Value.int .i64 k].toArray 3)).alloc (.cells [Value.slice co nk cc,.bool bk].toArray 30));obtain ⟨fi,k8⟩:=ab (wq.heap.size);have gE:Below wq.heap.size wq W5:=by rw [ky];exact (af _ _).alloc (by simp) _
      have mj:Has W5 fi [.int .i64 k] 3:=by rw [ky,k8];exact (Has.new wq [.int .i64 k] _).alloc _
      have mH:Has W5 (fi+1) [.slice co nk cc,.bool bk] 30:=by
       have h:=Has.new (wq.alloc (.cells [Value.int .i64 k].toArray 3)) [.slice co nk cc,.bool bk] 30;rw [World.size_alloc] at h;rw [ky,k8];exact h
      have iI:=aa ky;have l6:=aa k8;have iY:=aa gE;have HI5:=aa mj;have oK:=aa mH;have mQ:=LineJ.tells HT.out ([([],3)]++aq vw Ls k) k gt fi (Lk.length+1) (.inl rfl) oW.out;have jJ:=aa (dv sa wb true (Lk.length+1) 81 _ _ mQ mC.out _ Lk vw W5 kY.out j8.out (HB.out.trans (gE.mono HB.out.size)) ⟨by rw [c9,List.append_nil];exact HT.out.keep _ _ _ HJ.out gE,kE.out.below gE kE.out.lt,mj⟩ (Nat.le_refl _));have lP:(wq.alloc (.cells #[Value.int .i64 k] 3)).alloc (.cells #[Value.slice co nk cc,.bool bk] 30)=W5:=iI.out.symm;have l4:=l6.out.symm;clear hc0 hc1 kr nh hcv ko hb ky k8 gE mj mH mQ
      go_upto_region 6 with (fail)
      clear lP l4;have q0:=(HV.out.below iY.out HV.out.lt).cell 0 _ rfl;have q1:=oK.out.cell 0 _ rfl;clear c0 c1;simp only [Bool.true_or] at jJ
      go_wp2_with fail
      refine jJ.out.mono ?_;rintro e w6 ⟨rfl,ho⟩;have HE:=aa (show J ([([],3)]++aq vw Ls (k+1)) w6/\Qt wb w w6/\Below wb.heap.size wb w6/\Has w6 gv [.int .i64 vw,.int .i64 vh,.slice (some ⟨b,off,none⟩) n lc,.int .i64 r,.int .i64 c,.bool pd,.bool au] 26/\Has w6 gt [.func (.func gf) #[] lb] 86 from by
       rw [a5,<-jg.out,<-List.append_assoc];exact ⟨ho.1.1,(HU.out.trans (Qt.ofBelow iY.out)).trans ho.2.1,ho.2.2,ho.2.1.has (HV.out.below iY.out HV.out.lt) (by decide),ho.1.2.1⟩)
      clear ho q0 q1 jJ;go_wp2
      go_roundw
      case rel=>exact ⟨k+1,by omega,by go_num,.inl (by first | rfl | trivial),HE.out.1,HE.out.2.1,HE.out.2.2.1,HE.out.2.2.2.1,HE.out.2.2.2.2⟩
      case measure=>simp [intOf] <;> omega
     ·obtain rfl:k=n:=by omega
      have hv3:=HV.out.cell 3 _ rfl;have hv4:=HV.out.cell 4 _ rfl;have nx:=HV.out.cell 5 _ rfl;have hv0:=HV.out.cell 0 _ rfl;have iR:=HV.out.cell 1 _ rfl;have nr:=kE.out.cell 0 _ rfl;have mi:=aa (show a6 ⟨vw,vh,Ls,r,c,pd,au⟩=([([],3)]++aq vw Ls k)++bN ⟨vw,vh,Ls,r,c,pd,au⟩ from by
       unfold a6;rw [lF.out];simp only;rw [<-je.out])
      cases hcr:aj r c pd vw vh with
      |true =>
       have jM:=aa (mw.out wq);rw [hcr] at jM;have HF:=aa (show bw true (a6 ⟨vw,vh,Ls,r,c,pd,au⟩)=[([],3)]++aq vw Ls k from by
        rw [mi.out,show bN ⟨vw,vh,Ls,r,c,pd,au⟩=[] from by unfold bN;rw [if_pos hcr],List.append_nil]
        rfl)
       clear hcr nr
       go_wp2_with fail
       refine jM.out.mono ?_;rintro e w7 ⟨rfl,b7⟩;have HE:=aa (show ec wb J w (bw true (a6 ⟨vw,vh,Ls,r,c,pd,au⟩)) w7 from by
        rw [HF.out];exact ⟨HT.out.keep _ _ _ HJ.out b7,HU.out.trans (Qt.ofBelow b7),HB.out.trans (b7.mono HB.out.size)⟩)
       clear b7 hv0 iR hv3 hv4 nx jM;go_wp2;exact bodyPost_end (by kernel_rfl) rfl ⟨rfl,HE.out⟩
      |false =>
       have jM:=aa (mw.out wq);rw [hcr] at jM;have no:=aa (show bN ⟨vw,vh,Ls,r,c,pd,au⟩=[([],8)] from by unfold bN;rw [if_neg (by simp [hcr])]);have HF:=aa (show bw true (a6 ⟨vw,vh,Ls,r,c,pd,au⟩)=([([],3)]++aq vw Ls k)++[([],8)] from by
        rw [mi.out,no.out]
        rfl)
       clear hcr nr
       go_wp2_with fail
       refine jM.out.mono ?_;rintro e w7 ⟨rfl,b7⟩;have g7:=(mC.out.below (HB.out.trans (b7.mono HB.out.size))).cell 7 (by decide);simp only [F.glob] at g7;have oC:=(kE.out.below b7 kE.out.lt).cell 0 _ rfl;have HST:=aa (HT.out.step ([([],3)]++aq vw Ls k) _ [] 8 w7 (.inl rfl) (by have:=ox.out;rw [mi.out,no.out,List.length_append] at this;simp at this ⊢;omega) (HT.out.keep _ _ _ HJ.out b7) (HB.out.trans (b7.mono HB.out.size)) (ErrT.sent (sa:=sa) 7 (by decide)));have oX:=aa (HU.out.trans (Qt.ofBelow b7));have mx:=aa (HB.out.trans (b7.mono HB.out.size));clear b7 hv0 iR hv3 hv4 nx jM
       go_wp2_with fail
       rw [ld.out,Oper.upon_enter];refine HST.out.mono ?_;rintro e w8 ⟨rfl,m7,l2⟩;have HE:=aa (show ec wb J w (bw true (a6 ⟨vw,vh,Ls,r,c,pd,au⟩)) w8 from by
        rw [HF.out];exact ⟨m7,oX.out.trans l2,bF mx.out l2⟩)
       clear m7 l2 g7 oC;go_wp2;exact bodyPost_end (by kernel_rfl) rfl ⟨rfl,HE.out⟩
end Go.Proofs.YthdphijabffpiaaDoor
