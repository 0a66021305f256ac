import Derived.Test.YtechjomepdahiaaDoorZ0
import Derived.Test.YtechjomepdahiaaDoorAudC
set_option maxRecDepth 100000
set_option linter.unusedVariables false
set_option linter.unusedSimpArgs false
set_option maxHeartbeats 3000000
namespace Go.Proofs.YtechjomepdahiaaDoor
open Go.RowKit Go.ChangeShapes Go.WideShapes
theorem ef(w:Int)(Ls:List Ln){k n:Nat}(h:k<=n):∃ t,aw w Ls n=aw w Ls k++t:=by
 induction n with
 |zero =>
  obtain rfl:k=0:=by omega
  exact ⟨[],by simp⟩
 |succ n ih =>
  by_cases hk:k=n+1
  ·subst hk;exact ⟨[],by simp⟩
  ·obtain ⟨t,ht⟩:=ih (by omega);exact ⟨t++cP n (aO w (Ls.getD n zl).1),by rw [bm,ht,List.append_assoc]⟩
def bo(v:Vw)(lv:Value):Value:=.agg #[.int .i64 v.w,.int .i64 v.h,lv,.int .i64 v.r,.int .i64 v.c,.bool v.pd,.bool v.au]
def ch(v:Vw)(lv:Value):List Value:=[.int .i64 v.w,.int .i64 v.h,lv,.int .i64 v.r,.int .i64 v.c,.bool v.pd,.bool v.au]
def ViewAt(wb:World)(v:Vw)(lv:Value):Prop:=HeldE lineE (fun _=>True) wb lv v.L /\ -9223372036854775808<=v.w/\v.w<=9223372036854775807 /\ -9223372036854775808<=v.h/\v.h<=9223372036854775807
def kW(v:Vw)(N:Nat):Prop:=∀ i,i<v.L.length->(eF v++aw v.w v.L i).length+((v.L.getD i zl).1.length+1)<=N
theorem ig(sa:Nat->Addr)(wb:World)(go:Bool)(N:Nat)(gf:Nat)(lb:Array Value)(J:List Fnd->World->Prop)(hT:Tells sa wb go N gf lb J)(hs:Five wb sa)(v:Vw)(lv:Value)(w:World)(hv:ViewAt wb v lv)
  (hw:Below wb.heap.size wb w) (hJ:J [] w) (hN:(bp v).length+1<=N) (hR:kW v N) :
  Calls Tryd.prog 99 #[bo v lv,.func (.func gf) #[] lb] w (fun e w'=>e=.returned (.tuple #[])/\gu wb J w (cm go (bp v)) w'):=by
 obtain ⟨vw,vh,Ls,r,c,pd,au⟩:=v;obtain ⟨nH,w0,w1,h0,h1⟩:=hv;simp only at nH w0 w1 h0 h1;have uI:=nH.max;unfold bo;simp only;obtain ⟨lo,lc,rfl⟩:=nH.len;have hlc:=(aU nH).2.1;have qO:=aa (aU nH).2.2;have HT:=aa hT;have qo:=aa hT.enter;have tl:=aa hs;have HRM:=aa hR;have pk:=aa hN;have rj:=trivial;have pX:=aa (fun (w':World)=>fs vw w');have ou:=aa (fun (w':World)=>fs vh w');have tf:=aa (fun (w':World)=>iw r c pd vw vh w');obtain ⟨n,hn⟩:=ab (Ls.length);have mP:=aa hn;rw [<-hn] at hlc uI qO ⊢;obtain ⟨W2,hW2⟩:=ab ((w.alloc (.cells [Value.int .i64 vw,.int .i64 vh,.slice lo n lc,.int .i64 r,.int .i64 c,.bool pd,.bool au].toArray 44)).alloc (.cells [Value.func (.func gf) #[] lb].toArray 153));obtain ⟨gv,m8⟩:=ab (w.heap.size);obtain ⟨gt,wE⟩:=ab (w.heap.size+1);have hb2:Below w.heap.size w W2:=by rw [hW2];exact (lD _ _).alloc (by simp) _
 have hv2:Has W2 gv [.int .i64 vw,.int .i64 vh,.slice lo n lc,.int .i64 r,.int .i64 c,.bool pd,.bool au] 44:=by rw [hW2,m8];exact (Has.new w _ _).alloc _
 have ua:Has W2 gt [.func (.func gf) #[] lb] 153:=by
  have h:=Has.new (w.alloc (.cells [Value.int .i64 vw,.int .i64 vh,.slice lo n lc,.int .i64 r,.int .i64 c,.bool pd,.bool au].toArray 44)) [Value.func (.func gf) #[] lb] 153;rw [World.size_alloc] at h;rw [hW2,wE];exact h
 have ub:=aa hv2;have qm:=aa ua;have l2:=aa hb2;have HJ2:=aa (hT.keep _ _ _ hJ hb2);have vt:=aa (hw.trans (hb2.mono hw.size));have oq:=aa (show w.heap.size<=gv by omega);have sG:=aa (show w.heap.size<=gt by omega);have sK:=aa hW2;have vm:=aa (And.intro m8 wE);clear hW2 hb2 hv2 ua hJ hw hT hs nH hn hR hN m8 wE;obtain ⟨bad,mt⟩ : ∃ bad,bad = !(aA vw && aA vh && (vh == (n:Int))):=⟨_,rfl⟩;have lQ:=aa mt;clear mt;have qv:(w.alloc (.cells #[Value.int .i64 vw,.int .i64 vh,.slice lo n lc,.int .i64 r,.int .i64 c,.bool pd,.bool au] 44)).alloc (.cells #[Value.func (.func gf) #[] lb] 153)=W2:=sK.out.symm
 go_enter Tryd.func99,Tryd.ntmps99
 go_upto_region 1 with (fail)
 rw [<-vm.out.2,<-vm.out.1];clear qv
 go_cut [23] from 6 to 23 (fun tv wx=>tv=.bool bad/\wx=W2)
 case first =>
  have q0:=ub.out.cell 0 _ rfl;have q1:=ub.out.cell 1 _ rfl;have q2:=ub.out.cell 2 _ rfl
  cases hs1:aA vw with
  |false =>
   rw [hs1] at pX lQ;have mm:=aa (show bad=true from by rw [lQ.out];rfl);clear hs1
   go_wp2_with fail
   refine (pX.out _).mono ?_;rintro e w' ⟨rfl,rfl⟩
   go_wp2_with fail
   go_meet;exact ⟨by rw [mm.out],rfl⟩
  |true =>
   rw [hs1] at pX lQ
   cases hs2:aA vh with
   |false =>
    rw [hs2] at ou lQ;have mm:=aa (show bad=true from by rw [lQ.out];rfl);clear hs1 hs2
    go_wp2_with fail
    refine (pX.out _).mono ?_;rintro e w' ⟨rfl,rfl⟩
    go_wp2_with fail
    refine (ou.out _).mono ?_;rintro e w' ⟨rfl,rfl⟩
    go_wp2_with fail
    go_meet;exact ⟨by rw [mm.out],rfl⟩
   |true =>
    rw [hs2] at ou lQ;have mm:=aa (show bad=(vh != (n:Int)) from by rw [lQ.out];simp [bne]);clear hs1 hs2
    go_wp2_with fail
    refine (pX.out _).mono ?_;rintro e w' ⟨rfl,rfl⟩
    go_wp2_with fail
    refine (ou.out _).mono ?_;rintro e w' ⟨rfl,rfl⟩
    go_wp2_with fail
    go_meet;exact ⟨by rw [mm.out],rfl⟩
 case rest =>
  obtain ⟨rfl,hwc⟩:=hcut;subst wc
  cases mI:bad with
  |false =>
   have uk:=aa (show eF ⟨vw,vh,Ls,r,c,pd,au⟩=[] from by
    have h:=lQ.out;rw [mI] at h;unfold eF;simp only;rw [if_pos];have h2:(aA vw && aA vh && (vh == (n:Int)))=true:=by simpa using h.symm
    rw [Bool.and_eq_true,Bool.and_eq_true,beq_iff_eq] at h2;rw [<-mP.out];exact ⟨h2.1.1,h2.1.2,h2.2⟩)
   replace rj:=uk;have qz:=aa (show J ([]++aw vw Ls 0) W2 from HJ2.out);have m0:=aa (show go=true\/([]:List Fnd)++aw vw Ls 0=[] from .inr rfl);have oE:=aa (Qt.ofBelow (wb:=wb) l2.out);have pZ:=vt;have t7:=ub;have wA:=qm;clear mI uk lQ pX ou
   go_upto_region 3 with (fail)
   have q2:=t7.out.cell 2 _ rfl;go_wp2
   go_loopw [31] (fun iv wr=>∃ k:Nat,k<=n/\iv=.int .i64 k/\(go=true\/[]++aw vw Ls k=[])/\J ([]++aw vw Ls k) wr/\Qt wb w wr/\Below wb.heap.size wb wr/\Has wr gv [.int .i64 vw,.int .i64 vh,.slice lo n lc,.int .i64 r,.int .i64 c,.bool pd,.bool au] 44/\Has wr gt [.func (.func gf) #[] lb] 153) (fun iv _=>n - (intOf iv).toNat)
   case atStart=>exact ⟨0,Nat.zero_le _,rfl,m0.out,qz.out,oE.out,pZ.out,t7.out,wA.out⟩
   case round =>
    obtain ⟨k,hk,rfl,hg,hj,hu,hb,pT,tL⟩:=hrel;obtain ⟨wq,ns⟩:=ab (wr);subst ns;have HG:=aa hg;have HJ:=aa hj;have HU:=aa hu;have HB:=aa hb;have HV:=aa pT;have pI:=aa tL;clear hg hj hu hb pT tL q2
    by_cases hlt:k<n
    ·obtain ⟨b,off,cv,eo,hb,_,hc0,hc1,hcv⟩:=qO.out k hlt;subst eo;have c0:=(HB.out.cell (p:=⟨b,off+k * 2,none⟩) hb).trans hc0;have c1:=(HB.out.cell (p:=⟨b,off+k * 2+1,none⟩) hb).trans hc1;obtain ⟨Lk,pn⟩:=ab ((Ls.getD k zl).1);obtain ⟨bk,tF⟩:=ab ((Ls.getD k zl).2);rw [<-tF] at c1;rw [<-pn] at hcv;have uM:=aa pn;have rM:=aa hcv.max;have vY:=aa (show ([]++aw vw Ls k).length+(Lk.length+1)<=N from by
      have:=HRM.out k (by rw [<-mP.out];exact hlt);rw [rj.out] at this;rw [pn];exact this)
     obtain ⟨co,cc,ecv⟩:=hcv.len;obtain ⟨nk,pj⟩:=ab (Lk.length);rw [<-pj] at ecv;subst ecv;have tr:=aa hcv;have qL:(k:Int)<(n:Int):=by omega
     have pL:IntKind.i64.wrap ((k:Int)+1)=(k:Int)+1:=by rw [IntKind.wrap_i64];omega
     have sH:k<lc:=by omega
     obtain ⟨W5,pH⟩:=ab ((wq.alloc (.cells [Value.int .i64 k].toArray 3)).alloc (.cells [Value.slice co nk cc,.bool bk].toArray 69));obtain ⟨fi,qg⟩:=ab (wq.heap.size);have l6:Below wq.heap.size wq W5:=by rw [pH];exact (lD _ _).alloc (by simp) _
     have rU:Has W5 fi [.int .i64 k] 3:=by rw [pH,qg];exact (Has.new wq [.int .i64 k] _).alloc _
     have pP:Has W5 (fi+1) [.slice co nk cc,.bool bk] 69:=by
      have h:=Has.new (wq.alloc (.cells [Value.int .i64 k].toArray 3)) [.slice co nk cc,.bool bk] 69;rw [World.size_alloc] at h;rw [pH,qg];exact h
     have vL:=aa pH;have rO:=aa qg;have nL:=aa l6;have wB:=aa rU;have uB:=aa pP;have tI:=LineJ.tells HT.out ([]++aw vw Ls k) k gt fi (Lk.length+1) HG.out vY.out;have nT:=aa (fr sa wb go (Lk.length+1) 108 _ _ tI tl.out _ Lk vw W5 tr.out rM.out (HB.out.trans (l6.mono HB.out.size)) ⟨by rw [eE,List.append_nil];exact HT.out.keep _ _ _ HJ.out l6,pI.out.below l6 pI.out.lt,rU⟩ (Nat.le_refl _));have rK:(wq.alloc (.cells #[Value.int .i64 k] 3)).alloc (.cells #[Value.slice co nk cc,.bool bk] 69)=W5:=vL.out.symm;have sk:=rO.out.symm;clear hc0 hc1 pn tF hcv pj hb pH qg l6 rU pP tI
     go_upto_region 6 with (fail)
     clear rK sk;have q0:=(HV.out.below nL.out HV.out.lt).cell 0 _ rfl;have q1:=uB.out.cell 0 _ rfl;clear c0 c1
     cases go with
     |true =>
      simp only [Bool.true_or] at nT
      go_wp2_with fail
      refine nT.out.mono ?_;rintro e w6 ⟨rfl,ho⟩;have HE:=aa (show J ([]++aw vw Ls (k+1)) w6/\Qt wb w w6/\Below wb.heap.size wb w6/\Has w6 gv [.int .i64 vw,.int .i64 vh,.slice (some ⟨b,off,none⟩) n lc,.int .i64 r,.int .i64 c,.bool pd,.bool au] 44/\Has w6 gt [.func (.func gf) #[] lb] 153 from by
       rw [bm,<-uM.out,<-List.append_assoc];exact ⟨ho.1.1,(HU.out.trans (Qt.ofBelow nL.out)).trans ho.2.1,ho.2.2,ho.2.1.has (HV.out.below nL.out HV.out.lt) (by decide),ho.1.2.1⟩)
      clear ho q0 q1 nT;go_wp2
      go_roundw
      case rel=>exact ⟨k+1,by omega,by go_num,.inl (by first | rfl | trivial),HE.out.1,HE.out.2.1,HE.out.2.2.1,HE.out.2.2.2.1,HE.out.2.2.2.2⟩
      case measure=>simp [intOf] <;> omega
     |false =>
      have h9:[]++aw vw Ls k=[]:=HG.out.resolve_left (by decide)
      cases hE:(aO vw Lk).isEmpty with
      |true =>
       rw [hE] at nT;simp only [Bool.or_true] at nT;have h8:aO vw Lk=[]:=List.isEmpty_iff.1 hE;have uH:=aa (show []++aw vw Ls (k+1)=[]/\cm false (aO vw Lk)=[] from by
        rw [bm,<-uM.out,<-List.append_assoc,h9,h8];exact ⟨rfl,rfl⟩)
       have H9:=aa h9;clear hE h8 h9
       go_wp2_with fail
       refine nT.out.mono ?_;rintro e w6 ⟨rfl,ho⟩;have HE:=aa (show J ([]++aw vw Ls (k+1)) w6/\Qt wb w w6/\Below wb.heap.size wb w6/\Has w6 gv [.int .i64 vw,.int .i64 vh,.slice (some ⟨b,off,none⟩) n lc,.int .i64 r,.int .i64 c,.bool pd,.bool au] 44/\Has w6 gt [.func (.func gf) #[] lb] 153 from by
        have h7:=ho.1.1;rw [uH.out.2,eE,List.append_nil,H9.out] at h7;rw [uH.out.1];exact ⟨h7,(HU.out.trans (Qt.ofBelow nL.out)).trans ho.2.1,ho.2.2,ho.2.1.has (HV.out.below nL.out HV.out.lt) (by decide),ho.1.2.1⟩)
       clear ho q0 q1 nT;go_wp2
       go_roundw
       case rel=>exact ⟨k+1,by omega,by go_num,.inr uH.out.1,HE.out.1,HE.out.2.1,HE.out.2.2.1,HE.out.2.2.2.1,HE.out.2.2.2.2⟩
       case measure=>simp [intOf] <;> omega
      |false =>
       rw [hE] at nT;simp only [Bool.or_self] at nT;have uH:=aa (show cm false (bp ⟨vw,vh,Ls,r,c,pd,au⟩)=([]++aw vw Ls k)++cP k (cm false (aO vw Lk)) from by
        obtain ⟨t,ht⟩:=ef vw Ls (show k+1<=Ls.length by rw [<-mP.out];omega);obtain ⟨x,t2,hx⟩ : ∃ x t2,aO vw Lk=x :: t2:=by
         cases hq:aO vw Lk with
         | nil=>rw [hq] at hE;cases hE
         | cons x t2=>exact ⟨x,t2,rfl⟩
        unfold bp;rw [rj.out];simp only;rw [ht,bm,<-uM.out,hx,<-List.append_assoc,<-List.append_assoc,h9]
        rfl)
       clear hE h9
       go_wp2_with fail
       refine nT.out.mono ?_;rintro e w6 ⟨rfl,ho⟩;have HE:=aa (show gu wb J w (cm false (bp ⟨vw,vh,Ls,r,c,pd,au⟩)) w6 from by
        rw [uH.out];exact ⟨ho.1.1,(HU.out.trans (Qt.ofBelow nL.out)).trans ho.2.1,ho.2.2⟩)
       clear ho q0 q1 nT;go_wp2
       first | exact bodyPost_end (by kernel_rfl) rfl ⟨rfl,HE.out⟩ | exact bodyPost_ret (v:=.tuple #[]) (by simp [results,Tryd.results99,go_sem]) rfl ⟨rfl,HE.out⟩
    ·obtain rfl:k=n:=by omega
     have hv3:=HV.out.cell 3 _ rfl;have hv4:=HV.out.cell 4 _ rfl;have qb:=HV.out.cell 5 _ rfl;have hv0:=HV.out.cell 0 _ rfl;have mA:=HV.out.cell 1 _ rfl;have tN:=pI.out.cell 0 _ rfl;have rD:=aa (show bp ⟨vw,vh,Ls,r,c,pd,au⟩=([]++aw vw Ls k)++cM ⟨vw,vh,Ls,r,c,pd,au⟩ from by
      unfold bp;rw [rj.out];simp only;rw [<-mP.out])
     cases hcr:ap r c pd vw vh with
     |true =>
      have oA:=aa (tf.out wq);rw [hcr] at oA;have HF:=aa (show cm go (bp ⟨vw,vh,Ls,r,c,pd,au⟩)=[]++aw vw Ls k from by
       rw [rD.out,show cM ⟨vw,vh,Ls,r,c,pd,au⟩=[] from by unfold cM;rw [if_pos hcr],List.append_nil]
       rcases HG.out with e | e
       ·rw [e];rfl
       ·rw [e];exact gy _)
      clear hcr tN
      go_wp2_with fail
      refine oA.out.mono ?_;rintro e w7 ⟨rfl,b7⟩;have HE:=aa (show gu wb J w (cm go (bp ⟨vw,vh,Ls,r,c,pd,au⟩)) w7 from by
       rw [HF.out];exact ⟨HT.out.keep _ _ _ HJ.out b7,HU.out.trans (Qt.ofBelow b7),HB.out.trans (b7.mono HB.out.size)⟩)
      clear b7 hv0 mA hv3 hv4 qb oA;go_wp2;exact bodyPost_end (by kernel_rfl) rfl ⟨rfl,HE.out⟩
     |false =>
      have oA:=aa (tf.out wq);rw [hcr] at oA;have uJ:=aa (show cM ⟨vw,vh,Ls,r,c,pd,au⟩=[([],8)] from by unfold cM;rw [if_neg (by simp [hcr])]);have HF:=aa (show cm go (bp ⟨vw,vh,Ls,r,c,pd,au⟩)=([]++aw vw Ls k)++[([],8)] from by
       rw [rD.out,uJ.out]
       rcases HG.out with e | e
       ·rw [e];rfl
       ·rw [e];exact j0)
      clear hcr tN
      go_wp2_with fail
      refine oA.out.mono ?_;rintro e w7 ⟨rfl,b7⟩;have g7:=(tl.out.below (HB.out.trans (b7.mono HB.out.size))).cell 7 (by decide);simp only [F.glob] at g7;have vU:=(pI.out.below b7 pI.out.lt).cell 0 _ rfl;have HST:=aa (HT.out.step ([]++aw vw Ls k) _ [] 8 w7 HG.out (by have:=pk.out;rw [rD.out,uJ.out,List.length_append] at this;simp at this ⊢;omega) (HT.out.keep _ _ _ HJ.out b7) (HB.out.trans (b7.mono HB.out.size)) (ErrT.sent (sa:=sa) 7 (by decide)));have qi:=aa (HU.out.trans (Qt.ofBelow b7));have qN:=aa (HB.out.trans (b7.mono HB.out.size));clear b7 hv0 mA hv3 hv4 qb oA
      go_wp2_with fail
      rw [qo.out,Oper.upon_enter];refine HST.out.mono ?_;rintro e w8 ⟨rfl,us,rs⟩;have HE:=aa (show gu wb J w (cm go (bp ⟨vw,vh,Ls,r,c,pd,au⟩)) w8 from by
       rw [HF.out];exact ⟨us,qi.out.trans rs,cu qN.out rs⟩)
      clear us rs g7 vU;go_wp2;exact bodyPost_end (by kernel_rfl) rfl ⟨rfl,HE.out⟩
  |true =>
   have uk:=aa (show eF ⟨vw,vh,Ls,r,c,pd,au⟩=[([],3)] from by
    have h:=lQ.out;rw [mI] at h;unfold eF;simp only;rw [if_neg];intro h2;rw [<-mP.out] at h2;rw [h2.1,h2.2.1,h2.2.2] at h
    simp at h)
   replace rj:=uk;have g2:=(tl.out.below vt.out).cell 2 (by decide);simp only [F.glob] at g2;have t0:=qm.out.cell 0 _ rfl;have HST:=aa (HT.out.step [] _ [] 3 W2 (.inr rfl) (by have:=pk.out;simp;omega) HJ2.out vt.out (ErrT.sent (sa:=sa) 2 (by decide)));clear mI uk lQ pX ou
   go_wp2_with fail
   rw [qo.out,Oper.upon_enter];refine HST.out.mono ?_;rintro e w1 ⟨rfl,tH,qP⟩;have qz:=aa (show J ([([],3)]++aw vw Ls 0) w1 from tH);have oE:=aa ((Qt.ofBelow (wb:=wb) l2.out).trans qP);have pZ:=aa (cu vt.out qP);have t7:=aa (qP.has ub.out (by decide));have wA:=aa (qP.has qm.out (by decide));clear tH qP HST g2 t0
   cases go with
   |false =>
    have HF:=aa (show gu wb J w (cm false (bp ⟨vw,vh,Ls,r,c,pd,au⟩)) w1 from by
     unfold bp;rw [rj.out];exact ⟨qz.out,oE.out,pZ.out⟩)
    go_wp2
    first | exact bodyPost_end (by kernel_rfl) rfl ⟨rfl,HF.out⟩ | exact bodyPost_ret (v:=.tuple #[]) (by simp [results,Tryd.results99,go_sem]) rfl ⟨rfl,HF.out⟩
   |true =>
    have m0:=aa (show True\/([([],3)]:List Fnd)++aw vw Ls 0=[] from .inl trivial)
    go_upto_region 3 with (fail)
    have q2:=t7.out.cell 2 _ rfl;go_wp2
    go_loopw [31] (fun iv wr=>∃ k:Nat,k<=n/\iv=.int .i64 k/\(True\/[([],3)]++aw vw Ls k=[])/\J ([([],3)]++aw vw Ls k) wr/\Qt wb w wr/\Below wb.heap.size wb wr/\Has wr gv [.int .i64 vw,.int .i64 vh,.slice lo n lc,.int .i64 r,.int .i64 c,.bool pd,.bool au] 44/\Has wr gt [.func (.func gf) #[] lb] 153) (fun iv _=>n - (intOf iv).toNat)
    case atStart=>exact ⟨0,Nat.zero_le _,rfl,m0.out,qz.out,oE.out,pZ.out,t7.out,wA.out⟩
    case round =>
     obtain ⟨k,hk,rfl,hg,hj,hu,hb,pT,tL⟩:=hrel;obtain ⟨wq,ns⟩:=ab (wr);subst ns;have HG:=aa hg;have HJ:=aa hj;have HU:=aa hu;have HB:=aa hb;have HV:=aa pT;have pI:=aa tL;clear hg hj hu hb pT tL q2
     by_cases hlt:k<n
     ·obtain ⟨b,off,cv,eo,hb,_,hc0,hc1,hcv⟩:=qO.out k hlt;subst eo;have c0:=(HB.out.cell (p:=⟨b,off+k * 2,none⟩) hb).trans hc0;have c1:=(HB.out.cell (p:=⟨b,off+k * 2+1,none⟩) hb).trans hc1;obtain ⟨Lk,pn⟩:=ab ((Ls.getD k zl).1);obtain ⟨bk,tF⟩:=ab ((Ls.getD k zl).2);rw [<-tF] at c1;rw [<-pn] at hcv;have uM:=aa pn;have rM:=aa hcv.max;have vY:=aa (show ([([],3)]++aw vw Ls k).length+(Lk.length+1)<=N from by
       have:=HRM.out k (by rw [<-mP.out];exact hlt);rw [rj.out] at this;rw [pn];exact this)
      obtain ⟨co,cc,ecv⟩:=hcv.len;obtain ⟨nk,pj⟩:=ab (Lk.length);rw [<-pj] at ecv;subst ecv;have tr:=aa hcv;have qL:(k:Int)<(n:Int):=by omega
      have pL:IntKind.i64.wrap ((k:Int)+1)=(k:Int)+1:=by rw [IntKind.wrap_i64];omega
      have sH:k<lc:=by omega
      obtain ⟨W5,pH⟩:=ab ((wq.alloc (.cells [Value.int .i64 k].toArray 3)).alloc (.cells [Value.slice co nk cc,.bool bk].toArray 69));obtain ⟨fi,qg⟩:=ab (wq.heap.size);have l6:Below wq.heap.size wq W5:=by rw [pH];exact (lD _ _).alloc (by simp) _
      have rU:Has W5 fi [.int .i64 k] 3:=by rw [pH,qg];exact (Has.new wq [.int .i64 k] _).alloc _
      have pP:Has W5 (fi+1) [.slice co nk cc,.bool bk] 69:=by
       have h:=Has.new (wq.alloc (.cells [Value.int .i64 k].toArray 3)) [.slice co nk cc,.bool bk] 69;rw [World.size_alloc] at h;rw [pH,qg];exact h
      have vL:=aa pH;have rO:=aa qg;have nL:=aa l6;have wB:=aa rU;have uB:=aa pP;have tI:=LineJ.tells HT.out ([([],3)]++aw vw Ls k) k gt fi (Lk.length+1) (.inl rfl) vY.out;have nT:=aa (fr sa wb true (Lk.length+1) 108 _ _ tI tl.out _ Lk vw W5 tr.out rM.out (HB.out.trans (l6.mono HB.out.size)) ⟨by rw [eE,List.append_nil];exact HT.out.keep _ _ _ HJ.out l6,pI.out.below l6 pI.out.lt,rU⟩ (Nat.le_refl _));have rK:(wq.alloc (.cells #[Value.int .i64 k] 3)).alloc (.cells #[Value.slice co nk cc,.bool bk] 69)=W5:=vL.out.symm;have sk:=rO.out.symm;clear hc0 hc1 pn tF hcv pj hb pH qg l6 rU pP tI
      go_upto_region 6 with (fail)
      clear rK sk;have q0:=(HV.out.below nL.out HV.out.lt).cell 0 _ rfl;have q1:=uB.out.cell 0 _ rfl;clear c0 c1;simp only [Bool.true_or] at nT
      go_wp2_with fail
      refine nT.out.mono ?_;rintro e w6 ⟨rfl,ho⟩;have HE:=aa (show J ([([],3)]++aw vw Ls (k+1)) w6/\Qt wb w w6/\Below wb.heap.size wb w6/\Has w6 gv [.int .i64 vw,.int .i64 vh,.slice (some ⟨b,off,none⟩) n lc,.int .i64 r,.int .i64 c,.bool pd,.bool au] 44/\Has w6 gt [.func (.func gf) #[] lb] 153 from by
       rw [bm,<-uM.out,<-List.append_assoc];exact ⟨ho.1.1,(HU.out.trans (Qt.ofBelow nL.out)).trans ho.2.1,ho.2.2,ho.2.1.has (HV.out.below nL.out HV.out.lt) (by decide),ho.1.2.1⟩)
      clear ho q0 q1 nT;go_wp2
      go_roundw
      case rel=>exact ⟨k+1,by omega,by go_num,.inl (by first | rfl | trivial),HE.out.1,HE.out.2.1,HE.out.2.2.1,HE.out.2.2.2.1,HE.out.2.2.2.2⟩
      case measure=>simp [intOf] <;> omega
     ·obtain rfl:k=n:=by omega
      have hv3:=HV.out.cell 3 _ rfl;have hv4:=HV.out.cell 4 _ rfl;have qb:=HV.out.cell 5 _ rfl;have hv0:=HV.out.cell 0 _ rfl;have mA:=HV.out.cell 1 _ rfl;have tN:=pI.out.cell 0 _ rfl;have rD:=aa (show bp ⟨vw,vh,Ls,r,c,pd,au⟩=([([],3)]++aw vw Ls k)++cM ⟨vw,vh,Ls,r,c,pd,au⟩ from by
       unfold bp;rw [rj.out];simp only;rw [<-mP.out])
      cases hcr:ap r c pd vw vh with
      |true =>
       have oA:=aa (tf.out wq);rw [hcr] at oA;have HF:=aa (show cm true (bp ⟨vw,vh,Ls,r,c,pd,au⟩)=[([],3)]++aw vw Ls k from by
        rw [rD.out,show cM ⟨vw,vh,Ls,r,c,pd,au⟩=[] from by unfold cM;rw [if_pos hcr],List.append_nil]
        rfl)
       clear hcr tN
       go_wp2_with fail
       refine oA.out.mono ?_;rintro e w7 ⟨rfl,b7⟩;have HE:=aa (show gu wb J w (cm true (bp ⟨vw,vh,Ls,r,c,pd,au⟩)) w7 from by
        rw [HF.out];exact ⟨HT.out.keep _ _ _ HJ.out b7,HU.out.trans (Qt.ofBelow b7),HB.out.trans (b7.mono HB.out.size)⟩)
       clear b7 hv0 mA hv3 hv4 qb oA;go_wp2;exact bodyPost_end (by kernel_rfl) rfl ⟨rfl,HE.out⟩
      |false =>
       have oA:=aa (tf.out wq);rw [hcr] at oA;have uJ:=aa (show cM ⟨vw,vh,Ls,r,c,pd,au⟩=[([],8)] from by unfold cM;rw [if_neg (by simp [hcr])]);have HF:=aa (show cm true (bp ⟨vw,vh,Ls,r,c,pd,au⟩)=([([],3)]++aw vw Ls k)++[([],8)] from by
        rw [rD.out,uJ.out]
        rfl)
       clear hcr tN
       go_wp2_with fail
       refine oA.out.mono ?_;rintro e w7 ⟨rfl,b7⟩;have g7:=(tl.out.below (HB.out.trans (b7.mono HB.out.size))).cell 7 (by decide);simp only [F.glob] at g7;have vU:=(pI.out.below b7 pI.out.lt).cell 0 _ rfl;have HST:=aa (HT.out.step ([([],3)]++aw vw Ls k) _ [] 8 w7 (.inl rfl) (by have:=pk.out;rw [rD.out,uJ.out,List.length_append] at this;simp at this ⊢;omega) (HT.out.keep _ _ _ HJ.out b7) (HB.out.trans (b7.mono HB.out.size)) (ErrT.sent (sa:=sa) 7 (by decide)));have qi:=aa (HU.out.trans (Qt.ofBelow b7));have qN:=aa (HB.out.trans (b7.mono HB.out.size));clear b7 hv0 mA hv3 hv4 qb oA
       go_wp2_with fail
       rw [qo.out,Oper.upon_enter];refine HST.out.mono ?_;rintro e w8 ⟨rfl,us,rs⟩;have HE:=aa (show gu wb J w (cm true (bp ⟨vw,vh,Ls,r,c,pd,au⟩)) w8 from by
        rw [HF.out];exact ⟨us,qi.out.trans rs,cu qN.out rs⟩)
       clear us rs g7 vU;go_wp2;exact bodyPost_end (by kernel_rfl) rfl ⟨rfl,HE.out⟩
end Go.Proofs.YtechjomepdahiaaDoor
