import Derived.Test.YtechjomepdahiaaDoorZ0
import Derived.Test.YtechjomepdahiaaDoorAudC
set_option maxRecDepth 100000
set_option linter.unusedVariables false
set_option linter.unusedSimpArgs false
set_option maxHeartbeats 3000000
namespace Go.Proofs.YtechjomepdahiaaDoor
open Go.RowKit Go.ChangeShapes Go.WideShapes
theorem er(w:Int)(Ls:List Ln){k n:Nat}(h:k<=n):∃ t,ax w Ls n=ax w Ls k++t:=by
 induction n with
 |zero =>
  obtain rfl:k=0:=by omega
  exact ⟨[],by simp⟩
 |succ n ih =>
  by_cases hk:k=n+1
  ·subst hk;exact ⟨[],by simp⟩
  ·obtain ⟨t,ht⟩:=ih (by omega);exact ⟨t++cU n (aO w (Ls.getD n zl).1),by rw [bn,ht,List.append_assoc]⟩
def aZ(v:Vw)(lv:Value):Value:=.agg #[.int .i64 v.w,.int .i64 v.h,lv,.int .i64 v.r,.int .i64 v.c,.bool v.pd,.bool v.au]
def cl(v:Vw)(lv:Value):List Value:=[.int .i64 v.w,.int .i64 v.h,lv,.int .i64 v.r,.int .i64 v.c,.bool v.pd,.bool v.au]
def ViewAt(wb:World)(v:Vw)(lv:Value):Prop:=HeldE lineE (fun _=>True) wb lv v.L /\ -9223372036854775808<=v.w/\v.w<=9223372036854775807 /\ -9223372036854775808<=v.h/\v.h<=9223372036854775807
def lC(v:Vw)(N:Nat):Prop:=∀ i,i<v.L.length->(eN v++ax v.w v.L i).length+((v.L.getD i zl).1.length+1)<=N
theorem iE(sa:Nat->Addr)(wb:World)(go:Bool)(N:Nat)(gf:Nat)(lb:Array Value)(J:List Fnd->World->Prop)(hT:Tells sa wb go N gf lb J)(hs:Five wb sa)(v:Vw)(lv:Value)(w:World)(hv:ViewAt wb v lv)
  (hw:Below wb.heap.size wb w) (hJ:J [] w) (hN:(bs v).length+1<=N) (hR:lC v N) :
  Calls Tryd.prog 99 #[aZ v lv,.func (.func gf) #[] lb] w (fun e w'=>e=.returned (.tuple #[])/\gP wb J w (cr go (bs v)) w'):=by
 obtain ⟨vw,vh,Ls,r,c,pd,au⟩:=v;obtain ⟨oo,w0,w1,h0,h1⟩:=hv;simp only at oo w0 w1 h0 h1;have vD:=oo.max;unfold aZ;simp only;obtain ⟨lo,lc,rfl⟩:=oo.len;have hlc:=(aP oo).2.1;have rx:=aa (aP oo).2.2;have HT:=aa hT;have rG:=aa hT.enter;have tR:=aa hs;have HRM:=aa hR;have p8:=aa hN;have rO:=trivial;have qT:=aa (fun (w':World)=>fG vw w');have o3:=aa (fun (w':World)=>fG vh w');have uk:=aa (fun (w':World)=>iS r c pd vw vh w');obtain ⟨n,hn⟩:=ab (Ls.length);have nS:=aa hn;rw [<-hn] at hlc vD rx ⊢;obtain ⟨W2,hW2⟩:=ab ((w.alloc (.cells [Value.int .i64 vw,.int .i64 vh,.slice lo n lc,.int .i64 r,.int .i64 c,.bool pd,.bool au].toArray 44)).alloc (.cells [Value.func (.func gf) #[] lb].toArray 153));obtain ⟨gv,oa⟩:=ab (w.heap.size);obtain ⟨gt,x8⟩:=ab (w.heap.size+1);have hb2:Below w.heap.size w W2:=by rw [hW2];exact (l7 _ _).alloc (by simp) _
 have hv2:Has W2 gv [.int .i64 vw,.int .i64 vh,.slice lo n lc,.int .i64 r,.int .i64 c,.bool pd,.bool au] 44:=by rw [hW2,oa];exact (Has.new w _ _).alloc _
 have vu:Has W2 gt [.func (.func gf) #[] lb] 153:=by
  have h:=Has.new (w.alloc (.cells [Value.int .i64 vw,.int .i64 vh,.slice lo n lc,.int .i64 r,.int .i64 c,.bool pd,.bool au].toArray 44)) [Value.func (.func gf) #[] lb] 153;rw [World.size_alloc] at h;rw [hW2,x8];exact h
 have uU:=aa hv2;have qY:=aa vu;have mV:=aa hb2;have HJ2:=aa (hT.keep _ _ _ hJ hb2);have vQ:=aa (hw.trans (hb2.mono hw.size));have pI:=aa (show w.heap.size<=gv by omega);have xp:=aa (show w.heap.size<=gt by omega);have rn:=aa hW2;have vJ:=aa (And.intro oa x8);clear hW2 hb2 hv2 vu hJ hw hT hs oo hn hR hN oa x8;obtain ⟨bad,mZ⟩ : ∃ bad,bad = !(aB vw && aB vh && (vh == (n:Int))):=⟨_,rfl⟩;have mq:=aa mZ;clear mZ;have rl:(w.alloc (.cells #[Value.int .i64 vw,.int .i64 vh,.slice lo n lc,.int .i64 r,.int .i64 c,.bool pd,.bool au] 44)).alloc (.cells #[Value.func (.func gf) #[] lb] 153)=W2:=rn.out.symm
 go_enter Tryd.func99,Tryd.ntmps99
 go_upto_region 1 with (fail)
 rw [<-vJ.out.2,<-vJ.out.1];clear rl
 go_cut [23] from 6 to 23 (fun tv wx=>tv=.bool bad/\wx=W2)
 case first =>
  have q0:=uU.out.cell 0 _ rfl;have q1:=uU.out.cell 1 _ rfl;have q2:=uU.out.cell 2 _ rfl
  cases hs1:aB vw with
  |false =>
   rw [hs1] at qT mq;have mT:=aa (show bad=true from by rw [mq.out];rfl);clear hs1
   go_wp2_with fail
   refine (qT.out _).mono ?_;rintro e w' ⟨rfl,rfl⟩
   go_wp2_with fail
   go_meet;exact ⟨by rw [mT.out],rfl⟩
  |true =>
   rw [hs1] at qT mq
   cases hs2:aB vh with
   |false =>
    rw [hs2] at o3 mq;have mT:=aa (show bad=true from by rw [mq.out];rfl);clear hs1 hs2
    go_wp2_with fail
    refine (qT.out _).mono ?_;rintro e w' ⟨rfl,rfl⟩
    go_wp2_with fail
    refine (o3.out _).mono ?_;rintro e w' ⟨rfl,rfl⟩
    go_wp2_with fail
    go_meet;exact ⟨by rw [mT.out],rfl⟩
   |true =>
    rw [hs2] at o3 mq;have mT:=aa (show bad=(vh != (n:Int)) from by rw [mq.out];simp [bne]);clear hs1 hs2
    go_wp2_with fail
    refine (qT.out _).mono ?_;rintro e w' ⟨rfl,rfl⟩
    go_wp2_with fail
    refine (o3.out _).mono ?_;rintro e w' ⟨rfl,rfl⟩
    go_wp2_with fail
    go_meet;exact ⟨by rw [mT.out],rfl⟩
 case rest =>
  obtain ⟨rfl,hwc⟩:=hcut;subst wc
  cases nx:bad with
  |false =>
   have uW:=aa (show eN ⟨vw,vh,Ls,r,c,pd,au⟩=[] from by
    have h:=mq.out;rw [nx] at h;unfold eN;simp only;rw [if_pos];have h2:(aB vw && aB vh && (vh == (n:Int)))=true:=by simpa using h.symm
    rw [Bool.and_eq_true,Bool.and_eq_true,beq_iff_eq] at h2;rw [<-nS.out];exact ⟨h2.1.1,h2.1.2,h2.2⟩)
   replace rO:=uW;have rj:=aa (show J ([]++ax vw Ls 0) W2 from HJ2.out);have nP:=aa (show go=true\/([]:List Fnd)++ax vw Ls 0=[] from .inr rfl);have pa:=aa (Qt.ofBelow (wb:=wb) mV.out);have qJ:=vQ;have vr:=uU;have yb:=qY;clear nx uW mq qT o3
   go_upto_region 3 with (fail)
   have q2:=vr.out.cell 2 _ rfl;go_wp2
   go_loopw [31] (fun iv wr=>∃ k:Nat,k<=n/\iv=.int .i64 k/\(go=true\/[]++ax vw Ls k=[])/\J ([]++ax vw Ls k) wr/\Qt wb w wr/\Below wb.heap.size wb wr/\Has wr gv [.int .i64 vw,.int .i64 vh,.slice lo n lc,.int .i64 r,.int .i64 c,.bool pd,.bool au] 44/\Has wr gt [.func (.func gf) #[] lb] 153) (fun iv _=>n - (intOf iv).toNat)
   case atStart=>exact ⟨0,Nat.zero_le _,rfl,nP.out,rj.out,pa.out,qJ.out,vr.out,yb.out⟩
   case round =>
    obtain ⟨k,hk,rfl,hg,hj,hu,hb,qI,vj⟩:=hrel;obtain ⟨wq,oe⟩:=ab (wr);subst oe;have HG:=aa hg;have HJ:=aa hj;have HU:=aa hu;have HB:=aa hb;have HV:=aa qI;have qx:=aa vj;clear hg hj hu hb qI vj q2
    by_cases hlt:k<n
    ·obtain ⟨b,off,cv,eo,hb,_,hc0,hc1,hcv⟩:=rx.out k hlt;subst eo;have c0:=(HB.out.cell (p:=⟨b,off+k * 2,none⟩) hb).trans hc0;have c1:=(HB.out.cell (p:=⟨b,off+k * 2+1,none⟩) hb).trans hc1;obtain ⟨Lk,p7⟩:=ab ((Ls.getD k zl).1);obtain ⟨bk,uw⟩:=ab ((Ls.getD k zl).2);rw [<-uw] at c1;rw [<-p7] at hcv;have vm:=aa p7;have tA:=aa hcv.max;have xU:=aa (show ([]++ax vw Ls k).length+(Lk.length+1)<=N from by
      have:=HRM.out k (by rw [<-nS.out];exact hlt);rw [rO.out] at this;rw [p7];exact this)
     obtain ⟨co,cc,ecv⟩:=hcv.len;obtain ⟨nk,p9⟩:=ab (Lk.length);rw [<-p9] at ecv;subst ecv;have t6:=aa hcv;have ry:(k:Int)<(n:Int):=by omega
     have pn:IntKind.i64.wrap ((k:Int)+1)=(k:Int)+1:=by rw [IntKind.wrap_i64];omega
     have tN:k<lc:=by omega
     obtain ⟨W5,qv⟩:=ab ((wq.alloc (.cells [Value.int .i64 k].toArray 3)).alloc (.cells [Value.slice co nk cc,.bool bk].toArray 69));obtain ⟨fi,ri⟩:=ab (wq.heap.size);have mF:Below wq.heap.size wq W5:=by rw [qv];exact (l7 _ _).alloc (by simp) _
     have sD:Has W5 fi [.int .i64 k] 3:=by rw [qv,ri];exact (Has.new wq [.int .i64 k] _).alloc _
     have pk:Has W5 (fi+1) [.slice co nk cc,.bool bk] 69:=by
      have h:=Has.new (wq.alloc (.cells [Value.int .i64 k].toArray 3)) [.slice co nk cc,.bool bk] 69;rw [World.size_alloc] at h;rw [qv,ri];exact h
     have xv:=aa qv;have sq:=aa ri;have ob:=aa mF;have xe:=aa sD;have vB:=aa pk;have vg:=LineJ.tells HT.out ([]++ax vw Ls k) k gt fi (Lk.length+1) HG.out xU.out;have oK:=aa (fF sa wb go (Lk.length+1) 108 _ _ vg tR.out _ Lk vw W5 t6.out tA.out (HB.out.trans (mF.mono HB.out.size)) ⟨by rw [eM,List.append_nil];exact HT.out.keep _ _ _ HJ.out mF,qx.out.below mF qx.out.lt,sD⟩ (Nat.le_refl _));have tq:(wq.alloc (.cells #[Value.int .i64 k] 3)).alloc (.cells #[Value.slice co nk cc,.bool bk] 69)=W5:=xv.out.symm;have sk:=sq.out.symm;clear hc0 hc1 p7 uw hcv p9 hb qv ri mF sD pk vg
     go_upto_region 6 with (fail)
     clear tq sk;have q0:=(HV.out.below ob.out HV.out.lt).cell 0 _ rfl;have q1:=vB.out.cell 0 _ rfl;clear c0 c1
     cases go with
     |true =>
      simp only [Bool.true_or] at oK
      go_wp2_with fail
      refine oK.out.mono ?_;rintro e w6 ⟨rfl,ho⟩;have HE:=aa (show J ([]++ax vw Ls (k+1)) w6/\Qt wb w w6/\Below wb.heap.size wb w6/\Has w6 gv [.int .i64 vw,.int .i64 vh,.slice (some ⟨b,off,none⟩) n lc,.int .i64 r,.int .i64 c,.bool pd,.bool au] 44/\Has w6 gt [.func (.func gf) #[] lb] 153 from by
       rw [bn,<-vm.out,<-List.append_assoc];exact ⟨ho.1.1,(HU.out.trans (Qt.ofBelow ob.out)).trans ho.2.1,ho.2.2,ho.2.1.has (HV.out.below ob.out HV.out.lt) (by decide),ho.1.2.1⟩)
      clear ho q0 q1 oK;go_wp2
      go_roundw
      case rel=>exact ⟨k+1,by omega,by go_num,.inl (by first | rfl | trivial),HE.out.1,HE.out.2.1,HE.out.2.2.1,HE.out.2.2.2.1,HE.out.2.2.2.2⟩
      case measure=>simp [intOf] <;> omega
     |false =>
      have h9:[]++ax vw Ls k=[]:=HG.out.resolve_left (by decide)
      cases hE:(aO vw Lk).isEmpty with
      |true =>
       rw [hE] at oK;simp only [Bool.or_true] at oK;have h8:aO vw Lk=[]:=List.isEmpty_iff.1 hE;have uN:=aa (show []++ax vw Ls (k+1)=[]/\cr false (aO vw Lk)=[] from by
        rw [bn,<-vm.out,<-List.append_assoc,h9,h8];exact ⟨rfl,rfl⟩)
       have H9:=aa h9;clear hE h8 h9
       go_wp2_with fail
       refine oK.out.mono ?_;rintro e w6 ⟨rfl,ho⟩;have HE:=aa (show J ([]++ax vw Ls (k+1)) w6/\Qt wb w w6/\Below wb.heap.size wb w6/\Has w6 gv [.int .i64 vw,.int .i64 vh,.slice (some ⟨b,off,none⟩) n lc,.int .i64 r,.int .i64 c,.bool pd,.bool au] 44/\Has w6 gt [.func (.func gf) #[] lb] 153 from by
        have h7:=ho.1.1;rw [uN.out.2,eM,List.append_nil,H9.out] at h7;rw [uN.out.1];exact ⟨h7,(HU.out.trans (Qt.ofBelow ob.out)).trans ho.2.1,ho.2.2,ho.2.1.has (HV.out.below ob.out HV.out.lt) (by decide),ho.1.2.1⟩)
       clear ho q0 q1 oK;go_wp2
       go_roundw
       case rel=>exact ⟨k+1,by omega,by go_num,.inr uN.out.1,HE.out.1,HE.out.2.1,HE.out.2.2.1,HE.out.2.2.2.1,HE.out.2.2.2.2⟩
       case measure=>simp [intOf] <;> omega
      |false =>
       rw [hE] at oK;simp only [Bool.or_self] at oK;have uN:=aa (show cr false (bs ⟨vw,vh,Ls,r,c,pd,au⟩)=([]++ax vw Ls k)++cU k (cr false (aO vw Lk)) from by
        obtain ⟨t,ht⟩:=er vw Ls (show k+1<=Ls.length by rw [<-nS.out];omega);obtain ⟨x,t2,hx⟩ : ∃ x t2,aO vw Lk=x :: t2:=by
         cases hq:aO vw Lk with
         | nil=>rw [hq] at hE;cases hE
         | cons x t2=>exact ⟨x,t2,rfl⟩
        unfold bs;rw [rO.out];simp only;rw [ht,bn,<-vm.out,hx,<-List.append_assoc,<-List.append_assoc,h9]
        rfl)
       clear hE h9
       go_wp2_with fail
       refine oK.out.mono ?_;rintro e w6 ⟨rfl,ho⟩;have HE:=aa (show gP wb J w (cr false (bs ⟨vw,vh,Ls,r,c,pd,au⟩)) w6 from by
        rw [uN.out];exact ⟨ho.1.1,(HU.out.trans (Qt.ofBelow ob.out)).trans ho.2.1,ho.2.2⟩)
       clear ho q0 q1 oK;go_wp2
       first | exact bodyPost_end (by kernel_rfl) rfl ⟨rfl,HE.out⟩ | exact bodyPost_ret (v:=.tuple #[]) (by simp [results,Tryd.results99,go_sem]) rfl ⟨rfl,HE.out⟩
    ·obtain rfl:k=n:=by omega
     have hv3:=HV.out.cell 3 _ rfl;have hv4:=HV.out.cell 4 _ rfl;have qH:=HV.out.cell 5 _ rfl;have hv0:=HV.out.cell 0 _ rfl;have m7:=HV.out.cell 1 _ rfl;have vb:=qx.out.cell 0 _ rfl;have sS:=aa (show bs ⟨vw,vh,Ls,r,c,pd,au⟩=([]++ax vw Ls k)++cQ ⟨vw,vh,Ls,r,c,pd,au⟩ from by
      unfold bs;rw [rO.out];simp only;rw [<-nS.out])
     cases hcr:ap r c pd vw vh with
     |true =>
      have pg:=aa (uk.out wq);rw [hcr] at pg;have HF:=aa (show cr go (bs ⟨vw,vh,Ls,r,c,pd,au⟩)=[]++ax vw Ls k from by
       rw [sS.out,show cQ ⟨vw,vh,Ls,r,c,pd,au⟩=[] from by unfold cQ;rw [if_pos hcr],List.append_nil]
       rcases HG.out with e | e
       ·rw [e];rfl
       ·rw [e];exact gS _)
      clear hcr vb
      go_wp2_with fail
      refine pg.out.mono ?_;rintro e w7 ⟨rfl,b7⟩;have HE:=aa (show gP wb J w (cr go (bs ⟨vw,vh,Ls,r,c,pd,au⟩)) w7 from by
       rw [HF.out];exact ⟨HT.out.keep _ _ _ HJ.out b7,HU.out.trans (Qt.ofBelow b7),HB.out.trans (b7.mono HB.out.size)⟩)
      clear b7 hv0 m7 hv3 hv4 qH pg;go_wp2;exact bodyPost_end (by kernel_rfl) rfl ⟨rfl,HE.out⟩
     |false =>
      have pg:=aa (uk.out wq);rw [hcr] at pg;have uP:=aa (show cQ ⟨vw,vh,Ls,r,c,pd,au⟩=[([],8)] from by unfold cQ;rw [if_neg (by simp [hcr])]);have HF:=aa (show cr go (bs ⟨vw,vh,Ls,r,c,pd,au⟩)=([]++ax vw Ls k)++[([],8)] from by
       rw [sS.out,uP.out]
       rcases HG.out with e | e
       ·rw [e];rfl
       ·rw [e];exact kq)
      clear hcr vb
      go_wp2_with fail
      refine pg.out.mono ?_;rintro e w7 ⟨rfl,b7⟩;have g7:=(tR.out.below (HB.out.trans (b7.mono HB.out.size))).cell 7 (by decide);simp only [F.glob] at g7;have yp:=(qx.out.below b7 qx.out.lt).cell 0 _ rfl;have HST:=aa (HT.out.step ([]++ax vw Ls k) _ [] 8 w7 HG.out (by have:=p8.out;rw [sS.out,uP.out,List.length_append] at this;simp at this ⊢;omega) (HT.out.keep _ _ _ HJ.out b7) (HB.out.trans (b7.mono HB.out.size)) (ErrT.sent (sa:=sa) 7 (by decide)));have ug:=aa (HU.out.trans (Qt.ofBelow b7));have qC:=aa (HB.out.trans (b7.mono HB.out.size));clear b7 hv0 m7 hv3 hv4 qH pg
      go_wp2_with fail
      rw [rG.out,Oper.upon_enter];refine HST.out.mono ?_;rintro e w8 ⟨rfl,uZ,sf⟩;have HE:=aa (show gP wb J w (cr go (bs ⟨vw,vh,Ls,r,c,pd,au⟩)) w8 from by
       rw [HF.out];exact ⟨uZ,ug.out.trans sf,cy qC.out sf⟩)
      clear uZ sf g7 yp;go_wp2;exact bodyPost_end (by kernel_rfl) rfl ⟨rfl,HE.out⟩
  |true =>
   have uW:=aa (show eN ⟨vw,vh,Ls,r,c,pd,au⟩=[([],3)] from by
    have h:=mq.out;rw [nx] at h;unfold eN;simp only;rw [if_neg];intro h2;rw [<-nS.out] at h2;rw [h2.1,h2.2.1,h2.2.2] at h
    simp at h)
   replace rO:=uW;have g2:=(tR.out.below vQ.out).cell 2 (by decide);simp only [F.glob] at g2;have t0:=qY.out.cell 0 _ rfl;have HST:=aa (HT.out.step [] _ [] 3 W2 (.inr rfl) (by have:=p8.out;simp;omega) HJ2.out vQ.out (ErrT.sent (sa:=sa) 2 (by decide)));clear nx uW mq qT o3
   go_wp2_with fail
   rw [rG.out,Oper.upon_enter];refine HST.out.mono ?_;rintro e w1 ⟨rfl,vo,rf⟩;have rj:=aa (show J ([([],3)]++ax vw Ls 0) w1 from vo);have pa:=aa ((Qt.ofBelow (wb:=wb) mV.out).trans rf);have qJ:=aa (cy vQ.out rf);have vr:=aa (rf.has uU.out (by decide));have yb:=aa (rf.has qY.out (by decide));clear vo rf HST g2 t0
   cases go with
   |false =>
    have HF:=aa (show gP wb J w (cr false (bs ⟨vw,vh,Ls,r,c,pd,au⟩)) w1 from by
     unfold bs;rw [rO.out];exact ⟨rj.out,pa.out,qJ.out⟩)
    go_wp2
    first | exact bodyPost_end (by kernel_rfl) rfl ⟨rfl,HF.out⟩ | exact bodyPost_ret (v:=.tuple #[]) (by simp [results,Tryd.results99,go_sem]) rfl ⟨rfl,HF.out⟩
   |true =>
    have nP:=aa (show True\/([([],3)]:List Fnd)++ax vw Ls 0=[] from .inl trivial)
    go_upto_region 3 with (fail)
    have q2:=vr.out.cell 2 _ rfl;go_wp2
    go_loopw [31] (fun iv wr=>∃ k:Nat,k<=n/\iv=.int .i64 k/\(True\/[([],3)]++ax vw Ls k=[])/\J ([([],3)]++ax vw Ls k) wr/\Qt wb w wr/\Below wb.heap.size wb wr/\Has wr gv [.int .i64 vw,.int .i64 vh,.slice lo n lc,.int .i64 r,.int .i64 c,.bool pd,.bool au] 44/\Has wr gt [.func (.func gf) #[] lb] 153) (fun iv _=>n - (intOf iv).toNat)
    case atStart=>exact ⟨0,Nat.zero_le _,rfl,nP.out,rj.out,pa.out,qJ.out,vr.out,yb.out⟩
    case round =>
     obtain ⟨k,hk,rfl,hg,hj,hu,hb,qI,vj⟩:=hrel;obtain ⟨wq,oe⟩:=ab (wr);subst oe;have HG:=aa hg;have HJ:=aa hj;have HU:=aa hu;have HB:=aa hb;have HV:=aa qI;have qx:=aa vj;clear hg hj hu hb qI vj q2
     by_cases hlt:k<n
     ·obtain ⟨b,off,cv,eo,hb,_,hc0,hc1,hcv⟩:=rx.out k hlt;subst eo;have c0:=(HB.out.cell (p:=⟨b,off+k * 2,none⟩) hb).trans hc0;have c1:=(HB.out.cell (p:=⟨b,off+k * 2+1,none⟩) hb).trans hc1;obtain ⟨Lk,p7⟩:=ab ((Ls.getD k zl).1);obtain ⟨bk,uw⟩:=ab ((Ls.getD k zl).2);rw [<-uw] at c1;rw [<-p7] at hcv;have vm:=aa p7;have tA:=aa hcv.max;have xU:=aa (show ([([],3)]++ax vw Ls k).length+(Lk.length+1)<=N from by
       have:=HRM.out k (by rw [<-nS.out];exact hlt);rw [rO.out] at this;rw [p7];exact this)
      obtain ⟨co,cc,ecv⟩:=hcv.len;obtain ⟨nk,p9⟩:=ab (Lk.length);rw [<-p9] at ecv;subst ecv;have t6:=aa hcv;have ry:(k:Int)<(n:Int):=by omega
      have pn:IntKind.i64.wrap ((k:Int)+1)=(k:Int)+1:=by rw [IntKind.wrap_i64];omega
      have tN:k<lc:=by omega
      obtain ⟨W5,qv⟩:=ab ((wq.alloc (.cells [Value.int .i64 k].toArray 3)).alloc (.cells [Value.slice co nk cc,.bool bk].toArray 69));obtain ⟨fi,ri⟩:=ab (wq.heap.size);have mF:Below wq.heap.size wq W5:=by rw [qv];exact (l7 _ _).alloc (by simp) _
      have sD:Has W5 fi [.int .i64 k] 3:=by rw [qv,ri];exact (Has.new wq [.int .i64 k] _).alloc _
      have pk:Has W5 (fi+1) [.slice co nk cc,.bool bk] 69:=by
       have h:=Has.new (wq.alloc (.cells [Value.int .i64 k].toArray 3)) [.slice co nk cc,.bool bk] 69;rw [World.size_alloc] at h;rw [qv,ri];exact h
      have xv:=aa qv;have sq:=aa ri;have ob:=aa mF;have xe:=aa sD;have vB:=aa pk;have vg:=LineJ.tells HT.out ([([],3)]++ax vw Ls k) k gt fi (Lk.length+1) (.inl rfl) xU.out;have oK:=aa (fF sa wb true (Lk.length+1) 108 _ _ vg tR.out _ Lk vw W5 t6.out tA.out (HB.out.trans (mF.mono HB.out.size)) ⟨by rw [eM,List.append_nil];exact HT.out.keep _ _ _ HJ.out mF,qx.out.below mF qx.out.lt,sD⟩ (Nat.le_refl _));have tq:(wq.alloc (.cells #[Value.int .i64 k] 3)).alloc (.cells #[Value.slice co nk cc,.bool bk] 69)=W5:=xv.out.symm;have sk:=sq.out.symm;clear hc0 hc1 p7 uw hcv p9 hb qv ri mF sD pk vg
      go_upto_region 6 with (fail)
      clear tq sk;have q0:=(HV.out.below ob.out HV.out.lt).cell 0 _ rfl;have q1:=vB.out.cell 0 _ rfl;clear c0 c1;simp only [Bool.true_or] at oK
      go_wp2_with fail
      refine oK.out.mono ?_;rintro e w6 ⟨rfl,ho⟩;have HE:=aa (show J ([([],3)]++ax vw Ls (k+1)) w6/\Qt wb w w6/\Below wb.heap.size wb w6/\Has w6 gv [.int .i64 vw,.int .i64 vh,.slice (some ⟨b,off,none⟩) n lc,.int .i64 r,.int .i64 c,.bool pd,.bool au] 44/\Has w6 gt [.func (.func gf) #[] lb] 153 from by
       rw [bn,<-vm.out,<-List.append_assoc];exact ⟨ho.1.1,(HU.out.trans (Qt.ofBelow ob.out)).trans ho.2.1,ho.2.2,ho.2.1.has (HV.out.below ob.out HV.out.lt) (by decide),ho.1.2.1⟩)
      clear ho q0 q1 oK;go_wp2
      go_roundw
      case rel=>exact ⟨k+1,by omega,by go_num,.inl (by first | rfl | trivial),HE.out.1,HE.out.2.1,HE.out.2.2.1,HE.out.2.2.2.1,HE.out.2.2.2.2⟩
      case measure=>simp [intOf] <;> omega
     ·obtain rfl:k=n:=by omega
      have hv3:=HV.out.cell 3 _ rfl;have hv4:=HV.out.cell 4 _ rfl;have qH:=HV.out.cell 5 _ rfl;have hv0:=HV.out.cell 0 _ rfl;have m7:=HV.out.cell 1 _ rfl;have vb:=qx.out.cell 0 _ rfl;have sS:=aa (show bs ⟨vw,vh,Ls,r,c,pd,au⟩=([([],3)]++ax vw Ls k)++cQ ⟨vw,vh,Ls,r,c,pd,au⟩ from by
       unfold bs;rw [rO.out];simp only;rw [<-nS.out])
      cases hcr:ap r c pd vw vh with
      |true =>
       have pg:=aa (uk.out wq);rw [hcr] at pg;have HF:=aa (show cr true (bs ⟨vw,vh,Ls,r,c,pd,au⟩)=[([],3)]++ax vw Ls k from by
        rw [sS.out,show cQ ⟨vw,vh,Ls,r,c,pd,au⟩=[] from by unfold cQ;rw [if_pos hcr],List.append_nil]
        rfl)
       clear hcr vb
       go_wp2_with fail
       refine pg.out.mono ?_;rintro e w7 ⟨rfl,b7⟩;have HE:=aa (show gP wb J w (cr true (bs ⟨vw,vh,Ls,r,c,pd,au⟩)) w7 from by
        rw [HF.out];exact ⟨HT.out.keep _ _ _ HJ.out b7,HU.out.trans (Qt.ofBelow b7),HB.out.trans (b7.mono HB.out.size)⟩)
       clear b7 hv0 m7 hv3 hv4 qH pg;go_wp2;exact bodyPost_end (by kernel_rfl) rfl ⟨rfl,HE.out⟩
      |false =>
       have pg:=aa (uk.out wq);rw [hcr] at pg;have uP:=aa (show cQ ⟨vw,vh,Ls,r,c,pd,au⟩=[([],8)] from by unfold cQ;rw [if_neg (by simp [hcr])]);have HF:=aa (show cr true (bs ⟨vw,vh,Ls,r,c,pd,au⟩)=([([],3)]++ax vw Ls k)++[([],8)] from by
        rw [sS.out,uP.out]
        rfl)
       clear hcr vb
       go_wp2_with fail
       refine pg.out.mono ?_;rintro e w7 ⟨rfl,b7⟩;have g7:=(tR.out.below (HB.out.trans (b7.mono HB.out.size))).cell 7 (by decide);simp only [F.glob] at g7;have yp:=(qx.out.below b7 qx.out.lt).cell 0 _ rfl;have HST:=aa (HT.out.step ([([],3)]++ax vw Ls k) _ [] 8 w7 (.inl rfl) (by have:=p8.out;rw [sS.out,uP.out,List.length_append] at this;simp at this ⊢;omega) (HT.out.keep _ _ _ HJ.out b7) (HB.out.trans (b7.mono HB.out.size)) (ErrT.sent (sa:=sa) 7 (by decide)));have ug:=aa (HU.out.trans (Qt.ofBelow b7));have qC:=aa (HB.out.trans (b7.mono HB.out.size));clear b7 hv0 m7 hv3 hv4 qH pg
       go_wp2_with fail
       rw [rG.out,Oper.upon_enter];refine HST.out.mono ?_;rintro e w8 ⟨rfl,uZ,sf⟩;have HE:=aa (show gP wb J w (cr true (bs ⟨vw,vh,Ls,r,c,pd,au⟩)) w8 from by
        rw [HF.out];exact ⟨uZ,ug.out.trans sf,cy qC.out sf⟩)
       clear uZ sf g7 yp;go_wp2;exact bodyPost_end (by kernel_rfl) rfl ⟨rfl,HE.out⟩
end Go.Proofs.YtechjomepdahiaaDoor
