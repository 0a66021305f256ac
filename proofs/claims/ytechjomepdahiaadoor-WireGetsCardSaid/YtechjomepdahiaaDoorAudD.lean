import Derived.Test.YtechjomepdahiaaDoorZ0
import Derived.Test.YtechjomepdahiaaDoorAudC
set_option maxRecDepth 100000
set_option linter.unusedVariables false
set_option linter.unusedSimpArgs false
set_option maxHeartbeats 3000000
namespace Go.Proofs.YtechjomepdahiaaDoor
open Go.RowKit Go.ChangeShapes Go.WideShapes
theorem dK(w:Int)(Ls:List Ln){k n:Nat}(h:k<=n):∃ t,ar w Ls n=ar w Ls k++t:=by
 induction n with
 |zero =>
  obtain rfl:k=0:=by omega
  exact ⟨[],by simp⟩
 |succ n ih =>
  by_cases hk:k=n+1
  ·subst hk;exact ⟨[],by simp⟩
  ·obtain ⟨t,ht⟩:=ih (by omega);exact ⟨t++cJ n (aH w (Ls.getD n zl).1),by rw [a8,ht,List.append_assoc]⟩
def bb(v:Vw)(lv:Value):Value:=.agg #[.int .i64 v.w,.int .i64 v.h,lv,.int .i64 v.r,.int .i64 v.c,.bool v.pd,.bool v.au]
def bW(v:Vw)(lv:Value):List Value:=[.int .i64 v.w,.int .i64 v.h,lv,.int .i64 v.r,.int .i64 v.c,.bool v.pd,.bool v.au]
def ViewAt(wb:World)(v:Vw)(lv:Value):Prop:=HeldE lineE (fun _=>True) wb lv v.L /\ -9223372036854775808<=v.w/\v.w<=9223372036854775807 /\ -9223372036854775808<=v.h/\v.h<=9223372036854775807
def jF(v:Vw)(N:Nat):Prop:=∀ i,i<v.L.length->(dZ v++ar v.w v.L i).length+((v.L.getD i zl).1.length+1)<=N
theorem gb(sa:Nat->Addr)(wb:World)(go:Bool)(N:Nat)(gf:Nat)(lb:Array Value)(J:List Fnd->World->Prop)(hT:Tells sa wb go N gf lb J)(hs:Five wb sa)(v:Vw)(lv:Value)(w:World)(hv:ViewAt wb v lv)
  (hw:Below wb.heap.size wb w) (hJ:J [] w) (hN:(bc v).length+1<=N) (hR:jF v N) :
  Calls Tryd.prog 99 #[bb v lv,.func (.func gf) #[] lb] w (fun e w'=>e=.returned (.tuple #[])/\fx wb J w (b9 go (bc v)) w'):=by
 obtain ⟨vw,vh,Ls,r,c,pd,au⟩:=v;obtain ⟨m9,w0,w1,h0,h1⟩:=hv;simp only at m9 w0 w1 h0 h1;have tL:=m9.max;unfold bb;simp only;obtain ⟨lo,lc,rfl⟩:=m9.len;have hlc:=(be m9).2.1;have rb:=aa (be m9).2.2;have HT:=aa hT;have oX:=aa hT.enter;have ro:=aa hs;have HRM:=aa hR;have nM:=aa hN;have pl:=trivial;have ox:=aa (fun (w':World)=>eJ vw w');have mB:=aa (fun (w':World)=>eJ vh w');have rJ:=aa (fun (w':World)=>gw r c pd vw vh w');obtain ⟨n,hn⟩:=ab (Ls.length);have lf:=aa hn;rw [<-hn] at hlc tL rb ⊢;obtain ⟨W2,hW2⟩:=ab ((w.alloc (.cells [Value.int .i64 vw,.int .i64 vh,.slice lo n lc,.int .i64 r,.int .i64 c,.bool pd,.bool au].toArray 44)).alloc (.cells [Value.func (.func gf) #[] lb].toArray 153));obtain ⟨gv,lL⟩:=ab (w.heap.size);obtain ⟨gt,ub⟩:=ab (w.heap.size+1);have hb2:Below w.heap.size w W2:=by rw [hW2];exact (j0 _ _).alloc (by simp) _
 have hv2:Has W2 gv [.int .i64 vw,.int .i64 vh,.slice lo n lc,.int .i64 r,.int .i64 c,.bool pd,.bool au] 44:=by rw [hW2,lL];exact (Has.new w _ _).alloc _
 have sw:Has W2 gt [.func (.func gf) #[] lb] 153:=by
  have h:=Has.new (w.alloc (.cells [Value.int .i64 vw,.int .i64 vh,.slice lo n lc,.int .i64 r,.int .i64 c,.bool pd,.bool au].toArray 44)) [Value.func (.func gf) #[] lb] 153;rw [World.size_alloc] at h;rw [hW2,ub];exact h
 have sA:=aa hv2;have o1:=aa sw;have kP:=aa hb2;have HJ2:=aa (hT.keep _ _ _ hJ hb2);have sL:=aa (hw.trans (hb2.mono hw.size));have nK:=aa (show w.heap.size<=gv by omega);have ur:=aa (show w.heap.size<=gt by omega);have pJ:=aa hW2;have sM:=aa (And.intro lL ub);clear hW2 hb2 hv2 sw hJ hw hT hs m9 hn hR hN lL ub;obtain ⟨bad,kN⟩ : ∃ bad,bad = !(ay vw && ay vh && (vh == (n:Int))):=⟨_,rfl⟩;have kf:=aa kN;clear kN;have oI:(w.alloc (.cells #[Value.int .i64 vw,.int .i64 vh,.slice lo n lc,.int .i64 r,.int .i64 c,.bool pd,.bool au] 44)).alloc (.cells #[Value.func (.func gf) #[] lb] 153)=W2:=pJ.out.symm
 go_enter Tryd.func99,Tryd.ntmps99
 go_upto_region 1 with (fail)
 rw [<-sM.out.2,<-sM.out.1];clear oI
 go_cut [23] from 6 to 23 (fun tv wx=>tv=.bool bad/\wx=W2)
 case first =>
  have q0:=sA.out.cell 0 _ rfl;have q1:=sA.out.cell 1 _ rfl;have q2:=sA.out.cell 2 _ rfl
  cases hs1:ay vw with
  |false =>
   rw [hs1] at ox kf;have kG:=aa (show bad=true from by rw [kf.out];rfl);clear hs1
   go_wp2_with fail
   refine (ox.out _).mono ?_;rintro e w' ⟨rfl,rfl⟩
   go_wp2_with fail
   go_meet;exact ⟨by rw [kG.out],rfl⟩
  |true =>
   rw [hs1] at ox kf
   cases hs2:ay vh with
   |false =>
    rw [hs2] at mB kf;have kG:=aa (show bad=true from by rw [kf.out];rfl);clear hs1 hs2
    go_wp2_with fail
    refine (ox.out _).mono ?_;rintro e w' ⟨rfl,rfl⟩
    go_wp2_with fail
    refine (mB.out _).mono ?_;rintro e w' ⟨rfl,rfl⟩
    go_wp2_with fail
    go_meet;exact ⟨by rw [kG.out],rfl⟩
   |true =>
    rw [hs2] at mB kf;have kG:=aa (show bad=(vh != (n:Int)) from by rw [kf.out];simp [bne]);clear hs1 hs2
    go_wp2_with fail
    refine (ox.out _).mono ?_;rintro e w' ⟨rfl,rfl⟩
    go_wp2_with fail
    refine (mB.out _).mono ?_;rintro e w' ⟨rfl,rfl⟩
    go_wp2_with fail
    go_meet;exact ⟨by rw [kG.out],rfl⟩
 case rest =>
  obtain ⟨rfl,hwc⟩:=hcut;subst wc
  cases le:bad with
  |false =>
   have sI:=aa (show dZ ⟨vw,vh,Ls,r,c,pd,au⟩=[] from by
    have h:=kf.out;rw [le] at h;unfold dZ;simp only;rw [if_pos];have h2:(ay vw && ay vh && (vh == (n:Int)))=true:=by simpa using h.symm
    rw [Bool.and_eq_true,Bool.and_eq_true,beq_iff_eq] at h2;rw [<-lf.out];exact ⟨h2.1.1,h2.1.2,h2.2⟩)
   replace pl:=sI;have oO:=aa (show J ([]++ar vw Ls 0) W2 from HJ2.out);have lH:=aa (show go=true\/([]:List Fnd)++ar vw Ls 0=[] from .inr rfl);have mO:=aa (Qt.ofBelow (wb:=wb) kP.out);have oq:=sL;have sl:=sA;have vc:=o1;clear le sI kf ox mB
   go_upto_region 3 with (fail)
   have q2:=sl.out.cell 2 _ rfl;go_wp2
   go_loopw [31] (fun iv wr=>∃ k:Nat,k<=n/\iv=.int .i64 k/\(go=true\/[]++ar vw Ls k=[])/\J ([]++ar vw Ls k) wr/\Qt wb w wr/\Below wb.heap.size wb wr/\Has wr gv [.int .i64 vw,.int .i64 vh,.slice lo n lc,.int .i64 r,.int .i64 c,.bool pd,.bool au] 44/\Has wr gt [.func (.func gf) #[] lb] 153) (fun iv _=>n - (intOf iv).toNat)
   case atStart=>exact ⟨0,Nat.zero_le _,rfl,lH.out,oO.out,mO.out,oq.out,sl.out,vc.out⟩
   case round =>
    obtain ⟨k,hk,rfl,hg,hj,hu,hb,oC,se⟩:=hrel;obtain ⟨wq,lR⟩:=ab (wr);subst lR;have HG:=aa hg;have HJ:=aa hj;have HU:=aa hu;have HB:=aa hb;have HV:=aa oC;have ob:=aa se;clear hg hj hu hb oC se q2
    by_cases hlt:k<n
    ·obtain ⟨b,off,cv,eo,hb,_,hc0,hc1,hcv⟩:=rb.out k hlt;subst eo;have c0:=(HB.out.cell (p:=⟨b,off+k * 2,none⟩) hb).trans hc0;have c1:=(HB.out.cell (p:=⟨b,off+k * 2+1,none⟩) hb).trans hc1;obtain ⟨Lk,nJ⟩:=ab ((Ls.getD k zl).1);obtain ⟨bk,rY⟩:=ab ((Ls.getD k zl).2);rw [<-rY] at c1;rw [<-nJ] at hcv;have sf:=aa nJ;have qN:=aa hcv.max;have uv:=aa (show ([]++ar vw Ls k).length+(Lk.length+1)<=N from by
      have:=HRM.out k (by rw [<-lf.out];exact hlt);rw [pl.out] at this;rw [nJ];exact this)
     obtain ⟨co,cc,ecv⟩:=hcv.len;obtain ⟨nk,pi⟩:=ab (Lk.length);rw [<-pi] at ecv;subst ecv;have rt:=aa hcv;have qK:(k:Int)<(n:Int):=by omega
     have ow:IntKind.i64.wrap ((k:Int)+1)=(k:Int)+1:=by rw [IntKind.wrap_i64];omega
     have ss:k<lc:=by omega
     obtain ⟨W5,n6⟩:=ab ((wq.alloc (.cells [Value.int .i64 k].toArray 3)).alloc (.cells [Value.slice co nk cc,.bool bk].toArray 69));obtain ⟨fi,o7⟩:=ab (wq.heap.size);have kr:Below wq.heap.size wq W5:=by rw [n6];exact (j0 _ _).alloc (by simp) _
     have pW:Has W5 fi [.int .i64 k] 3:=by rw [n6,o7];exact (Has.new wq [.int .i64 k] _).alloc _
     have oA:Has W5 (fi+1) [.slice co nk cc,.bool bk] 69:=by
      have h:=Has.new (wq.alloc (.cells [Value.int .i64 k].toArray 3)) [.slice co nk cc,.bool bk] 69;rw [World.size_alloc] at h;rw [n6,o7];exact h
     have uf:=aa n6;have pP:=aa o7;have mr:=aa kr;have uN:=aa pW;have sE:=aa oA;have sv:=LineJ.tells HT.out ([]++ar vw Ls k) k gt fi (Lk.length+1) HG.out uv.out;have l1:=aa (eI sa wb go (Lk.length+1) 108 _ _ sv ro.out _ Lk vw W5 rt.out qN.out (HB.out.trans (kr.mono HB.out.size)) ⟨by rw [dY,List.append_nil];exact HT.out.keep _ _ _ HJ.out kr,ob.out.below kr ob.out.lt,pW⟩ (Nat.le_refl _));have qa:(wq.alloc (.cells #[Value.int .i64 k] 3)).alloc (.cells #[Value.slice co nk cc,.bool bk] 69)=W5:=uf.out.symm;have qc:=pP.out.symm;clear hc0 hc1 nJ rY hcv pi hb n6 o7 kr pW oA sv
     go_upto_region 6 with (fail)
     clear qa qc;have q0:=(HV.out.below mr.out HV.out.lt).cell 0 _ rfl;have q1:=sE.out.cell 0 _ rfl;clear c0 c1
     cases go with
     |true =>
      simp only [Bool.true_or] at l1
      go_wp2_with fail
      refine l1.out.mono ?_;rintro e w6 ⟨rfl,ho⟩;have HE:=aa (show J ([]++ar vw Ls (k+1)) w6/\Qt wb w w6/\Below wb.heap.size wb w6/\Has w6 gv [.int .i64 vw,.int .i64 vh,.slice (some ⟨b,off,none⟩) n lc,.int .i64 r,.int .i64 c,.bool pd,.bool au] 44/\Has w6 gt [.func (.func gf) #[] lb] 153 from by
       rw [a8,<-sf.out,<-List.append_assoc];exact ⟨ho.1.1,(HU.out.trans (Qt.ofBelow mr.out)).trans ho.2.1,ho.2.2,ho.2.1.has (HV.out.below mr.out HV.out.lt) (by decide),ho.1.2.1⟩)
      clear ho q0 q1 l1;go_wp2
      go_roundw
      case rel=>exact ⟨k+1,by omega,by go_num,.inl (by first | rfl | trivial),HE.out.1,HE.out.2.1,HE.out.2.2.1,HE.out.2.2.2.1,HE.out.2.2.2.2⟩
      case measure=>simp [intOf] <;> omega
     |false =>
      have h9:[]++ar vw Ls k=[]:=HG.out.resolve_left (by decide)
      cases hE:(aH vw Lk).isEmpty with
      |true =>
       rw [hE] at l1;simp only [Bool.or_true] at l1;have h8:aH vw Lk=[]:=List.isEmpty_iff.1 hE;have sd:=aa (show []++ar vw Ls (k+1)=[]/\b9 false (aH vw Lk)=[] from by
        rw [a8,<-sf.out,<-List.append_assoc,h9,h8];exact ⟨rfl,rfl⟩)
       have H9:=aa h9;clear hE h8 h9
       go_wp2_with fail
       refine l1.out.mono ?_;rintro e w6 ⟨rfl,ho⟩;have HE:=aa (show J ([]++ar vw Ls (k+1)) w6/\Qt wb w w6/\Below wb.heap.size wb w6/\Has w6 gv [.int .i64 vw,.int .i64 vh,.slice (some ⟨b,off,none⟩) n lc,.int .i64 r,.int .i64 c,.bool pd,.bool au] 44/\Has w6 gt [.func (.func gf) #[] lb] 153 from by
        have h7:=ho.1.1;rw [sd.out.2,dY,List.append_nil,H9.out] at h7;rw [sd.out.1];exact ⟨h7,(HU.out.trans (Qt.ofBelow mr.out)).trans ho.2.1,ho.2.2,ho.2.1.has (HV.out.below mr.out HV.out.lt) (by decide),ho.1.2.1⟩)
       clear ho q0 q1 l1;go_wp2
       go_roundw
       case rel=>exact ⟨k+1,by omega,by go_num,.inr sd.out.1,HE.out.1,HE.out.2.1,HE.out.2.2.1,HE.out.2.2.2.1,HE.out.2.2.2.2⟩
       case measure=>simp [intOf] <;> omega
      |false =>
       rw [hE] at l1;simp only [Bool.or_self] at l1;have sd:=aa (show b9 false (bc ⟨vw,vh,Ls,r,c,pd,au⟩)=([]++ar vw Ls k)++cJ k (b9 false (aH vw Lk)) from by
        obtain ⟨t,ht⟩:=dK vw Ls (show k+1<=Ls.length by rw [<-lf.out];omega);obtain ⟨x,t2,hx⟩ : ∃ x t2,aH vw Lk=x :: t2:=by
         cases hq:aH vw Lk with
         | nil=>rw [hq] at hE;cases hE
         | cons x t2=>exact ⟨x,t2,rfl⟩
        unfold bc;rw [pl.out];simp only;rw [ht,a8,<-sf.out,hx,<-List.append_assoc,<-List.append_assoc,h9]
        rfl)
       clear hE h9
       go_wp2_with fail
       refine l1.out.mono ?_;rintro e w6 ⟨rfl,ho⟩;have HE:=aa (show fx wb J w (b9 false (bc ⟨vw,vh,Ls,r,c,pd,au⟩)) w6 from by
        rw [sd.out];exact ⟨ho.1.1,(HU.out.trans (Qt.ofBelow mr.out)).trans ho.2.1,ho.2.2⟩)
       clear ho q0 q1 l1;go_wp2
       first | exact bodyPost_end (by kernel_rfl) rfl ⟨rfl,HE.out⟩ | exact bodyPost_ret (v:=.tuple #[]) (by simp [results,Tryd.results99,go_sem]) rfl ⟨rfl,HE.out⟩
    ·obtain rfl:k=n:=by omega
     have hv3:=HV.out.cell 3 _ rfl;have hv4:=HV.out.cell 4 _ rfl;have oE:=HV.out.cell 5 _ rfl;have hv0:=HV.out.cell 0 _ rfl;have lQ:=HV.out.cell 1 _ rfl;have rX:=ob.out.cell 0 _ rfl;have qC:=aa (show bc ⟨vw,vh,Ls,r,c,pd,au⟩=([]++ar vw Ls k)++cH ⟨vw,vh,Ls,r,c,pd,au⟩ from by
      unfold bc;rw [pl.out];simp only;rw [<-lf.out])
     cases hcr:am r c pd vw vh with
     |true =>
      have mG:=aa (rJ.out wq);rw [hcr] at mG;have HF:=aa (show b9 go (bc ⟨vw,vh,Ls,r,c,pd,au⟩)=[]++ar vw Ls k from by
       rw [qC.out,show cH ⟨vw,vh,Ls,r,c,pd,au⟩=[] from by unfold cH;rw [if_pos hcr],List.append_nil]
       rcases HG.out with e | e
       ·rw [e];rfl
       ·rw [e];exact fA _)
      clear hcr rX
      go_wp2_with fail
      refine mG.out.mono ?_;rintro e w7 ⟨rfl,b7⟩;have HE:=aa (show fx wb J w (b9 go (bc ⟨vw,vh,Ls,r,c,pd,au⟩)) w7 from by
       rw [HF.out];exact ⟨HT.out.keep _ _ _ HJ.out b7,HU.out.trans (Qt.ofBelow b7),HB.out.trans (b7.mono HB.out.size)⟩)
      clear b7 hv0 lQ hv3 hv4 oE mG;go_wp2;exact bodyPost_end (by kernel_rfl) rfl ⟨rfl,HE.out⟩
     |false =>
      have mG:=aa (rJ.out wq);rw [hcr] at mG;have sB:=aa (show cH ⟨vw,vh,Ls,r,c,pd,au⟩=[([],8)] from by unfold cH;rw [if_neg (by simp [hcr])]);have HF:=aa (show b9 go (bc ⟨vw,vh,Ls,r,c,pd,au⟩)=([]++ar vw Ls k)++[([],8)] from by
       rw [qC.out,sB.out]
       rcases HG.out with e | e
       ·rw [e];rfl
       ·rw [e];exact iL)
      clear hcr rX
      go_wp2_with fail
      refine mG.out.mono ?_;rintro e w7 ⟨rfl,b7⟩;have g7:=(ro.out.below (HB.out.trans (b7.mono HB.out.size))).cell 7 (by decide);simp only [F.glob] at g7;have tQ:=(ob.out.below b7 ob.out.lt).cell 0 _ rfl;have HST:=aa (HT.out.step ([]++ar vw Ls k) _ [] 8 w7 HG.out (by have:=nM.out;rw [qC.out,sB.out,List.length_append] at this;simp at this ⊢;omega) (HT.out.keep _ _ _ HJ.out b7) (HB.out.trans (b7.mono HB.out.size)) (ErrT.sent (sa:=sa) 7 (by decide)));have qV:=aa (HU.out.trans (Qt.ofBelow b7));have re:=aa (HB.out.trans (b7.mono HB.out.size));clear b7 hv0 lQ hv3 hv4 oE mG
      go_wp2_with fail
      rw [oX.out,Oper.upon_enter];refine HST.out.mono ?_;rintro e w8 ⟨rfl,sk,p7⟩;have HE:=aa (show fx wb J w (b9 go (bc ⟨vw,vh,Ls,r,c,pd,au⟩)) w8 from by
       rw [HF.out];exact ⟨sk,qV.out.trans p7,cj re.out p7⟩)
      clear sk p7 g7 tQ;go_wp2;exact bodyPost_end (by kernel_rfl) rfl ⟨rfl,HE.out⟩
  |true =>
   have sI:=aa (show dZ ⟨vw,vh,Ls,r,c,pd,au⟩=[([],3)] from by
    have h:=kf.out;rw [le] at h;unfold dZ;simp only;rw [if_neg];intro h2;rw [<-lf.out] at h2;rw [h2.1,h2.2.1,h2.2.2] at h
    simp at h)
   replace pl:=sI;have g2:=(ro.out.below sL.out).cell 2 (by decide);simp only [F.glob] at g2;have t0:=o1.out.cell 0 _ rfl;have HST:=aa (HT.out.step [] _ [] 3 W2 (.inr rfl) (by have:=nM.out;simp;omega) HJ2.out sL.out (ErrT.sent (sa:=sa) 2 (by decide)));clear le sI kf ox mB
   go_wp2_with fail
   rw [oX.out,Oper.upon_enter];refine HST.out.mono ?_;rintro e w1 ⟨rfl,rP,oU⟩;have oO:=aa (show J ([([],3)]++ar vw Ls 0) w1 from rP);have mO:=aa ((Qt.ofBelow (wb:=wb) kP.out).trans oU);have oq:=aa (cj sL.out oU);have sl:=aa (oU.has sA.out (by decide));have vc:=aa (oU.has o1.out (by decide));clear rP oU HST g2 t0
   cases go with
   |false =>
    have HF:=aa (show fx wb J w (b9 false (bc ⟨vw,vh,Ls,r,c,pd,au⟩)) w1 from by
     unfold bc;rw [pl.out];exact ⟨oO.out,mO.out,oq.out⟩)
    go_wp2
    first | exact bodyPost_end (by kernel_rfl) rfl ⟨rfl,HF.out⟩ | exact bodyPost_ret (v:=.tuple #[]) (by simp [results,Tryd.results99,go_sem]) rfl ⟨rfl,HF.out⟩
   |true =>
    have lH:=aa (show True\/([([],3)]:List Fnd)++ar vw Ls 0=[] from .inl trivial)
    go_upto_region 3 with (fail)
    have q2:=sl.out.cell 2 _ rfl;go_wp2
    go_loopw [31] (fun iv wr=>∃ k:Nat,k<=n/\iv=.int .i64 k/\(True\/[([],3)]++ar vw Ls k=[])/\J ([([],3)]++ar vw Ls k) wr/\Qt wb w wr/\Below wb.heap.size wb wr/\Has wr gv [.int .i64 vw,.int .i64 vh,.slice lo n lc,.int .i64 r,.int .i64 c,.bool pd,.bool au] 44/\Has wr gt [.func (.func gf) #[] lb] 153) (fun iv _=>n - (intOf iv).toNat)
    case atStart=>exact ⟨0,Nat.zero_le _,rfl,lH.out,oO.out,mO.out,oq.out,sl.out,vc.out⟩
    case round =>
     obtain ⟨k,hk,rfl,hg,hj,hu,hb,oC,se⟩:=hrel;obtain ⟨wq,lR⟩:=ab (wr);subst lR;have HG:=aa hg;have HJ:=aa hj;have HU:=aa hu;have HB:=aa hb;have HV:=aa oC;have ob:=aa se;clear hg hj hu hb oC se q2
     by_cases hlt:k<n
     ·obtain ⟨b,off,cv,eo,hb,_,hc0,hc1,hcv⟩:=rb.out k hlt;subst eo;have c0:=(HB.out.cell (p:=⟨b,off+k * 2,none⟩) hb).trans hc0;have c1:=(HB.out.cell (p:=⟨b,off+k * 2+1,none⟩) hb).trans hc1;obtain ⟨Lk,nJ⟩:=ab ((Ls.getD k zl).1);obtain ⟨bk,rY⟩:=ab ((Ls.getD k zl).2);rw [<-rY] at c1;rw [<-nJ] at hcv;have sf:=aa nJ;have qN:=aa hcv.max;have uv:=aa (show ([([],3)]++ar vw Ls k).length+(Lk.length+1)<=N from by
       have:=HRM.out k (by rw [<-lf.out];exact hlt);rw [pl.out] at this;rw [nJ];exact this)
      obtain ⟨co,cc,ecv⟩:=hcv.len;obtain ⟨nk,pi⟩:=ab (Lk.length);rw [<-pi] at ecv;subst ecv;have rt:=aa hcv;have qK:(k:Int)<(n:Int):=by omega
      have ow:IntKind.i64.wrap ((k:Int)+1)=(k:Int)+1:=by rw [IntKind.wrap_i64];omega
      have ss:k<lc:=by omega
      obtain ⟨W5,n6⟩:=ab ((wq.alloc (.cells [Value.int .i64 k].toArray 3)).alloc (.cells [Value.slice co nk cc,.bool bk].toArray 69));obtain ⟨fi,o7⟩:=ab (wq.heap.size);have kr:Below wq.heap.size wq W5:=by rw [n6];exact (j0 _ _).alloc (by simp) _
      have pW:Has W5 fi [.int .i64 k] 3:=by rw [n6,o7];exact (Has.new wq [.int .i64 k] _).alloc _
      have oA:Has W5 (fi+1) [.slice co nk cc,.bool bk] 69:=by
       have h:=Has.new (wq.alloc (.cells [Value.int .i64 k].toArray 3)) [.slice co nk cc,.bool bk] 69;rw [World.size_alloc] at h;rw [n6,o7];exact h
      have uf:=aa n6;have pP:=aa o7;have mr:=aa kr;have uN:=aa pW;have sE:=aa oA;have sv:=LineJ.tells HT.out ([([],3)]++ar vw Ls k) k gt fi (Lk.length+1) (.inl rfl) uv.out;have l1:=aa (eI sa wb true (Lk.length+1) 108 _ _ sv ro.out _ Lk vw W5 rt.out qN.out (HB.out.trans (kr.mono HB.out.size)) ⟨by rw [dY,List.append_nil];exact HT.out.keep _ _ _ HJ.out kr,ob.out.below kr ob.out.lt,pW⟩ (Nat.le_refl _));have qa:(wq.alloc (.cells #[Value.int .i64 k] 3)).alloc (.cells #[Value.slice co nk cc,.bool bk] 69)=W5:=uf.out.symm;have qc:=pP.out.symm;clear hc0 hc1 nJ rY hcv pi hb n6 o7 kr pW oA sv
      go_upto_region 6 with (fail)
      clear qa qc;have q0:=(HV.out.below mr.out HV.out.lt).cell 0 _ rfl;have q1:=sE.out.cell 0 _ rfl;clear c0 c1;simp only [Bool.true_or] at l1
      go_wp2_with fail
      refine l1.out.mono ?_;rintro e w6 ⟨rfl,ho⟩;have HE:=aa (show J ([([],3)]++ar vw Ls (k+1)) w6/\Qt wb w w6/\Below wb.heap.size wb w6/\Has w6 gv [.int .i64 vw,.int .i64 vh,.slice (some ⟨b,off,none⟩) n lc,.int .i64 r,.int .i64 c,.bool pd,.bool au] 44/\Has w6 gt [.func (.func gf) #[] lb] 153 from by
       rw [a8,<-sf.out,<-List.append_assoc];exact ⟨ho.1.1,(HU.out.trans (Qt.ofBelow mr.out)).trans ho.2.1,ho.2.2,ho.2.1.has (HV.out.below mr.out HV.out.lt) (by decide),ho.1.2.1⟩)
      clear ho q0 q1 l1;go_wp2
      go_roundw
      case rel=>exact ⟨k+1,by omega,by go_num,.inl (by first | rfl | trivial),HE.out.1,HE.out.2.1,HE.out.2.2.1,HE.out.2.2.2.1,HE.out.2.2.2.2⟩
      case measure=>simp [intOf] <;> omega
     ·obtain rfl:k=n:=by omega
      have hv3:=HV.out.cell 3 _ rfl;have hv4:=HV.out.cell 4 _ rfl;have oE:=HV.out.cell 5 _ rfl;have hv0:=HV.out.cell 0 _ rfl;have lQ:=HV.out.cell 1 _ rfl;have rX:=ob.out.cell 0 _ rfl;have qC:=aa (show bc ⟨vw,vh,Ls,r,c,pd,au⟩=([([],3)]++ar vw Ls k)++cH ⟨vw,vh,Ls,r,c,pd,au⟩ from by
       unfold bc;rw [pl.out];simp only;rw [<-lf.out])
      cases hcr:am r c pd vw vh with
      |true =>
       have mG:=aa (rJ.out wq);rw [hcr] at mG;have HF:=aa (show b9 true (bc ⟨vw,vh,Ls,r,c,pd,au⟩)=[([],3)]++ar vw Ls k from by
        rw [qC.out,show cH ⟨vw,vh,Ls,r,c,pd,au⟩=[] from by unfold cH;rw [if_pos hcr],List.append_nil]
        rfl)
       clear hcr rX
       go_wp2_with fail
       refine mG.out.mono ?_;rintro e w7 ⟨rfl,b7⟩;have HE:=aa (show fx wb J w (b9 true (bc ⟨vw,vh,Ls,r,c,pd,au⟩)) w7 from by
        rw [HF.out];exact ⟨HT.out.keep _ _ _ HJ.out b7,HU.out.trans (Qt.ofBelow b7),HB.out.trans (b7.mono HB.out.size)⟩)
       clear b7 hv0 lQ hv3 hv4 oE mG;go_wp2;exact bodyPost_end (by kernel_rfl) rfl ⟨rfl,HE.out⟩
      |false =>
       have mG:=aa (rJ.out wq);rw [hcr] at mG;have sB:=aa (show cH ⟨vw,vh,Ls,r,c,pd,au⟩=[([],8)] from by unfold cH;rw [if_neg (by simp [hcr])]);have HF:=aa (show b9 true (bc ⟨vw,vh,Ls,r,c,pd,au⟩)=([([],3)]++ar vw Ls k)++[([],8)] from by
        rw [qC.out,sB.out]
        rfl)
       clear hcr rX
       go_wp2_with fail
       refine mG.out.mono ?_;rintro e w7 ⟨rfl,b7⟩;have g7:=(ro.out.below (HB.out.trans (b7.mono HB.out.size))).cell 7 (by decide);simp only [F.glob] at g7;have tQ:=(ob.out.below b7 ob.out.lt).cell 0 _ rfl;have HST:=aa (HT.out.step ([([],3)]++ar vw Ls k) _ [] 8 w7 (.inl rfl) (by have:=nM.out;rw [qC.out,sB.out,List.length_append] at this;simp at this ⊢;omega) (HT.out.keep _ _ _ HJ.out b7) (HB.out.trans (b7.mono HB.out.size)) (ErrT.sent (sa:=sa) 7 (by decide)));have qV:=aa (HU.out.trans (Qt.ofBelow b7));have re:=aa (HB.out.trans (b7.mono HB.out.size));clear b7 hv0 lQ hv3 hv4 oE mG
       go_wp2_with fail
       rw [oX.out,Oper.upon_enter];refine HST.out.mono ?_;rintro e w8 ⟨rfl,sk,p7⟩;have HE:=aa (show fx wb J w (b9 true (bc ⟨vw,vh,Ls,r,c,pd,au⟩)) w8 from by
        rw [HF.out];exact ⟨sk,qV.out.trans p7,cj re.out p7⟩)
       clear sk p7 g7 tQ;go_wp2;exact bodyPost_end (by kernel_rfl) rfl ⟨rfl,HE.out⟩
end Go.Proofs.YtechjomepdahiaaDoor
