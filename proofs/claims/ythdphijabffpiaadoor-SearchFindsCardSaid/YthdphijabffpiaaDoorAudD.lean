import Derived.Test.YthdphijabffpiaaDoorZ0
import Derived.Test.YthdphijabffpiaaDoorAudC
set_option maxRecDepth 100000
set_option linter.unusedVariables false
set_option linter.unusedSimpArgs false
set_option maxHeartbeats 3000000
namespace Go.Proofs.YthdphijabffpiaaDoor
open Go.RowKit Go.ChangeShapes Go.WideShapes
theorem cW(w:Int)(Ls:List Ln){k n:Nat}(h:k<=n):∃ t,am w Ls n=am w Ls k++t:=by
 induction n with
 |zero =>
  obtain rfl:k=0:=by omega
  exact ⟨[],by simp⟩
 |succ n ih =>
  by_cases hk:k=n+1
  ·subst hk;exact ⟨[],by simp⟩
  ·obtain ⟨t,ht⟩:=ih (by omega);exact ⟨t++bW n (aG w (Ls.getD n zl).1),by rw [bf,ht,List.append_assoc]⟩
def aN(v:Vw)(lv:Value):Value:=.agg #[.int .i64 v.w,.int .i64 v.h,lv,.int .i64 v.r,.int .i64 v.c,.bool v.pd,.bool v.au]
def eu(v:Vw)(lv:Value):List Value:=[.int .i64 v.w,.int .i64 v.h,lv,.int .i64 v.r,.int .i64 v.c,.bool v.pd,.bool v.au]
def ViewAt(wb:World)(v:Vw)(lv:Value):Prop:=HeldE lineE (fun _=>True) wb lv v.L /\ -9223372036854775808<=v.w/\v.w<=9223372036854775807 /\ -9223372036854775808<=v.h/\v.h<=9223372036854775807
def gz(v:Vw)(N:Nat):Prop:=∀ i,i<v.L.length->(dl v++am v.w v.L i).length+((v.L.getD i zl).1.length+1)<=N
theorem eV(sa:Nat->Addr)(wb:World)(go:Bool)(N:Nat)(gf:Nat)(lb:Array Value)(J:List Fnd->World->Prop)(hT:Tells sa wb go N gf lb J)(hs:Five wb sa)(v:Vw)(lv:Value)(w:World)(hv:ViewAt wb v lv)
  (hw:Below wb.heap.size wb w) (hJ:J [] w) (hN:(bg v).length+1<=N) (hR:gz v N) :
  Calls Tryd.prog 46 #[aN v lv,.func (.func gf) #[] lb] w (fun e w'=>e=.returned (.tuple #[])/\ev wb J w (bI go (bg v)) w'):=by
 obtain ⟨vw,vh,Ls,r,c,pd,au⟩:=v;obtain ⟨ix,w0,w1,h0,h1⟩:=hv;simp only at ix w0 w1 h0 h1;have lO:=ix.max;unfold aN;simp only;obtain ⟨lo,lc,rfl⟩:=ix.len;have hlc:=(aH ix).2.1;have ik:=aa (aH ix).2.2;have HT:=aa hT;have jX:=aa hT.enter;have lJ:=aa hs;have HRM:=aa hR;have nU:=aa hN;have kn:=trivial;have jF:=aa (fun (w':World)=>dJ vw w');have lr:=aa (fun (w':World)=>dJ vh w');have lG:=aa (fun (w':World)=>fe r c pd vw vh w');obtain ⟨n,hn⟩:=ab (Ls.length);have iy:=aa hn;rw [<-hn] at hlc lO ik ⊢;obtain ⟨W2,hW2⟩:=ab ((w.alloc (.cells [Value.int .i64 vw,.int .i64 vh,.slice lo n lc,.int .i64 r,.int .i64 c,.bool pd,.bool au].toArray 26)).alloc (.cells [Value.func (.func gf) #[] lb].toArray 86));obtain ⟨gv,ie⟩:=ab (w.heap.size);obtain ⟨gt,nE⟩:=ab (w.heap.size+1);have hb2:Below w.heap.size w W2:=by rw [hW2];exact (af _ _).alloc (by simp) _
 have hv2:Has W2 gv [.int .i64 vw,.int .i64 vh,.slice lo n lc,.int .i64 r,.int .i64 c,.bool pd,.bool au] 26:=by rw [hW2,ie];exact (Has.new w _ _).alloc _
 have ht2:Has W2 gt [.func (.func gf) #[] lb] 86:=by
  have h:=Has.new (w.alloc (.cells [Value.int .i64 vw,.int .i64 vh,.slice lo n lc,.int .i64 r,.int .i64 c,.bool pd,.bool au].toArray 26)) [Value.func (.func gf) #[] lb] 86;rw [World.size_alloc] at h;rw [hW2,nE];exact h
 have ig:=aa hv2;have oc:=aa ht2;have gU:=aa hb2;have HJ2:=aa (hT.keep _ _ _ hJ hb2);have i3:=aa (hw.trans (hb2.mono hw.size));have iF:=aa (show w.heap.size<=gv by omega);have lx:=aa (show w.heap.size<=gt by omega);have HW2:=aa hW2;have HGS:=aa (And.intro ie nE);clear hW2 hb2 hv2 ht2 hJ hw hT hs ix hn hR hN ie nE;obtain ⟨bad,hU⟩ : ∃ bad,bad = !(ax vw && ax vh && (vh == (n:Int))):=⟨_,rfl⟩;have gR:=aa hU;clear hU;have jQ:(w.alloc (.cells #[Value.int .i64 vw,.int .i64 vh,.slice lo n lc,.int .i64 r,.int .i64 c,.bool pd,.bool au] 26)).alloc (.cells #[Value.func (.func gf) #[] lb] 86)=W2:=HW2.out.symm
 go_enter Tryd.func46,Tryd.ntmps46
 go_upto_region 1 with (fail)
 rw [<-HGS.out.2,<-HGS.out.1];clear jQ
 go_cut [23] from 6 to 23 (fun tv wx=>tv=.bool bad/\wx=W2)
 case first =>
  have q0:=ig.out.cell 0 _ rfl;have q1:=ig.out.cell 1 _ rfl;have q2:=ig.out.cell 2 _ rfl
  cases hs1:ax vw with
  |false =>
   rw [hs1] at jF gR;have ib:=aa (show bad=true from by rw [gR.out];rfl);clear hs1
   go_wp2_with fail
   refine (jF.out _).mono ?_;rintro e w' ⟨rfl,rfl⟩
   go_wp2_with fail
   go_meet;exact ⟨by rw [ib.out],rfl⟩
  |true =>
   rw [hs1] at jF gR
   cases hs2:ax vh with
   |false =>
    rw [hs2] at lr gR;have ib:=aa (show bad=true from by rw [gR.out];rfl);clear hs1 hs2
    go_wp2_with fail
    refine (jF.out _).mono ?_;rintro e w' ⟨rfl,rfl⟩
    go_wp2_with fail
    refine (lr.out _).mono ?_;rintro e w' ⟨rfl,rfl⟩
    go_wp2_with fail
    go_meet;exact ⟨by rw [ib.out],rfl⟩
   |true =>
    rw [hs2] at lr gR;have ib:=aa (show bad=(vh != (n:Int)) from by rw [gR.out];simp [bne]);clear hs1 hs2
    go_wp2_with fail
    refine (jF.out _).mono ?_;rintro e w' ⟨rfl,rfl⟩
    go_wp2_with fail
    refine (lr.out _).mono ?_;rintro e w' ⟨rfl,rfl⟩
    go_wp2_with fail
    go_meet;exact ⟨by rw [ib.out],rfl⟩
 case rest =>
  obtain ⟨rfl,hwc⟩:=hcut;subst wc
  cases hbd:bad with
  |false =>
   have lZ:=aa (show dl ⟨vw,vh,Ls,r,c,pd,au⟩=[] from by
    have h:=gR.out;rw [hbd] at h;unfold dl;simp only;rw [if_pos];have h2:(ax vw && ax vh && (vh == (n:Int)))=true:=by simpa using h.symm
    rw [Bool.and_eq_true,Bool.and_eq_true,beq_iff_eq] at h2;rw [<-iy.out];exact ⟨h2.1.1,h2.1.2,h2.2⟩)
   replace kn:=lZ;have jZ:=aa (show J ([]++am vw Ls 0) W2 from HJ2.out);have le:=aa (show go=true\/([]:List Fnd)++am vw Ls 0=[] from .inr rfl);have jP:=aa (Qt.ofBelow (wb:=wb) gU.out);have jJ:=i3;have lV:=ig;have mn:=oc;clear hbd lZ gR jF lr
   go_upto_region 3 with (fail)
   have q2:=lV.out.cell 2 _ rfl;go_wp2
   go_loopw [31] (fun iv wr=>∃ k:Nat,k<=n/\iv=.int .i64 k/\(go=true\/[]++am vw Ls k=[])/\J ([]++am vw Ls k) wr/\Qt wb w wr/\Below wb.heap.size wb wr/\Has wr gv [.int .i64 vw,.int .i64 vh,.slice lo n lc,.int .i64 r,.int .i64 c,.bool pd,.bool au] 26/\Has wr gt [.func (.func gf) #[] lb] 86) (fun iv _=>n - (intOf iv).toNat)
   case atStart=>exact ⟨0,Nat.zero_le _,rfl,le.out,jZ.out,jP.out,jJ.out,lV.out,mn.out⟩
   case round =>
    obtain ⟨k,hk,rfl,hg,hj,hu,hb,jM,mr⟩:=hrel;obtain ⟨wq,iE⟩:=ab (wr);subst iE;have HG:=aa hg;have HJ:=aa hj;have HU:=aa hu;have HB:=aa hb;have HV:=aa jM;have jf:=aa mr;clear hg hj hu hb jM mr q2
    by_cases hlt:k<n
    ·obtain ⟨b,off,cv,eo,hb,_,hc0,hc1,hcv⟩:=ik.out k hlt;subst eo;have c0:=(HB.out.cell (p:=⟨b,off+k * 2,none⟩) hb).trans hc0;have c1:=(HB.out.cell (p:=⟨b,off+k * 2+1,none⟩) hb).trans hc1;obtain ⟨Lk,i5⟩:=ab ((Ls.getD k zl).1);obtain ⟨bk,mm⟩:=ab ((Ls.getD k zl).2);rw [<-mm] at c1;rw [<-i5] at hcv;have kf:=aa i5;have nZ:=aa hcv.max;have nA:=aa (show ([]++am vw Ls k).length+(Lk.length+1)<=N from by
      have:=HRM.out k (by rw [<-iy.out];exact hlt);rw [kn.out] at this;rw [i5];exact this)
     obtain ⟨co,cc,ecv⟩:=hcv.len;obtain ⟨nk,i8⟩:=ab (Lk.length);rw [<-i8] at ecv;subst ecv;have mR:=aa hcv;have jU:(k:Int)<(n:Int):=by omega
     have kc:IntKind.i64.wrap ((k:Int)+1)=(k:Int)+1:=by rw [IntKind.wrap_i64];omega
     have iJ:k<lc:=by omega
     obtain ⟨W5,iH⟩:=ab ((wq.alloc (.cells [Value.int .i64 k].toArray 3)).alloc (.cells [Value.slice co nk cc,.bool bk].toArray 30));obtain ⟨fi,jR⟩:=ab (wq.heap.size);have gQ:Below wq.heap.size wq W5:=by rw [iH];exact (af _ _).alloc (by simp) _
     have kF:Has W5 fi [.int .i64 k] 3:=by rw [iH,jR];exact (Has.new wq [.int .i64 k] _).alloc _
     have lX:Has W5 (fi+1) [.slice co nk cc,.bool bk] 30:=by
      have h:=Has.new (wq.alloc (.cells [Value.int .i64 k].toArray 3)) [.slice co nk cc,.bool bk] 30;rw [World.size_alloc] at h;rw [iH,jR];exact h
     have ju:=aa iH;have la:=aa jR;have hY:=aa gQ;have HI5:=aa kF;have mh:=aa lX;have mx:=LineJ.tells HT.out ([]++am vw Ls k) k gt fi (Lk.length+1) HG.out nA.out;have gV:=aa (dI sa wb go (Lk.length+1) 81 _ _ mx lJ.out _ Lk vw W5 mR.out nZ.out (HB.out.trans (gQ.mono HB.out.size)) ⟨by rw [dk,List.append_nil];exact HT.out.keep _ _ _ HJ.out gQ,jf.out.below gQ jf.out.lt,kF⟩ (Nat.le_refl _));have kT:(wq.alloc (.cells #[Value.int .i64 k] 3)).alloc (.cells #[Value.slice co nk cc,.bool bk] 30)=W5:=ju.out.symm;have li:=la.out.symm;clear hc0 hc1 i5 mm hcv i8 hb iH jR gQ kF lX mx
     go_upto_region 6 with (fail)
     clear kT li;have q0:=(HV.out.below hY.out HV.out.lt).cell 0 _ rfl;have q1:=mh.out.cell 0 _ rfl;clear c0 c1
     cases go with
     |true =>
      simp only [Bool.true_or] at gV
      go_wp2_with fail
      refine gV.out.mono ?_;rintro e w6 ⟨rfl,ho⟩;have HE:=aa (show J ([]++am vw Ls (k+1)) w6/\Qt wb w w6/\Below wb.heap.size wb w6/\Has w6 gv [.int .i64 vw,.int .i64 vh,.slice (some ⟨b,off,none⟩) n lc,.int .i64 r,.int .i64 c,.bool pd,.bool au] 26/\Has w6 gt [.func (.func gf) #[] lb] 86 from by
       rw [bf,<-kf.out,<-List.append_assoc];exact ⟨ho.1.1,(HU.out.trans (Qt.ofBelow hY.out)).trans ho.2.1,ho.2.2,ho.2.1.has (HV.out.below hY.out HV.out.lt) (by decide),ho.1.2.1⟩)
      clear ho q0 q1 gV;go_wp2
      go_roundw
      case rel=>exact ⟨k+1,by omega,by go_num,.inl (by first | rfl | trivial),HE.out.1,HE.out.2.1,HE.out.2.2.1,HE.out.2.2.2.1,HE.out.2.2.2.2⟩
      case measure=>simp [intOf] <;> omega
     |false =>
      have h9:[]++am vw Ls k=[]:=HG.out.resolve_left (by decide)
      cases hE:(aG vw Lk).isEmpty with
      |true =>
       rw [hE] at gV;simp only [Bool.or_true] at gV;have h8:aG vw Lk=[]:=List.isEmpty_iff.1 hE;have mw:=aa (show []++am vw Ls (k+1)=[]/\bI false (aG vw Lk)=[] from by
        rw [bf,<-kf.out,<-List.append_assoc,h9,h8];exact ⟨rfl,rfl⟩)
       have H9:=aa h9;clear hE h8 h9
       go_wp2_with fail
       refine gV.out.mono ?_;rintro e w6 ⟨rfl,ho⟩;have HE:=aa (show J ([]++am vw Ls (k+1)) w6/\Qt wb w w6/\Below wb.heap.size wb w6/\Has w6 gv [.int .i64 vw,.int .i64 vh,.slice (some ⟨b,off,none⟩) n lc,.int .i64 r,.int .i64 c,.bool pd,.bool au] 26/\Has w6 gt [.func (.func gf) #[] lb] 86 from by
        have h7:=ho.1.1;rw [mw.out.2,dk,List.append_nil,H9.out] at h7;rw [mw.out.1];exact ⟨h7,(HU.out.trans (Qt.ofBelow hY.out)).trans ho.2.1,ho.2.2,ho.2.1.has (HV.out.below hY.out HV.out.lt) (by decide),ho.1.2.1⟩)
       clear ho q0 q1 gV;go_wp2
       go_roundw
       case rel=>exact ⟨k+1,by omega,by go_num,.inr mw.out.1,HE.out.1,HE.out.2.1,HE.out.2.2.1,HE.out.2.2.2.1,HE.out.2.2.2.2⟩
       case measure=>simp [intOf] <;> omega
      |false =>
       rw [hE] at gV;simp only [Bool.or_self] at gV;have mw:=aa (show bI false (bg ⟨vw,vh,Ls,r,c,pd,au⟩)=([]++am vw Ls k)++bW k (bI false (aG vw Lk)) from by
        obtain ⟨t,ht⟩:=cW vw Ls (show k+1<=Ls.length by rw [<-iy.out];omega);obtain ⟨x,t2,hx⟩ : ∃ x t2,aG vw Lk=x :: t2:=by
         cases hq:aG vw Lk with
         | nil=>rw [hq] at hE;cases hE
         | cons x t2=>exact ⟨x,t2,rfl⟩
        unfold bg;rw [kn.out];simp only;rw [ht,bf,<-kf.out,hx,<-List.append_assoc,<-List.append_assoc,h9]
        rfl)
       clear hE h9
       go_wp2_with fail
       refine gV.out.mono ?_;rintro e w6 ⟨rfl,ho⟩;have HE:=aa (show ev wb J w (bI false (bg ⟨vw,vh,Ls,r,c,pd,au⟩)) w6 from by
        rw [mw.out];exact ⟨ho.1.1,(HU.out.trans (Qt.ofBelow hY.out)).trans ho.2.1,ho.2.2⟩)
       clear ho q0 q1 gV;go_wp2
       first | exact bodyPost_end (by kernel_rfl) rfl ⟨rfl,HE.out⟩ | exact bodyPost_ret (v:=.tuple #[]) (by simp [results,Tryd.results46,go_sem]) rfl ⟨rfl,HE.out⟩
    ·obtain rfl:k=n:=by omega
     have hv3:=HV.out.cell 3 _ rfl;have hv4:=HV.out.cell 4 _ rfl;have l7:=HV.out.cell 5 _ rfl;have hv0:=HV.out.cell 0 _ rfl;have ij:=HV.out.cell 1 _ rfl;have mq:=jf.out.cell 0 _ rfl;have kG:=aa (show bg ⟨vw,vh,Ls,r,c,pd,au⟩=([]++am vw Ls k)++bU ⟨vw,vh,Ls,r,c,pd,au⟩ from by
      unfold bg;rw [kn.out];simp only;rw [<-iy.out])
     cases hcr:ai r c pd vw vh with
     |true =>
      have iO:=aa (lG.out wq);rw [hcr] at iO;have HF:=aa (show bI go (bg ⟨vw,vh,Ls,r,c,pd,au⟩)=[]++am vw Ls k from by
       rw [kG.out,show bU ⟨vw,vh,Ls,r,c,pd,au⟩=[] from by unfold bU;rw [if_pos hcr],List.append_nil]
       rcases HG.out with e | e
       ·rw [e];rfl
       ·rw [e];exact eA _)
      clear hcr mq
      go_wp2_with fail
      refine iO.out.mono ?_;rintro e w7 ⟨rfl,b7⟩;have HE:=aa (show ev wb J w (bI go (bg ⟨vw,vh,Ls,r,c,pd,au⟩)) w7 from by
       rw [HF.out];exact ⟨HT.out.keep _ _ _ HJ.out b7,HU.out.trans (Qt.ofBelow b7),HB.out.trans (b7.mono HB.out.size)⟩)
      clear b7 hv0 ij hv3 hv4 l7 iO;go_wp2;exact bodyPost_end (by kernel_rfl) rfl ⟨rfl,HE.out⟩
     |false =>
      have iO:=aa (lG.out wq);rw [hcr] at iO;have lW:=aa (show bU ⟨vw,vh,Ls,r,c,pd,au⟩=[([],8)] from by unfold bU;rw [if_neg (by simp [hcr])]);have HF:=aa (show bI go (bg ⟨vw,vh,Ls,r,c,pd,au⟩)=([]++am vw Ls k)++[([],8)] from by
       rw [kG.out,lW.out]
       rcases HG.out with e | e
       ·rw [e];rfl
       ·rw [e];exact f7)
      clear hcr mq
      go_wp2_with fail
      refine iO.out.mono ?_;rintro e w7 ⟨rfl,b7⟩;have g7:=(lJ.out.below (HB.out.trans (b7.mono HB.out.size))).cell 7 (by decide);simp only [F.glob] at g7;have nI:=(jf.out.below b7 jf.out.lt).cell 0 _ rfl;have HST:=aa (HT.out.step ([]++am vw Ls k) _ [] 8 w7 HG.out (by have:=nU.out;rw [kG.out,lW.out,List.length_append] at this;simp at this ⊢;omega) (HT.out.keep _ _ _ HJ.out b7) (HB.out.trans (b7.mono HB.out.size)) (ErrT.sent (sa:=sa) 7 (by decide)));have np:=aa (HU.out.trans (Qt.ofBelow b7));have lF:=aa (HB.out.trans (b7.mono HB.out.size));clear b7 hv0 ij hv3 hv4 l7 iO
      go_wp2_with fail
      rw [jX.out,Oper.upon_enter];refine HST.out.mono ?_;rintro e w8 ⟨rfl,mu,kw⟩;have HE:=aa (show ev wb J w (bI go (bg ⟨vw,vh,Ls,r,c,pd,au⟩)) w8 from by
       rw [HF.out];exact ⟨mu,np.out.trans kw,bN lF.out kw⟩)
      clear mu kw g7 nI;go_wp2;exact bodyPost_end (by kernel_rfl) rfl ⟨rfl,HE.out⟩
  |true =>
   have lZ:=aa (show dl ⟨vw,vh,Ls,r,c,pd,au⟩=[([],3)] from by
    have h:=gR.out;rw [hbd] at h;unfold dl;simp only;rw [if_neg];intro h2;rw [<-iy.out] at h2;rw [h2.1,h2.2.1,h2.2.2] at h
    simp at h)
   replace kn:=lZ;have g2:=(lJ.out.below i3.out).cell 2 (by decide);simp only [F.glob] at g2;have t0:=oc.out.cell 0 _ rfl;have HST:=aa (HT.out.step [] _ [] 3 W2 (.inr rfl) (by have:=nU.out;simp;omega) HJ2.out i3.out (ErrT.sent (sa:=sa) 2 (by decide)));clear hbd lZ gR jF lr
   go_wp2_with fail
   rw [jX.out,Oper.upon_enter];refine HST.out.mono ?_;rintro e w1 ⟨rfl,j5,jO⟩;have jZ:=aa (show J ([([],3)]++am vw Ls 0) w1 from j5);have jP:=aa ((Qt.ofBelow (wb:=wb) gU.out).trans jO);have jJ:=aa (bN i3.out jO);have lV:=aa (jO.has ig.out (by decide));have mn:=aa (jO.has oc.out (by decide));clear j5 jO HST g2 t0
   cases go with
   |false =>
    have HF:=aa (show ev wb J w (bI false (bg ⟨vw,vh,Ls,r,c,pd,au⟩)) w1 from by
     unfold bg;rw [kn.out];exact ⟨jZ.out,jP.out,jJ.out⟩)
    go_wp2
    first | exact bodyPost_end (by kernel_rfl) rfl ⟨rfl,HF.out⟩ | exact bodyPost_ret (v:=.tuple #[]) (by simp [results,Tryd.results46,go_sem]) rfl ⟨rfl,HF.out⟩
   |true =>
    have le:=aa (show True\/([([],3)]:List Fnd)++am vw Ls 0=[] from .inl trivial)
    go_upto_region 3 with (fail)
    have q2:=lV.out.cell 2 _ rfl;go_wp2
    go_loopw [31] (fun iv wr=>∃ k:Nat,k<=n/\iv=.int .i64 k/\(True\/[([],3)]++am vw Ls k=[])/\J ([([],3)]++am vw Ls k) wr/\Qt wb w wr/\Below wb.heap.size wb wr/\Has wr gv [.int .i64 vw,.int .i64 vh,.slice lo n lc,.int .i64 r,.int .i64 c,.bool pd,.bool au] 26/\Has wr gt [.func (.func gf) #[] lb] 86) (fun iv _=>n - (intOf iv).toNat)
    case atStart=>exact ⟨0,Nat.zero_le _,rfl,le.out,jZ.out,jP.out,jJ.out,lV.out,mn.out⟩
    case round =>
     obtain ⟨k,hk,rfl,hg,hj,hu,hb,jM,mr⟩:=hrel;obtain ⟨wq,iE⟩:=ab (wr);subst iE;have HG:=aa hg;have HJ:=aa hj;have HU:=aa hu;have HB:=aa hb;have HV:=aa jM;have jf:=aa mr;clear hg hj hu hb jM mr q2
     by_cases hlt:k<n
     ·obtain ⟨b,off,cv,eo,hb,_,hc0,hc1,hcv⟩:=ik.out k hlt;subst eo;have c0:=(HB.out.cell (p:=⟨b,off+k * 2,none⟩) hb).trans hc0;have c1:=(HB.out.cell (p:=⟨b,off+k * 2+1,none⟩) hb).trans hc1;obtain ⟨Lk,i5⟩:=ab ((Ls.getD k zl).1);obtain ⟨bk,mm⟩:=ab ((Ls.getD k zl).2);rw [<-mm] at c1;rw [<-i5] at hcv;have kf:=aa i5;have nZ:=aa hcv.max;have nA:=aa (show ([([],3)]++am vw Ls k).length+(Lk.length+1)<=N from by
       have:=HRM.out k (by rw [<-iy.out];exact hlt);rw [kn.out] at this;rw [i5];exact this)
      obtain ⟨co,cc,ecv⟩:=hcv.len;obtain ⟨nk,i8⟩:=ab (Lk.length);rw [<-i8] at ecv;subst ecv;have mR:=aa hcv;have jU:(k:Int)<(n:Int):=by omega
      have kc:IntKind.i64.wrap ((k:Int)+1)=(k:Int)+1:=by rw [IntKind.wrap_i64];omega
      have iJ:k<lc:=by omega
      obtain ⟨W5,iH⟩:=ab ((wq.alloc (.cells [Value.int .i64 k].toArray 3)).alloc (.cells [Value.slice co nk cc,.bool bk].toArray 30));obtain ⟨fi,jR⟩:=ab (wq.heap.size);have gQ:Below wq.heap.size wq W5:=by rw [iH];exact (af _ _).alloc (by simp) _
      have kF:Has W5 fi [.int .i64 k] 3:=by rw [iH,jR];exact (Has.new wq [.int .i64 k] _).alloc _
      have lX:Has W5 (fi+1) [.slice co nk cc,.bool bk] 30:=by
       have h:=Has.new (wq.alloc (.cells [Value.int .i64 k].toArray 3)) [.slice co nk cc,.bool bk] 30;rw [World.size_alloc] at h;rw [iH,jR];exact h
      have ju:=aa iH;have la:=aa jR;have hY:=aa gQ;have HI5:=aa kF;have mh:=aa lX;have mx:=LineJ.tells HT.out ([([],3)]++am vw Ls k) k gt fi (Lk.length+1) (.inl rfl) nA.out;have gV:=aa (dI sa wb true (Lk.length+1) 81 _ _ mx lJ.out _ Lk vw W5 mR.out nZ.out (HB.out.trans (gQ.mono HB.out.size)) ⟨by rw [dk,List.append_nil];exact HT.out.keep _ _ _ HJ.out gQ,jf.out.below gQ jf.out.lt,kF⟩ (Nat.le_refl _));have kT:(wq.alloc (.cells #[Value.int .i64 k] 3)).alloc (.cells #[Value.slice co nk cc,.bool bk] 30)=W5:=ju.out.symm;have li:=la.out.symm;clear hc0 hc1 i5 mm hcv i8 hb iH jR gQ kF lX mx
      go_upto_region 6 with (fail)
      clear kT li;have q0:=(HV.out.below hY.out HV.out.lt).cell 0 _ rfl;have q1:=mh.out.cell 0 _ rfl;clear c0 c1;simp only [Bool.true_or] at gV
      go_wp2_with fail
      refine gV.out.mono ?_;rintro e w6 ⟨rfl,ho⟩;have HE:=aa (show J ([([],3)]++am vw Ls (k+1)) w6/\Qt wb w w6/\Below wb.heap.size wb w6/\Has w6 gv [.int .i64 vw,.int .i64 vh,.slice (some ⟨b,off,none⟩) n lc,.int .i64 r,.int .i64 c,.bool pd,.bool au] 26/\Has w6 gt [.func (.func gf) #[] lb] 86 from by
       rw [bf,<-kf.out,<-List.append_assoc];exact ⟨ho.1.1,(HU.out.trans (Qt.ofBelow hY.out)).trans ho.2.1,ho.2.2,ho.2.1.has (HV.out.below hY.out HV.out.lt) (by decide),ho.1.2.1⟩)
      clear ho q0 q1 gV;go_wp2
      go_roundw
      case rel=>exact ⟨k+1,by omega,by go_num,.inl (by first | rfl | trivial),HE.out.1,HE.out.2.1,HE.out.2.2.1,HE.out.2.2.2.1,HE.out.2.2.2.2⟩
      case measure=>simp [intOf] <;> omega
     ·obtain rfl:k=n:=by omega
      have hv3:=HV.out.cell 3 _ rfl;have hv4:=HV.out.cell 4 _ rfl;have l7:=HV.out.cell 5 _ rfl;have hv0:=HV.out.cell 0 _ rfl;have ij:=HV.out.cell 1 _ rfl;have mq:=jf.out.cell 0 _ rfl;have kG:=aa (show bg ⟨vw,vh,Ls,r,c,pd,au⟩=([([],3)]++am vw Ls k)++bU ⟨vw,vh,Ls,r,c,pd,au⟩ from by
       unfold bg;rw [kn.out];simp only;rw [<-iy.out])
      cases hcr:ai r c pd vw vh with
      |true =>
       have iO:=aa (lG.out wq);rw [hcr] at iO;have HF:=aa (show bI true (bg ⟨vw,vh,Ls,r,c,pd,au⟩)=[([],3)]++am vw Ls k from by
        rw [kG.out,show bU ⟨vw,vh,Ls,r,c,pd,au⟩=[] from by unfold bU;rw [if_pos hcr],List.append_nil]
        rfl)
       clear hcr mq
       go_wp2_with fail
       refine iO.out.mono ?_;rintro e w7 ⟨rfl,b7⟩;have HE:=aa (show ev wb J w (bI true (bg ⟨vw,vh,Ls,r,c,pd,au⟩)) w7 from by
        rw [HF.out];exact ⟨HT.out.keep _ _ _ HJ.out b7,HU.out.trans (Qt.ofBelow b7),HB.out.trans (b7.mono HB.out.size)⟩)
       clear b7 hv0 ij hv3 hv4 l7 iO;go_wp2;exact bodyPost_end (by kernel_rfl) rfl ⟨rfl,HE.out⟩
      |false =>
       have iO:=aa (lG.out wq);rw [hcr] at iO;have lW:=aa (show bU ⟨vw,vh,Ls,r,c,pd,au⟩=[([],8)] from by unfold bU;rw [if_neg (by simp [hcr])]);have HF:=aa (show bI true (bg ⟨vw,vh,Ls,r,c,pd,au⟩)=([([],3)]++am vw Ls k)++[([],8)] from by
        rw [kG.out,lW.out]
        rfl)
       clear hcr mq
       go_wp2_with fail
       refine iO.out.mono ?_;rintro e w7 ⟨rfl,b7⟩;have g7:=(lJ.out.below (HB.out.trans (b7.mono HB.out.size))).cell 7 (by decide);simp only [F.glob] at g7;have nI:=(jf.out.below b7 jf.out.lt).cell 0 _ rfl;have HST:=aa (HT.out.step ([([],3)]++am vw Ls k) _ [] 8 w7 (.inl rfl) (by have:=nU.out;rw [kG.out,lW.out,List.length_append] at this;simp at this ⊢;omega) (HT.out.keep _ _ _ HJ.out b7) (HB.out.trans (b7.mono HB.out.size)) (ErrT.sent (sa:=sa) 7 (by decide)));have np:=aa (HU.out.trans (Qt.ofBelow b7));have lF:=aa (HB.out.trans (b7.mono HB.out.size));clear b7 hv0 ij hv3 hv4 l7 iO
       go_wp2_with fail
       rw [jX.out,Oper.upon_enter];refine HST.out.mono ?_;rintro e w8 ⟨rfl,mu,kw⟩;have HE:=aa (show ev wb J w (bI true (bg ⟨vw,vh,Ls,r,c,pd,au⟩)) w8 from by
        rw [HF.out];exact ⟨mu,np.out.trans kw,bN lF.out kw⟩)
       clear mu kw g7 nI;go_wp2;exact bodyPost_end (by kernel_rfl) rfl ⟨rfl,HE.out⟩
end Go.Proofs.YthdphijabffpiaaDoor
