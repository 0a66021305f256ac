import Derived.Test.YthdphijabffpiaaDoorZ0
import Derived.Test.YthdphijabffpiaaDoorAudC
set_option maxRecDepth 100000
set_option linter.unusedVariables false
set_option linter.unusedSimpArgs false
set_option maxHeartbeats 3000000
namespace Go.Proofs.YthdphijabffpiaaDoor
open Go.RowKit Go.ChangeShapes Go.WideShapes
theorem bm(w:Int)(Ls:List Ln){k n:Nat}(h:k<=n):∃ t,aj w Ls n=aj w Ls k++t:=by
 induction n with
 |zero =>
  obtain rfl:k=0:=by omega
  exact ⟨[],by simp⟩
 |succ n ih =>
  by_cases hk:k=n+1
  ·subst hk;exact ⟨[],by simp⟩
  ·obtain ⟨t,ht⟩:=ih (by omega);exact ⟨t++aC n (aA w (Ls.getD n zl).1),by rw [aG,ht,List.append_assoc]⟩
def bh(v:Vw)(lv:Value):Value:=.agg #[.int .i64 v.w,.int .i64 v.h,lv,.int .i64 v.r,.int .i64 v.c,.bool v.pd,.bool v.au]
def bW(v:Vw)(lv:Value):List Value:=[.int .i64 v.w,.int .i64 v.h,lv,.int .i64 v.r,.int .i64 v.c,.bool v.pd,.bool v.au]
def ViewAt(wb:World)(v:Vw)(lv:Value):Prop:=HeldE lineE (fun _=>True) wb lv v.L /\ -9223372036854775808<=v.w/\v.w<=9223372036854775807 /\ -9223372036854775808<=v.h/\v.h<=9223372036854775807
def dB(v:Vw)(N:Nat):Prop:=∀ i,i<v.L.length->(aO v++aj v.w v.L i).length+((v.L.getD i zl).1.length+1)<=N
theorem cD(sa:Nat->Addr)(wb:World)(go:Bool)(N:Nat)(gf:Nat)(lb:Array Value)(J:List Fnd->World->Prop)(hT:Tells sa wb go N gf lb J)(hs:F.Sents wb sa)(v:Vw)(lv:Value)(w:World)(hv:ViewAt wb v lv)
  (hw:Below wb.heap.size wb w) (hJ:J [] w) (hN:(ay v).length+1<=N) (hR:dB v N) :
  Calls Tryd.prog 46 #[bh v lv,.func (.func gf) #[] lb] w (fun e w'=>e=.returned (.tuple #[])/\cW wb J w (a6 go (ay v)) w'):=by
 obtain ⟨vw,vh,Ls,r,c,pd,au⟩:=v;obtain ⟨fP,w0,w1,h0,h1⟩:=hv;simp only at fP w0 w1 h0 h1;have j0:=fP.max;unfold bh;simp only;obtain ⟨lo,lc,rfl⟩:=fP.len;have hlc:=(aW fP).2.1;have hZ:=aa (aW fP).2.2;have HT:=aa hT;have hX:=aa hT.enter;have iR:=aa hs;have HRM:=aa hR;have ju:=aa hN;have im:=trivial;have iM:=aa (fun (w':World)=>cG vw w');have iU:=aa (fun (w':World)=>cG vh w');have iO:=aa (fun (w':World)=>dA r c pd vw vh w');obtain ⟨n,hn⟩:=ab (Ls.length);have fD:=aa hn;rw [<-hn] at hlc j0 hZ ⊢;obtain ⟨W2,hW2⟩:=ab ((w.alloc (.cells [Value.int .i64 vw,.int .i64 vh,.slice lo n lc,.int .i64 r,.int .i64 c,.bool pd,.bool au].toArray 26)).alloc (.cells [Value.func (.func gf) #[] lb].toArray 86));obtain ⟨gv,gN⟩:=ab (w.heap.size);obtain ⟨gt,jY⟩:=ab (w.heap.size+1);have hb2:Below w.heap.size w W2:=by rw [hW2];exact (af _ _).alloc (by simp) _
 have hv2:Has W2 gv [.int .i64 vw,.int .i64 vh,.slice lo n lc,.int .i64 r,.int .i64 c,.bool pd,.bool au] 26:=by rw [hW2,gN];exact (Has.new w _ _).alloc _
 have ht2:Has W2 gt [.func (.func gf) #[] lb] 86:=by
  have h:=Has.new (w.alloc (.cells [Value.int .i64 vw,.int .i64 vh,.slice lo n lc,.int .i64 r,.int .i64 c,.bool pd,.bool au].toArray 26)) [Value.func (.func gf) #[] lb] 86;rw [World.size_alloc] at h;rw [hW2,jY];exact h
 have jh:=aa hv2;have jS:=aa ht2;have fs:=aa hb2;have HJ2:=aa (hT.keep _ _ _ hJ hb2);have jB:=aa (hw.trans (hb2.mono hw.size));have jt:=aa (show w.heap.size<=gv by omega);have HGT:=aa (show w.heap.size<=gt by omega);have gT:=aa hW2;have HGS:=aa (And.intro gN jY);clear hW2 hb2 hv2 ht2 hJ hw hT hs fP hn hR hN gN jY;obtain ⟨bad,gA⟩ : ∃ bad,bad = !(aq vw && aq vh && (vh == (n:Int))):=⟨_,rfl⟩;have fr:=aa gA;clear gA;have gk:(w.alloc (.cells #[Value.int .i64 vw,.int .i64 vh,.slice lo n lc,.int .i64 r,.int .i64 c,.bool pd,.bool au] 26)).alloc (.cells #[Value.func (.func gf) #[] lb] 86)=W2:=gT.out.symm
 go_enter Tryd.func46,Tryd.ntmps46
 go_upto_region 1 with (fail)
 rw [<-HGS.out.2,<-HGS.out.1];clear gk
 go_cut [23] from 6 to 23 (fun tv wx=>tv=.bool bad/\wx=W2)
 case first =>
  have q0:=jh.out.cell 0 _ rfl;have q1:=jh.out.cell 1 _ rfl;have q2:=jh.out.cell 2 _ rfl
  cases hs1:aq vw with
  |false =>
   rw [hs1] at iM fr;have fY:=aa (show bad=true from by rw [fr.out];rfl);clear hs1
   go_wp2_with fail
   refine (iM.out _).mono ?_;rintro e w' ⟨rfl,rfl⟩
   go_wp2_with fail
   go_meet;exact ⟨by rw [fY.out],rfl⟩
  |true =>
   rw [hs1] at iM fr
   cases hs2:aq vh with
   |false =>
    rw [hs2] at iU fr;have fY:=aa (show bad=true from by rw [fr.out];rfl);clear hs1 hs2
    go_wp2_with fail
    refine (iM.out _).mono ?_;rintro e w' ⟨rfl,rfl⟩
    go_wp2_with fail
    refine (iU.out _).mono ?_;rintro e w' ⟨rfl,rfl⟩
    go_wp2_with fail
    go_meet;exact ⟨by rw [fY.out],rfl⟩
   |true =>
    rw [hs2] at iU fr;have fY:=aa (show bad=(vh != (n:Int)) from by rw [fr.out];simp [bne]);clear hs1 hs2
    go_wp2_with fail
    refine (iM.out _).mono ?_;rintro e w' ⟨rfl,rfl⟩
    go_wp2_with fail
    refine (iU.out _).mono ?_;rintro e w' ⟨rfl,rfl⟩
    go_wp2_with fail
    go_meet;exact ⟨by rw [fY.out],rfl⟩
 case rest =>
  obtain ⟨rfl,hwc⟩:=hcut;subst wc
  cases hbd:bad with
  |false =>
   have gD:=aa (show aO ⟨vw,vh,Ls,r,c,pd,au⟩=[] from by
    have h:=fr.out;rw [hbd] at h;unfold aO;simp only;rw [if_pos];have h2:(aq vw && aq vh && (vh == (n:Int)))=true:=by simpa using h.symm
    rw [Bool.and_eq_true,Bool.and_eq_true,beq_iff_eq] at h2;rw [<-fD.out];exact ⟨h2.1.1,h2.1.2,h2.2⟩)
   replace im:=gD;have ib:=aa (show J ([]++aj vw Ls 0) W2 from HJ2.out);have iz:=aa (show go=true\/([]:List Fnd)++aj vw Ls 0=[] from .inr rfl);have hS:=aa (Qt.ofBelow (wb:=wb) fs.out);have hO:=jB;have ik:=jh;have g8:=jS;clear hbd gD fr iM iU
   go_upto_region 3 with (fail)
   have q2:=ik.out.cell 2 _ rfl;go_wp2
   go_loopw [31] (fun iv wr=>∃ k:Nat,k<=n/\iv=.int .i64 k/\(go=true\/[]++aj vw Ls k=[])/\J ([]++aj vw Ls k) wr/\Qt wb w wr/\Below wb.heap.size wb wr/\Has wr gv [.int .i64 vw,.int .i64 vh,.slice lo n lc,.int .i64 r,.int .i64 c,.bool pd,.bool au] 26/\Has wr gt [.func (.func gf) #[] lb] 86) (fun iv _=>n - (intOf iv).toNat)
   case atStart=>exact ⟨0,Nat.zero_le _,rfl,iz.out,ib.out,hS.out,hO.out,ik.out,g8.out⟩
   case round =>
    obtain ⟨k,hk,rfl,hg,hj,hu,hb,hP,jg⟩:=hrel;obtain ⟨wq,gL⟩:=ab (wr);subst gL;have HG:=aa hg;have HJ:=aa hj;have HU:=aa hu;have HB:=aa hb;have HV:=aa hP;have gZ:=aa jg;clear hg hj hu hb hP jg q2
    by_cases hlt:k<n
    ·obtain ⟨b,off,cv,eo,hb,_,hc0,hc1,hcv⟩:=hZ.out k hlt;subst eo;have c0:=(HB.out.cell (p:=⟨b,off+k * 2,none⟩) hb).trans hc0;have c1:=(HB.out.cell (p:=⟨b,off+k * 2+1,none⟩) hb).trans hc1;obtain ⟨Lk,gx⟩:=ab ((Ls.getD k zl).1);obtain ⟨bk,jk⟩:=ab ((Ls.getD k zl).2);rw [<-jk] at c1;rw [<-gx] at hcv;have iN:=aa gx;have fF:=aa hcv.max;have j6:=aa (show ([]++aj vw Ls k).length+(Lk.length+1)<=N from by
      have:=HRM.out k (by rw [<-fD.out];exact hlt);rw [im.out] at this;rw [gx];exact this)
     obtain ⟨co,cc,ecv⟩:=hcv.len;obtain ⟨nk,gq⟩:=ab (Lk.length);rw [<-gq] at ecv;subst ecv;have il:=aa hcv;have ig:(k:Int)<(n:Int):=by omega
     have iy:IntKind.i64.wrap ((k:Int)+1)=(k:Int)+1:=by rw [IntKind.wrap_i64];omega
     have jJ:k<lc:=by omega
     obtain ⟨W5,gV⟩:=ab ((wq.alloc (.cells [Value.int .i64 k].toArray 3)).alloc (.cells [Value.slice co nk cc,.bool bk].toArray 30));obtain ⟨fi,ie⟩:=ab (wq.heap.size);have gU:Below wq.heap.size wq W5:=by rw [gV];exact (af _ _).alloc (by simp) _
     have iL:Has W5 fi [.int .i64 k] 3:=by rw [gV,ie];exact (Has.new wq [.int .i64 k] _).alloc _
     have ji:Has W5 (fi+1) [.slice co nk cc,.bool bk] 30:=by
      have h:=Has.new (wq.alloc (.cells [Value.int .i64 k].toArray 3)) [.slice co nk cc,.bool bk] 30;rw [World.size_alloc] at h;rw [gV,ie];exact h
     have kc:=aa gV;have gw:=aa ie;have g9:=aa gU;have HI5:=aa iL;have kg:=aa ji;have jl:=LineJ.tells HT.out ([]++aj vw Ls k) k gt fi (Lk.length+1) HG.out j6.out;have gd:=aa (cF sa wb go (Lk.length+1) 81 _ _ jl iR.out _ Lk vw W5 il.out fF.out (HB.out.trans (gU.mono HB.out.size)) ⟨by rw [bn,List.append_nil];exact HT.out.keep _ _ _ HJ.out gU,gZ.out.below gU gZ.out.lt,iL⟩ (Nat.le_refl _));have iF:(wq.alloc (.cells #[Value.int .i64 k] 3)).alloc (.cells #[Value.slice co nk cc,.bool bk] 30)=W5:=kc.out.symm;have iH:=gw.out.symm;clear hc0 hc1 gx jk hcv gq hb gV ie gU iL ji jl
     go_upto_region 6 with (fail)
     clear iF iH;have q0:=(HV.out.below g9.out HV.out.lt).cell 0 _ rfl;have q1:=kg.out.cell 0 _ rfl;clear c0 c1
     cases go with
     |true =>
      simp only [Bool.true_or] at gd
      go_wp2_with fail
      refine gd.out.mono ?_;rintro e w6 ⟨rfl,ho⟩;have HE:=aa (show J ([]++aj vw Ls (k+1)) w6/\Qt wb w w6/\Below wb.heap.size wb w6/\Has w6 gv [.int .i64 vw,.int .i64 vh,.slice (some ⟨b,off,none⟩) n lc,.int .i64 r,.int .i64 c,.bool pd,.bool au] 26/\Has w6 gt [.func (.func gf) #[] lb] 86 from by
       rw [aG,<-iN.out,<-List.append_assoc];exact ⟨ho.1.1,(HU.out.trans (Qt.ofBelow g9.out)).trans ho.2.1,ho.2.2,ho.2.1.has (HV.out.below g9.out HV.out.lt) (by decide),ho.1.2.1⟩)
      clear ho q0 q1 gd;go_wp2
      go_roundw
      case rel=>exact ⟨k+1,by omega,by go_num,.inl (by first | rfl | trivial),HE.out.1,HE.out.2.1,HE.out.2.2.1,HE.out.2.2.2.1,HE.out.2.2.2.2⟩
      case measure=>simp [intOf] <;> omega
     |false =>
      have h9:[]++aj vw Ls k=[]:=HG.out.resolve_left (by decide)
      cases hE:(aA vw Lk).isEmpty with
      |true =>
       rw [hE] at gd;simp only [Bool.or_true] at gd;have h8:aA vw Lk=[]:=List.isEmpty_iff.1 hE;have i9:=aa (show []++aj vw Ls (k+1)=[]/\a6 false (aA vw Lk)=[] from by
        rw [aG,<-iN.out,<-List.append_assoc,h9,h8];exact ⟨rfl,rfl⟩)
       have H9:=aa h9;clear hE h8 h9
       go_wp2_with fail
       refine gd.out.mono ?_;rintro e w6 ⟨rfl,ho⟩;have HE:=aa (show J ([]++aj vw Ls (k+1)) w6/\Qt wb w w6/\Below wb.heap.size wb w6/\Has w6 gv [.int .i64 vw,.int .i64 vh,.slice (some ⟨b,off,none⟩) n lc,.int .i64 r,.int .i64 c,.bool pd,.bool au] 26/\Has w6 gt [.func (.func gf) #[] lb] 86 from by
        have h7:=ho.1.1;rw [i9.out.2,bn,List.append_nil,H9.out] at h7;rw [i9.out.1];exact ⟨h7,(HU.out.trans (Qt.ofBelow g9.out)).trans ho.2.1,ho.2.2,ho.2.1.has (HV.out.below g9.out HV.out.lt) (by decide),ho.1.2.1⟩)
       clear ho q0 q1 gd;go_wp2
       go_roundw
       case rel=>exact ⟨k+1,by omega,by go_num,.inr i9.out.1,HE.out.1,HE.out.2.1,HE.out.2.2.1,HE.out.2.2.2.1,HE.out.2.2.2.2⟩
       case measure=>simp [intOf] <;> omega
      |false =>
       rw [hE] at gd;simp only [Bool.or_self] at gd;have i9:=aa (show a6 false (ay ⟨vw,vh,Ls,r,c,pd,au⟩)=([]++aj vw Ls k)++aC k (a6 false (aA vw Lk)) from by
        obtain ⟨t,ht⟩:=bm vw Ls (show k+1<=Ls.length by rw [<-fD.out];omega);obtain ⟨x,t2,hx⟩ : ∃ x t2,aA vw Lk=x :: t2:=by
         cases hq:aA vw Lk with
         | nil=>rw [hq] at hE;cases hE
         | cons x t2=>exact ⟨x,t2,rfl⟩
        unfold ay;rw [im.out];simp only;rw [ht,aG,<-iN.out,hx,<-List.append_assoc,<-List.append_assoc,h9]
        rfl)
       clear hE h9
       go_wp2_with fail
       refine gd.out.mono ?_;rintro e w6 ⟨rfl,ho⟩;have HE:=aa (show cW wb J w (a6 false (ay ⟨vw,vh,Ls,r,c,pd,au⟩)) w6 from by
        rw [i9.out];exact ⟨ho.1.1,(HU.out.trans (Qt.ofBelow g9.out)).trans ho.2.1,ho.2.2⟩)
       clear ho q0 q1 gd;go_wp2
       first | exact bodyPost_end (by kernel_rfl) rfl ⟨rfl,HE.out⟩ | exact bodyPost_ret (v:=.tuple #[]) (by simp [results,Tryd.results46,go_sem]) rfl ⟨rfl,HE.out⟩
    ·obtain rfl:k=n:=by omega
     have hv3:=HV.out.cell 3 _ rfl;have hv4:=HV.out.cell 4 _ rfl;have jw:=HV.out.cell 5 _ rfl;have hv0:=HV.out.cell 0 _ rfl;have fO:=HV.out.cell 1 _ rfl;have fT:=gZ.out.cell 0 _ rfl;have gJ:=aa (show ay ⟨vw,vh,Ls,r,c,pd,au⟩=([]++aj vw Ls k)++aN ⟨vw,vh,Ls,r,c,pd,au⟩ from by
      unfold ay;rw [im.out];simp only;rw [<-fD.out])
     cases hcr:an r c pd vw vh with
     |true =>
      have fE:=aa (iO.out wq);rw [hcr] at fE;have HF:=aa (show a6 go (ay ⟨vw,vh,Ls,r,c,pd,au⟩)=[]++aj vw Ls k from by
       rw [gJ.out,show aN ⟨vw,vh,Ls,r,c,pd,au⟩=[] from by unfold aN;rw [if_pos hcr],List.append_nil]
       rcases HG.out with e | e
       ·rw [e];rfl
       ·rw [e];exact c3 _)
      clear hcr fT
      go_wp2_with fail
      refine fE.out.mono ?_;rintro e w7 ⟨rfl,b7⟩;have HE:=aa (show cW wb J w (a6 go (ay ⟨vw,vh,Ls,r,c,pd,au⟩)) w7 from by
       rw [HF.out];exact ⟨HT.out.keep _ _ _ HJ.out b7,HU.out.trans (Qt.ofBelow b7),HB.out.trans (b7.mono HB.out.size)⟩)
      clear b7 hv0 fO hv3 hv4 jw fE;go_wp2;exact bodyPost_end (by kernel_rfl) rfl ⟨rfl,HE.out⟩
     |false =>
      have fE:=aa (iO.out wq);rw [hcr] at fE;have ic:=aa (show aN ⟨vw,vh,Ls,r,c,pd,au⟩=[([],8)] from by unfold aN;rw [if_neg (by simp [hcr])]);have HF:=aa (show a6 go (ay ⟨vw,vh,Ls,r,c,pd,au⟩)=([]++aj vw Ls k)++[([],8)] from by
       rw [gJ.out,ic.out]
       rcases HG.out with e | e
       ·rw [e];rfl
       ·rw [e];exact ei)
      clear hcr fT
      go_wp2_with fail
      refine fE.out.mono ?_;rintro e w7 ⟨rfl,b7⟩;have g7:=(iR.out.below (HB.out.trans (b7.mono HB.out.size))).cell 7 (by decide);simp only [F.glob] at g7;have jP:=(gZ.out.below b7 gZ.out.lt).cell 0 _ rfl;have HST:=aa (HT.out.step ([]++aj vw Ls k) _ [] 8 w7 HG.out (by have:=ju.out;rw [gJ.out,ic.out,List.length_append] at this;simp at this ⊢;omega) (HT.out.keep _ _ _ HJ.out b7) (HB.out.trans (b7.mono HB.out.size)) (ErrT.sent (sa:=sa) 7 (by decide)));have jZ:=aa (HU.out.trans (Qt.ofBelow b7));have kh:=aa (HB.out.trans (b7.mono HB.out.size));clear b7 hv0 fO hv3 hv4 jw fE
      go_wp2_with fail
      rw [hX.out,Oper.upon_enter];refine HST.out.mono ?_;rintro e w8 ⟨rfl,jx,iB⟩;have HE:=aa (show cW wb J w (a6 go (ay ⟨vw,vh,Ls,r,c,pd,au⟩)) w8 from by
       rw [HF.out];exact ⟨jx,jZ.out.trans iB,a9 kh.out iB⟩)
      clear jx iB g7 jP;go_wp2;exact bodyPost_end (by kernel_rfl) rfl ⟨rfl,HE.out⟩
  |true =>
   have gD:=aa (show aO ⟨vw,vh,Ls,r,c,pd,au⟩=[([],3)] from by
    have h:=fr.out;rw [hbd] at h;unfold aO;simp only;rw [if_neg];intro h2;rw [<-fD.out] at h2;rw [h2.1,h2.2.1,h2.2.2] at h
    simp at h)
   replace im:=gD;have g2:=(iR.out.below jB.out).cell 2 (by decide);simp only [F.glob] at g2;have t0:=jS.out.cell 0 _ rfl;have HST:=aa (HT.out.step [] _ [] 3 W2 (.inr rfl) (by have:=ju.out;simp;omega) HJ2.out jB.out (ErrT.sent (sa:=sa) 2 (by decide)));clear hbd gD fr iM iU
   go_wp2_with fail
   rw [hX.out,Oper.upon_enter];refine HST.out.mono ?_;rintro e w1 ⟨rfl,jr,gI⟩;have ib:=aa (show J ([([],3)]++aj vw Ls 0) w1 from jr);have hS:=aa ((Qt.ofBelow (wb:=wb) fs.out).trans gI);have hO:=aa (a9 jB.out gI);have ik:=aa (gI.has jh.out (by decide));have g8:=aa (gI.has jS.out (by decide));clear jr gI HST g2 t0
   cases go with
   |false =>
    have HF:=aa (show cW wb J w (a6 false (ay ⟨vw,vh,Ls,r,c,pd,au⟩)) w1 from by
     unfold ay;rw [im.out];exact ⟨ib.out,hS.out,hO.out⟩)
    go_wp2
    first | exact bodyPost_end (by kernel_rfl) rfl ⟨rfl,HF.out⟩ | exact bodyPost_ret (v:=.tuple #[]) (by simp [results,Tryd.results46,go_sem]) rfl ⟨rfl,HF.out⟩
   |true =>
    have iz:=aa (show True\/([([],3)]:List Fnd)++aj vw Ls 0=[] from .inl trivial)
    go_upto_region 3 with (fail)
    have q2:=ik.out.cell 2 _ rfl;go_wp2
    go_loopw [31] (fun iv wr=>∃ k:Nat,k<=n/\iv=.int .i64 k/\(True\/[([],3)]++aj vw Ls k=[])/\J ([([],3)]++aj vw Ls k) wr/\Qt wb w wr/\Below wb.heap.size wb wr/\Has wr gv [.int .i64 vw,.int .i64 vh,.slice lo n lc,.int .i64 r,.int .i64 c,.bool pd,.bool au] 26/\Has wr gt [.func (.func gf) #[] lb] 86) (fun iv _=>n - (intOf iv).toNat)
    case atStart=>exact ⟨0,Nat.zero_le _,rfl,iz.out,ib.out,hS.out,hO.out,ik.out,g8.out⟩
    case round =>
     obtain ⟨k,hk,rfl,hg,hj,hu,hb,hP,jg⟩:=hrel;obtain ⟨wq,gL⟩:=ab (wr);subst gL;have HG:=aa hg;have HJ:=aa hj;have HU:=aa hu;have HB:=aa hb;have HV:=aa hP;have gZ:=aa jg;clear hg hj hu hb hP jg q2
     by_cases hlt:k<n
     ·obtain ⟨b,off,cv,eo,hb,_,hc0,hc1,hcv⟩:=hZ.out k hlt;subst eo;have c0:=(HB.out.cell (p:=⟨b,off+k * 2,none⟩) hb).trans hc0;have c1:=(HB.out.cell (p:=⟨b,off+k * 2+1,none⟩) hb).trans hc1;obtain ⟨Lk,gx⟩:=ab ((Ls.getD k zl).1);obtain ⟨bk,jk⟩:=ab ((Ls.getD k zl).2);rw [<-jk] at c1;rw [<-gx] at hcv;have iN:=aa gx;have fF:=aa hcv.max;have j6:=aa (show ([([],3)]++aj vw Ls k).length+(Lk.length+1)<=N from by
       have:=HRM.out k (by rw [<-fD.out];exact hlt);rw [im.out] at this;rw [gx];exact this)
      obtain ⟨co,cc,ecv⟩:=hcv.len;obtain ⟨nk,gq⟩:=ab (Lk.length);rw [<-gq] at ecv;subst ecv;have il:=aa hcv;have ig:(k:Int)<(n:Int):=by omega
      have iy:IntKind.i64.wrap ((k:Int)+1)=(k:Int)+1:=by rw [IntKind.wrap_i64];omega
      have jJ:k<lc:=by omega
      obtain ⟨W5,gV⟩:=ab ((wq.alloc (.cells [Value.int .i64 k].toArray 3)).alloc (.cells [Value.slice co nk cc,.bool bk].toArray 30));obtain ⟨fi,ie⟩:=ab (wq.heap.size);have gU:Below wq.heap.size wq W5:=by rw [gV];exact (af _ _).alloc (by simp) _
      have iL:Has W5 fi [.int .i64 k] 3:=by rw [gV,ie];exact (Has.new wq [.int .i64 k] _).alloc _
      have ji:Has W5 (fi+1) [.slice co nk cc,.bool bk] 30:=by
       have h:=Has.new (wq.alloc (.cells [Value.int .i64 k].toArray 3)) [.slice co nk cc,.bool bk] 30;rw [World.size_alloc] at h;rw [gV,ie];exact h
      have kc:=aa gV;have gw:=aa ie;have g9:=aa gU;have HI5:=aa iL;have kg:=aa ji;have jl:=LineJ.tells HT.out ([([],3)]++aj vw Ls k) k gt fi (Lk.length+1) (.inl rfl) j6.out;have gd:=aa (cF sa wb true (Lk.length+1) 81 _ _ jl iR.out _ Lk vw W5 il.out fF.out (HB.out.trans (gU.mono HB.out.size)) ⟨by rw [bn,List.append_nil];exact HT.out.keep _ _ _ HJ.out gU,gZ.out.below gU gZ.out.lt,iL⟩ (Nat.le_refl _));have iF:(wq.alloc (.cells #[Value.int .i64 k] 3)).alloc (.cells #[Value.slice co nk cc,.bool bk] 30)=W5:=kc.out.symm;have iH:=gw.out.symm;clear hc0 hc1 gx jk hcv gq hb gV ie gU iL ji jl
      go_upto_region 6 with (fail)
      clear iF iH;have q0:=(HV.out.below g9.out HV.out.lt).cell 0 _ rfl;have q1:=kg.out.cell 0 _ rfl;clear c0 c1;simp only [Bool.true_or] at gd
      go_wp2_with fail
      refine gd.out.mono ?_;rintro e w6 ⟨rfl,ho⟩;have HE:=aa (show J ([([],3)]++aj vw Ls (k+1)) w6/\Qt wb w w6/\Below wb.heap.size wb w6/\Has w6 gv [.int .i64 vw,.int .i64 vh,.slice (some ⟨b,off,none⟩) n lc,.int .i64 r,.int .i64 c,.bool pd,.bool au] 26/\Has w6 gt [.func (.func gf) #[] lb] 86 from by
       rw [aG,<-iN.out,<-List.append_assoc];exact ⟨ho.1.1,(HU.out.trans (Qt.ofBelow g9.out)).trans ho.2.1,ho.2.2,ho.2.1.has (HV.out.below g9.out HV.out.lt) (by decide),ho.1.2.1⟩)
      clear ho q0 q1 gd;go_wp2
      go_roundw
      case rel=>exact ⟨k+1,by omega,by go_num,.inl (by first | rfl | trivial),HE.out.1,HE.out.2.1,HE.out.2.2.1,HE.out.2.2.2.1,HE.out.2.2.2.2⟩
      case measure=>simp [intOf] <;> omega
     ·obtain rfl:k=n:=by omega
      have hv3:=HV.out.cell 3 _ rfl;have hv4:=HV.out.cell 4 _ rfl;have jw:=HV.out.cell 5 _ rfl;have hv0:=HV.out.cell 0 _ rfl;have fO:=HV.out.cell 1 _ rfl;have fT:=gZ.out.cell 0 _ rfl;have gJ:=aa (show ay ⟨vw,vh,Ls,r,c,pd,au⟩=([([],3)]++aj vw Ls k)++aN ⟨vw,vh,Ls,r,c,pd,au⟩ from by
       unfold ay;rw [im.out];simp only;rw [<-fD.out])
      cases hcr:an r c pd vw vh with
      |true =>
       have fE:=aa (iO.out wq);rw [hcr] at fE;have HF:=aa (show a6 true (ay ⟨vw,vh,Ls,r,c,pd,au⟩)=[([],3)]++aj vw Ls k from by
        rw [gJ.out,show aN ⟨vw,vh,Ls,r,c,pd,au⟩=[] from by unfold aN;rw [if_pos hcr],List.append_nil]
        rfl)
       clear hcr fT
       go_wp2_with fail
       refine fE.out.mono ?_;rintro e w7 ⟨rfl,b7⟩;have HE:=aa (show cW wb J w (a6 true (ay ⟨vw,vh,Ls,r,c,pd,au⟩)) w7 from by
        rw [HF.out];exact ⟨HT.out.keep _ _ _ HJ.out b7,HU.out.trans (Qt.ofBelow b7),HB.out.trans (b7.mono HB.out.size)⟩)
       clear b7 hv0 fO hv3 hv4 jw fE;go_wp2;exact bodyPost_end (by kernel_rfl) rfl ⟨rfl,HE.out⟩
      |false =>
       have fE:=aa (iO.out wq);rw [hcr] at fE;have ic:=aa (show aN ⟨vw,vh,Ls,r,c,pd,au⟩=[([],8)] from by unfold aN;rw [if_neg (by simp [hcr])]);have HF:=aa (show a6 true (ay ⟨vw,vh,Ls,r,c,pd,au⟩)=([([],3)]++aj vw Ls k)++[([],8)] from by
        rw [gJ.out,ic.out]
        rfl)
       clear hcr fT
       go_wp2_with fail
       refine fE.out.mono ?_;rintro e w7 ⟨rfl,b7⟩;have g7:=(iR.out.below (HB.out.trans (b7.mono HB.out.size))).cell 7 (by decide);simp only [F.glob] at g7;have jP:=(gZ.out.below b7 gZ.out.lt).cell 0 _ rfl;have HST:=aa (HT.out.step ([([],3)]++aj vw Ls k) _ [] 8 w7 (.inl rfl) (by have:=ju.out;rw [gJ.out,ic.out,List.length_append] at this;simp at this ⊢;omega) (HT.out.keep _ _ _ HJ.out b7) (HB.out.trans (b7.mono HB.out.size)) (ErrT.sent (sa:=sa) 7 (by decide)));have jZ:=aa (HU.out.trans (Qt.ofBelow b7));have kh:=aa (HB.out.trans (b7.mono HB.out.size));clear b7 hv0 fO hv3 hv4 jw fE
       go_wp2_with fail
       rw [hX.out,Oper.upon_enter];refine HST.out.mono ?_;rintro e w8 ⟨rfl,jx,iB⟩;have HE:=aa (show cW wb J w (a6 true (ay ⟨vw,vh,Ls,r,c,pd,au⟩)) w8 from by
        rw [HF.out];exact ⟨jx,jZ.out.trans iB,a9 kh.out iB⟩)
       clear jx iB g7 jP;go_wp2;exact bodyPost_end (by kernel_rfl) rfl ⟨rfl,HE.out⟩
end Go.Proofs.YthdphijabffpiaaDoor
