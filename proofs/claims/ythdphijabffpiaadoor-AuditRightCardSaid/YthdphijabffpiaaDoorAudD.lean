import Derived.Test.YthdphijabffpiaaDoorZ0
import Derived.Test.YthdphijabffpiaaDoorAudC
set_option maxRecDepth 100000
set_option linter.unusedVariables false
set_option linter.unusedSimpArgs false
set_option maxHeartbeats 3000000
namespace Go.Proofs.YthdphijabffpiaaDoor
open Go.RowKit Go.ChangeShapes Go.WideShapes
theorem bT(w:Int)(Ls:List Ln){k n:Nat}(h:k<=n):∃ t,am w Ls n=am w Ls k++t:=by
 induction n with
 |zero =>
  obtain rfl:k=0:=by omega
  exact ⟨[],by simp⟩
 |succ n ih =>
  by_cases hk:k=n+1
  ·subst hk;exact ⟨[],by simp⟩
  ·obtain ⟨t,ht⟩:=ih (by omega);exact ⟨t++bj n (az w (Ls.getD n zl).1),by rw [aJ,ht,List.append_assoc]⟩
def a6(v:Vw)(lv:Value):Value:=.agg #[.int .i64 v.w,.int .i64 v.h,lv,.int .i64 v.r,.int .i64 v.c,.bool v.pd,.bool v.au]
def bU(v:Vw)(lv:Value):List Value:=[.int .i64 v.w,.int .i64 v.h,lv,.int .i64 v.r,.int .i64 v.c,.bool v.pd,.bool v.au]
def ViewAt(wb:World)(v:Vw)(lv:Value):Prop:=HeldE lineE (fun _=>True) wb lv v.L /\ -9223372036854775808<=v.w/\v.w<=9223372036854775807 /\ -9223372036854775808<=v.h/\v.h<=9223372036854775807
def ei(v:Vw)(N:Nat):Prop:=∀ i,i<v.L.length->(ch v++am v.w v.L i).length+((v.L.getD i zl).1.length+1)<=N
theorem cA(sa:Nat->Addr)(wb:World)(go:Bool)(N:Nat)(gf:Nat)(lb:Array Value)(J:List Fnd->World->Prop)(hT:Tells sa wb go N gf lb J)(hs:F.Sents wb sa)(v:Vw)(lv:Value)(w:World)(hv:ViewAt wb v lv)
  (hw:Below wb.heap.size wb w) (hJ:J [] w) (hN:(aH v).length+1<=N) (hR:ei v N) :
  Calls Tryd.prog 46 #[a6 v lv,.func (.func gf) #[] lb] w (fun e w'=>e=.returned (.tuple #[])/\c5 wb J w (a5 go (aH v)) w'):=by
 obtain ⟨vw,vh,Ls,r,c,pd,au⟩:=v;obtain ⟨fh,w0,w1,h0,h1⟩:=hv;simp only at fh w0 w1 h0 h1;have iD:=fh.max;unfold a6;simp only;obtain ⟨lo,lc,rfl⟩:=fh.len;have hlc:=(aK fh).2.1;have fS:=aa (aK fh).2.2;have HT:=aa hT;have gz:=aa hT.enter;have ia:=aa hs;have HRM:=aa hR;have jA:=aa hN;have gM:=trivial;have fM:=aa (fun (w':World)=>cD vw w');have gm:=aa (fun (w':World)=>cD vh w');have gG:=aa (fun (w':World)=>cu r c pd vw vh w');obtain ⟨n,hn⟩:=ab (Ls.length);have fx:=aa hn;rw [<-hn] at hlc iD fS ⊢;obtain ⟨W2,hW2⟩:=ab ((w.alloc (.cells [Value.int .i64 vw,.int .i64 vh,.slice lo n lc,.int .i64 r,.int .i64 c,.bool pd,.bool au].toArray 26)).alloc (.cells [Value.func (.func gf) #[] lb].toArray 86));obtain ⟨gv,fH⟩:=ab (w.heap.size);obtain ⟨gt,jy⟩:=ab (w.heap.size+1);have hb2:Below w.heap.size w W2:=by rw [hW2];exact (af _ _).alloc (by simp) _
 have hv2:Has W2 gv [.int .i64 vw,.int .i64 vh,.slice lo n lc,.int .i64 r,.int .i64 c,.bool pd,.bool au] 26:=by rw [hW2,fH];exact (Has.new w _ _).alloc _
 have ht2:Has W2 gt [.func (.func gf) #[] lb] 86:=by
  have h:=Has.new (w.alloc (.cells [Value.int .i64 vw,.int .i64 vh,.slice lo n lc,.int .i64 r,.int .i64 c,.bool pd,.bool au].toArray 26)) [Value.func (.func gf) #[] lb] 86;rw [World.size_alloc] at h;rw [hW2,jy];exact h
 have im:=aa hv2;have jo:=aa ht2;have gh:=aa hb2;have HJ2:=aa (hT.keep _ _ _ hJ hb2);have iU:=aa (hw.trans (hb2.mono hw.size));have g9:=aa (show w.heap.size<=gv by omega);have HGT:=aa (show w.heap.size<=gt by omega);have HW2:=aa hW2;have HGS:=aa (And.intro fH jy);clear hW2 hb2 hv2 ht2 hJ hw hT hs fh hn hR hN fH jy;obtain ⟨bad,fc⟩ : ∃ bad,bad = !(aj vw && aj vh && (vh == (n:Int))):=⟨_,rfl⟩;have fa:=aa fc;clear fc;have fE:(w.alloc (.cells #[Value.int .i64 vw,.int .i64 vh,.slice lo n lc,.int .i64 r,.int .i64 c,.bool pd,.bool au] 26)).alloc (.cells #[Value.func (.func gf) #[] lb] 86)=W2:=HW2.out.symm
 go_enter Tryd.func46,Tryd.ntmps46
 go_upto_region 1 with (fail)
 rw [<-HGS.out.2,<-HGS.out.1];clear fE
 go_cut [23] from 6 to 23 (fun tv wx=>tv=.bool bad/\wx=W2)
 case first =>
  have q0:=im.out.cell 0 _ rfl;have q1:=im.out.cell 1 _ rfl;have q2:=im.out.cell 2 _ rfl
  cases hs1:aj vw with
  |false =>
   rw [hs1] at fM fa;have fd:=aa (show bad=true from by rw [fa.out];rfl);clear hs1
   go_wp2_with fail
   refine (fM.out _).mono ?_;rintro e w' ⟨rfl,rfl⟩
   go_wp2_with fail
   go_meet;exact ⟨by rw [fd.out],rfl⟩
  |true =>
   rw [hs1] at fM fa
   cases hs2:aj vh with
   |false =>
    rw [hs2] at gm fa;have fd:=aa (show bad=true from by rw [fa.out];rfl);clear hs1 hs2
    go_wp2_with fail
    refine (fM.out _).mono ?_;rintro e w' ⟨rfl,rfl⟩
    go_wp2_with fail
    refine (gm.out _).mono ?_;rintro e w' ⟨rfl,rfl⟩
    go_wp2_with fail
    go_meet;exact ⟨by rw [fd.out],rfl⟩
   |true =>
    rw [hs2] at gm fa;have fd:=aa (show bad=(vh != (n:Int)) from by rw [fa.out];simp [bne]);clear hs1 hs2
    go_wp2_with fail
    refine (fM.out _).mono ?_;rintro e w' ⟨rfl,rfl⟩
    go_wp2_with fail
    refine (gm.out _).mono ?_;rintro e w' ⟨rfl,rfl⟩
    go_wp2_with fail
    go_meet;exact ⟨by rw [fd.out],rfl⟩
 case rest =>
  obtain ⟨rfl,hwc⟩:=hcut;subst wc
  cases hbd:bad with
  |false =>
   have iy:=aa (show ch ⟨vw,vh,Ls,r,c,pd,au⟩=[] from by
    have h:=fa.out;rw [hbd] at h;unfold ch;simp only;rw [if_pos];have h2:(aj vw && aj vh && (vh == (n:Int)))=true:=by simpa using h.symm
    rw [Bool.and_eq_true,Bool.and_eq_true,beq_iff_eq] at h2;rw [<-fx.out];exact ⟨h2.1.1,h2.1.2,h2.2⟩)
   replace gM:=iy;have gB:=aa (show J ([]++am vw Ls 0) W2 from HJ2.out);have gS:=aa (show go=true\/([]:List Fnd)++am vw Ls 0=[] from .inr rfl);have gA:=aa (Qt.ofBelow (wb:=wb) gh.out);have gw:=iU;have iI:=im;have i9:=jo;clear hbd iy fa fM gm
   go_upto_region 3 with (fail)
   have q2:=iI.out.cell 2 _ rfl;go_wp2
   go_loopw [31] (fun iv wr=>∃ k:Nat,k<=n/\iv=.int .i64 k/\(go=true\/[]++am vw Ls k=[])/\J ([]++am vw Ls k) wr/\Qt wb w wr/\Below wb.heap.size wb wr/\Has wr gv [.int .i64 vw,.int .i64 vh,.slice lo n lc,.int .i64 r,.int .i64 c,.bool pd,.bool au] 26/\Has wr gt [.func (.func gf) #[] lb] 86) (fun iv _=>n - (intOf iv).toNat)
   case atStart=>exact ⟨0,Nat.zero_le _,rfl,gS.out,gB.out,gA.out,gw.out,iI.out,i9.out⟩
   case round =>
    obtain ⟨k,hk,rfl,hg,hj,hu,hb,fv,iH⟩:=hrel;obtain ⟨wq,fO⟩:=ab (wr);subst fO;have HG:=aa hg;have HJ:=aa hj;have HU:=aa hu;have HB:=aa hb;have HV:=aa fv;have gj:=aa iH;clear hg hj hu hb fv iH q2
    by_cases hlt:k<n
    ·obtain ⟨b,off,cv,eo,hb,_,hc0,hc1,hcv⟩:=fS.out k hlt;subst eo;have c0:=(HB.out.cell (p:=⟨b,off+k * 2,none⟩) hb).trans hc0;have c1:=(HB.out.cell (p:=⟨b,off+k * 2+1,none⟩) hb).trans hc1;obtain ⟨Lk,fD⟩:=ab ((Ls.getD k zl).1);obtain ⟨bk,gI⟩:=ab ((Ls.getD k zl).2);rw [<-gI] at c1;rw [<-fD] at hcv;have iB:=aa fD;have jt:=aa hcv.max;have jd:=aa (show ([]++am vw Ls k).length+(Lk.length+1)<=N from by
      have:=HRM.out k (by rw [<-fx.out];exact hlt);rw [gM.out] at this;rw [fD];exact this)
     obtain ⟨co,cc,ecv⟩:=hcv.len;obtain ⟨nk,fA⟩:=ab (Lk.length);rw [<-fA] at ecv;subst ecv;have jc:=aa hcv;have gx:(k:Int)<(n:Int):=by omega
     have gH:IntKind.i64.wrap ((k:Int)+1)=(k:Int)+1:=by rw [IntKind.wrap_i64];omega
     have gy:k<lc:=by omega
     obtain ⟨W5,fC⟩:=ab ((wq.alloc (.cells [Value.int .i64 k].toArray 3)).alloc (.cells [Value.slice co nk cc,.bool bk].toArray 30));obtain ⟨fi,fR⟩:=ab (wq.heap.size);have fm:Below wq.heap.size wq W5:=by rw [fC];exact (af _ _).alloc (by simp) _
     have hP:Has W5 fi [.int .i64 k] 3:=by rw [fC,fR];exact (Has.new wq [.int .i64 k] _).alloc _
     have gL:Has W5 (fi+1) [.slice co nk cc,.bool bk] 30:=by
      have h:=Has.new (wq.alloc (.cells [Value.int .i64 k].toArray 3)) [.slice co nk cc,.bool bk] 30;rw [World.size_alloc] at h;rw [fC,fR];exact h
     have i8:=aa fC;have gW:=aa fR;have fw:=aa fm;have HI5:=aa hP;have iA:=aa gL;have ik:=LineJ.tells HT.out ([]++am vw Ls k) k gt fi (Lk.length+1) HG.out jd.out;have fG:=aa (cC sa wb go (Lk.length+1) 81 _ _ ik ia.out _ Lk vw W5 jc.out jt.out (HB.out.trans (fm.mono HB.out.size)) ⟨by rw [cg,List.append_nil];exact HT.out.keep _ _ _ HJ.out fm,gj.out.below fm gj.out.lt,hP⟩ (Nat.le_refl _));have f9:(wq.alloc (.cells #[Value.int .i64 k] 3)).alloc (.cells #[Value.slice co nk cc,.bool bk] 30)=W5:=i8.out.symm;have gn:=gW.out.symm;clear hc0 hc1 fD gI hcv fA hb fC fR fm hP gL ik
     go_upto_region 6 with (fail)
     clear f9 gn;have q0:=(HV.out.below fw.out HV.out.lt).cell 0 _ rfl;have q1:=iA.out.cell 0 _ rfl;clear c0 c1
     cases go with
     |true =>
      simp only [Bool.true_or] at fG
      go_wp2_with fail
      refine fG.out.mono ?_;rintro e w6 ⟨rfl,ho⟩;have HE:=aa (show J ([]++am vw Ls (k+1)) w6/\Qt wb w w6/\Below wb.heap.size wb w6/\Has w6 gv [.int .i64 vw,.int .i64 vh,.slice (some ⟨b,off,none⟩) n lc,.int .i64 r,.int .i64 c,.bool pd,.bool au] 26/\Has w6 gt [.func (.func gf) #[] lb] 86 from by
       rw [aJ,<-iB.out,<-List.append_assoc];exact ⟨ho.1.1,(HU.out.trans (Qt.ofBelow fw.out)).trans ho.2.1,ho.2.2,ho.2.1.has (HV.out.below fw.out HV.out.lt) (by decide),ho.1.2.1⟩)
      clear ho q0 q1 fG;go_wp2
      go_roundw
      case rel=>exact ⟨k+1,by omega,by go_num,.inl (by first | rfl | trivial),HE.out.1,HE.out.2.1,HE.out.2.2.1,HE.out.2.2.2.1,HE.out.2.2.2.2⟩
      case measure=>simp [intOf] <;> omega
     |false =>
      have h9:[]++am vw Ls k=[]:=HG.out.resolve_left (by decide)
      cases hE:(az vw Lk).isEmpty with
      |true =>
       rw [hE] at fG;simp only [Bool.or_true] at fG;have h8:az vw Lk=[]:=List.isEmpty_iff.1 hE;have iq:=aa (show []++am vw Ls (k+1)=[]/\a5 false (az vw Lk)=[] from by
        rw [aJ,<-iB.out,<-List.append_assoc,h9,h8];exact ⟨rfl,rfl⟩)
       have H9:=aa h9;clear hE h8 h9
       go_wp2_with fail
       refine fG.out.mono ?_;rintro e w6 ⟨rfl,ho⟩;have HE:=aa (show J ([]++am vw Ls (k+1)) w6/\Qt wb w w6/\Below wb.heap.size wb w6/\Has w6 gv [.int .i64 vw,.int .i64 vh,.slice (some ⟨b,off,none⟩) n lc,.int .i64 r,.int .i64 c,.bool pd,.bool au] 26/\Has w6 gt [.func (.func gf) #[] lb] 86 from by
        have h7:=ho.1.1;rw [iq.out.2,cg,List.append_nil,H9.out] at h7;rw [iq.out.1];exact ⟨h7,(HU.out.trans (Qt.ofBelow fw.out)).trans ho.2.1,ho.2.2,ho.2.1.has (HV.out.below fw.out HV.out.lt) (by decide),ho.1.2.1⟩)
       clear ho q0 q1 fG;go_wp2
       go_roundw
       case rel=>exact ⟨k+1,by omega,by go_num,.inr iq.out.1,HE.out.1,HE.out.2.1,HE.out.2.2.1,HE.out.2.2.2.1,HE.out.2.2.2.2⟩
       case measure=>simp [intOf] <;> omega
      |false =>
       rw [hE] at fG;simp only [Bool.or_self] at fG;have iq:=aa (show a5 false (aH ⟨vw,vh,Ls,r,c,pd,au⟩)=([]++am vw Ls k)++bj k (a5 false (az vw Lk)) from by
        obtain ⟨t,ht⟩:=bT vw Ls (show k+1<=Ls.length by rw [<-fx.out];omega);obtain ⟨x,t2,hx⟩ : ∃ x t2,az vw Lk=x :: t2:=by
         cases hq:az vw Lk with
         | nil=>rw [hq] at hE;cases hE
         | cons x t2=>exact ⟨x,t2,rfl⟩
        unfold aH;rw [gM.out];simp only;rw [ht,aJ,<-iB.out,hx,<-List.append_assoc,<-List.append_assoc,h9]
        rfl)
       clear hE h9
       go_wp2_with fail
       refine fG.out.mono ?_;rintro e w6 ⟨rfl,ho⟩;have HE:=aa (show c5 wb J w (a5 false (aH ⟨vw,vh,Ls,r,c,pd,au⟩)) w6 from by
        rw [iq.out];exact ⟨ho.1.1,(HU.out.trans (Qt.ofBelow fw.out)).trans ho.2.1,ho.2.2⟩)
       clear ho q0 q1 fG;go_wp2
       first | exact bodyPost_end (by kernel_rfl) rfl ⟨rfl,HE.out⟩ | exact bodyPost_ret (v:=.tuple #[]) (by simp [results,Tryd.results46,go_sem]) rfl ⟨rfl,HE.out⟩
    ·obtain rfl:k=n:=by omega
     have hv3:=HV.out.cell 3 _ rfl;have hv4:=HV.out.cell 4 _ rfl;have ir:=HV.out.cell 5 _ rfl;have hv0:=HV.out.cell 0 _ rfl;have fo:=HV.out.cell 1 _ rfl;have gJ:=gj.out.cell 0 _ rfl;have gT:=aa (show aH ⟨vw,vh,Ls,r,c,pd,au⟩=([]++am vw Ls k)++bh ⟨vw,vh,Ls,r,c,pd,au⟩ from by
      unfold aH;rw [gM.out];simp only;rw [<-fx.out])
     cases hcr:ai r c pd vw vh with
     |true =>
      have fu:=aa (gG.out wq);rw [hcr] at fu;have HF:=aa (show a5 go (aH ⟨vw,vh,Ls,r,c,pd,au⟩)=[]++am vw Ls k from by
       rw [gT.out,show bh ⟨vw,vh,Ls,r,c,pd,au⟩=[] from by unfold bh;rw [if_pos hcr],List.append_nil]
       rcases HG.out with e | e
       ·rw [e];rfl
       ·rw [e];exact c8 _)
      clear hcr gJ
      go_wp2_with fail
      refine fu.out.mono ?_;rintro e w7 ⟨rfl,b7⟩;have HE:=aa (show c5 wb J w (a5 go (aH ⟨vw,vh,Ls,r,c,pd,au⟩)) w7 from by
       rw [HF.out];exact ⟨HT.out.keep _ _ _ HJ.out b7,HU.out.trans (Qt.ofBelow b7),HB.out.trans (b7.mono HB.out.size)⟩)
      clear b7 hv0 fo hv3 hv4 ir fu;go_wp2;exact bodyPost_end (by kernel_rfl) rfl ⟨rfl,HE.out⟩
     |false =>
      have fu:=aa (gG.out wq);rw [hcr] at fu;have it:=aa (show bh ⟨vw,vh,Ls,r,c,pd,au⟩=[([],8)] from by unfold bh;rw [if_neg (by simp [hcr])]);have HF:=aa (show a5 go (aH ⟨vw,vh,Ls,r,c,pd,au⟩)=([]++am vw Ls k)++[([],8)] from by
       rw [gT.out,it.out]
       rcases HG.out with e | e
       ·rw [e];rfl
       ·rw [e];exact em)
      clear hcr gJ
      go_wp2_with fail
      refine fu.out.mono ?_;rintro e w7 ⟨rfl,b7⟩;have g7:=(ia.out.below (HB.out.trans (b7.mono HB.out.size))).cell 7 (by decide);simp only [F.glob] at g7;have je:=(gj.out.below b7 gj.out.lt).cell 0 _ rfl;have HST:=aa (HT.out.step ([]++am vw Ls k) _ [] 8 w7 HG.out (by have:=jA.out;rw [gT.out,it.out,List.length_append] at this;simp at this ⊢;omega) (HT.out.keep _ _ _ HJ.out b7) (HB.out.trans (b7.mono HB.out.size)) (ErrT.sent (sa:=sa) 7 (by decide)));have jj:=aa (HU.out.trans (Qt.ofBelow b7));have js:=aa (HB.out.trans (b7.mono HB.out.size));clear b7 hv0 fo hv3 hv4 ir fu
      go_wp2_with fail
      rw [gz.out,Oper.upon_enter];refine HST.out.mono ?_;rintro e w8 ⟨rfl,ix,gZ⟩;have HE:=aa (show c5 wb J w (a5 go (aH ⟨vw,vh,Ls,r,c,pd,au⟩)) w8 from by
       rw [HF.out];exact ⟨ix,jj.out.trans gZ,a9 js.out gZ⟩)
      clear ix gZ g7 je;go_wp2;exact bodyPost_end (by kernel_rfl) rfl ⟨rfl,HE.out⟩
  |true =>
   have iy:=aa (show ch ⟨vw,vh,Ls,r,c,pd,au⟩=[([],3)] from by
    have h:=fa.out;rw [hbd] at h;unfold ch;simp only;rw [if_neg];intro h2;rw [<-fx.out] at h2;rw [h2.1,h2.2.1,h2.2.2] at h
    simp at h)
   replace gM:=iy;have g2:=(ia.out.below iU.out).cell 2 (by decide);simp only [F.glob] at g2;have t0:=jo.out.cell 0 _ rfl;have HST:=aa (HT.out.step [] _ [] 3 W2 (.inr rfl) (by have:=jA.out;simp;omega) HJ2.out iU.out (ErrT.sent (sa:=sa) 2 (by decide)));clear hbd iy fa fM gm
   go_wp2_with fail
   rw [gz.out,Oper.upon_enter];refine HST.out.mono ?_;rintro e w1 ⟨rfl,io,fW⟩;have gB:=aa (show J ([([],3)]++am vw Ls 0) w1 from io);have gA:=aa ((Qt.ofBelow (wb:=wb) gh.out).trans fW);have gw:=aa (a9 iU.out fW);have iI:=aa (fW.has im.out (by decide));have i9:=aa (fW.has jo.out (by decide));clear io fW HST g2 t0
   cases go with
   |false =>
    have HF:=aa (show c5 wb J w (a5 false (aH ⟨vw,vh,Ls,r,c,pd,au⟩)) w1 from by
     unfold aH;rw [gM.out];exact ⟨gB.out,gA.out,gw.out⟩)
    go_wp2
    first | exact bodyPost_end (by kernel_rfl) rfl ⟨rfl,HF.out⟩ | exact bodyPost_ret (v:=.tuple #[]) (by simp [results,Tryd.results46,go_sem]) rfl ⟨rfl,HF.out⟩
   |true =>
    have gS:=aa (show True\/([([],3)]:List Fnd)++am vw Ls 0=[] from .inl trivial)
    go_upto_region 3 with (fail)
    have q2:=iI.out.cell 2 _ rfl;go_wp2
    go_loopw [31] (fun iv wr=>∃ k:Nat,k<=n/\iv=.int .i64 k/\(True\/[([],3)]++am vw Ls k=[])/\J ([([],3)]++am vw Ls k) wr/\Qt wb w wr/\Below wb.heap.size wb wr/\Has wr gv [.int .i64 vw,.int .i64 vh,.slice lo n lc,.int .i64 r,.int .i64 c,.bool pd,.bool au] 26/\Has wr gt [.func (.func gf) #[] lb] 86) (fun iv _=>n - (intOf iv).toNat)
    case atStart=>exact ⟨0,Nat.zero_le _,rfl,gS.out,gB.out,gA.out,gw.out,iI.out,i9.out⟩
    case round =>
     obtain ⟨k,hk,rfl,hg,hj,hu,hb,fv,iH⟩:=hrel;obtain ⟨wq,fO⟩:=ab (wr);subst fO;have HG:=aa hg;have HJ:=aa hj;have HU:=aa hu;have HB:=aa hb;have HV:=aa fv;have gj:=aa iH;clear hg hj hu hb fv iH q2
     by_cases hlt:k<n
     ·obtain ⟨b,off,cv,eo,hb,_,hc0,hc1,hcv⟩:=fS.out k hlt;subst eo;have c0:=(HB.out.cell (p:=⟨b,off+k * 2,none⟩) hb).trans hc0;have c1:=(HB.out.cell (p:=⟨b,off+k * 2+1,none⟩) hb).trans hc1;obtain ⟨Lk,fD⟩:=ab ((Ls.getD k zl).1);obtain ⟨bk,gI⟩:=ab ((Ls.getD k zl).2);rw [<-gI] at c1;rw [<-fD] at hcv;have iB:=aa fD;have jt:=aa hcv.max;have jd:=aa (show ([([],3)]++am vw Ls k).length+(Lk.length+1)<=N from by
       have:=HRM.out k (by rw [<-fx.out];exact hlt);rw [gM.out] at this;rw [fD];exact this)
      obtain ⟨co,cc,ecv⟩:=hcv.len;obtain ⟨nk,fA⟩:=ab (Lk.length);rw [<-fA] at ecv;subst ecv;have jc:=aa hcv;have gx:(k:Int)<(n:Int):=by omega
      have gH:IntKind.i64.wrap ((k:Int)+1)=(k:Int)+1:=by rw [IntKind.wrap_i64];omega
      have gy:k<lc:=by omega
      obtain ⟨W5,fC⟩:=ab ((wq.alloc (.cells [Value.int .i64 k].toArray 3)).alloc (.cells [Value.slice co nk cc,.bool bk].toArray 30));obtain ⟨fi,fR⟩:=ab (wq.heap.size);have fm:Below wq.heap.size wq W5:=by rw [fC];exact (af _ _).alloc (by simp) _
      have hP:Has W5 fi [.int .i64 k] 3:=by rw [fC,fR];exact (Has.new wq [.int .i64 k] _).alloc _
      have gL:Has W5 (fi+1) [.slice co nk cc,.bool bk] 30:=by
       have h:=Has.new (wq.alloc (.cells [Value.int .i64 k].toArray 3)) [.slice co nk cc,.bool bk] 30;rw [World.size_alloc] at h;rw [fC,fR];exact h
      have i8:=aa fC;have gW:=aa fR;have fw:=aa fm;have HI5:=aa hP;have iA:=aa gL;have ik:=LineJ.tells HT.out ([([],3)]++am vw Ls k) k gt fi (Lk.length+1) (.inl rfl) jd.out;have fG:=aa (cC sa wb true (Lk.length+1) 81 _ _ ik ia.out _ Lk vw W5 jc.out jt.out (HB.out.trans (fm.mono HB.out.size)) ⟨by rw [cg,List.append_nil];exact HT.out.keep _ _ _ HJ.out fm,gj.out.below fm gj.out.lt,hP⟩ (Nat.le_refl _));have f9:(wq.alloc (.cells #[Value.int .i64 k] 3)).alloc (.cells #[Value.slice co nk cc,.bool bk] 30)=W5:=i8.out.symm;have gn:=gW.out.symm;clear hc0 hc1 fD gI hcv fA hb fC fR fm hP gL ik
      go_upto_region 6 with (fail)
      clear f9 gn;have q0:=(HV.out.below fw.out HV.out.lt).cell 0 _ rfl;have q1:=iA.out.cell 0 _ rfl;clear c0 c1;simp only [Bool.true_or] at fG
      go_wp2_with fail
      refine fG.out.mono ?_;rintro e w6 ⟨rfl,ho⟩;have HE:=aa (show J ([([],3)]++am vw Ls (k+1)) w6/\Qt wb w w6/\Below wb.heap.size wb w6/\Has w6 gv [.int .i64 vw,.int .i64 vh,.slice (some ⟨b,off,none⟩) n lc,.int .i64 r,.int .i64 c,.bool pd,.bool au] 26/\Has w6 gt [.func (.func gf) #[] lb] 86 from by
       rw [aJ,<-iB.out,<-List.append_assoc];exact ⟨ho.1.1,(HU.out.trans (Qt.ofBelow fw.out)).trans ho.2.1,ho.2.2,ho.2.1.has (HV.out.below fw.out HV.out.lt) (by decide),ho.1.2.1⟩)
      clear ho q0 q1 fG;go_wp2
      go_roundw
      case rel=>exact ⟨k+1,by omega,by go_num,.inl (by first | rfl | trivial),HE.out.1,HE.out.2.1,HE.out.2.2.1,HE.out.2.2.2.1,HE.out.2.2.2.2⟩
      case measure=>simp [intOf] <;> omega
     ·obtain rfl:k=n:=by omega
      have hv3:=HV.out.cell 3 _ rfl;have hv4:=HV.out.cell 4 _ rfl;have ir:=HV.out.cell 5 _ rfl;have hv0:=HV.out.cell 0 _ rfl;have fo:=HV.out.cell 1 _ rfl;have gJ:=gj.out.cell 0 _ rfl;have gT:=aa (show aH ⟨vw,vh,Ls,r,c,pd,au⟩=([([],3)]++am vw Ls k)++bh ⟨vw,vh,Ls,r,c,pd,au⟩ from by
       unfold aH;rw [gM.out];simp only;rw [<-fx.out])
      cases hcr:ai r c pd vw vh with
      |true =>
       have fu:=aa (gG.out wq);rw [hcr] at fu;have HF:=aa (show a5 true (aH ⟨vw,vh,Ls,r,c,pd,au⟩)=[([],3)]++am vw Ls k from by
        rw [gT.out,show bh ⟨vw,vh,Ls,r,c,pd,au⟩=[] from by unfold bh;rw [if_pos hcr],List.append_nil]
        rfl)
       clear hcr gJ
       go_wp2_with fail
       refine fu.out.mono ?_;rintro e w7 ⟨rfl,b7⟩;have HE:=aa (show c5 wb J w (a5 true (aH ⟨vw,vh,Ls,r,c,pd,au⟩)) w7 from by
        rw [HF.out];exact ⟨HT.out.keep _ _ _ HJ.out b7,HU.out.trans (Qt.ofBelow b7),HB.out.trans (b7.mono HB.out.size)⟩)
       clear b7 hv0 fo hv3 hv4 ir fu;go_wp2;exact bodyPost_end (by kernel_rfl) rfl ⟨rfl,HE.out⟩
      |false =>
       have fu:=aa (gG.out wq);rw [hcr] at fu;have it:=aa (show bh ⟨vw,vh,Ls,r,c,pd,au⟩=[([],8)] from by unfold bh;rw [if_neg (by simp [hcr])]);have HF:=aa (show a5 true (aH ⟨vw,vh,Ls,r,c,pd,au⟩)=([([],3)]++am vw Ls k)++[([],8)] from by
        rw [gT.out,it.out]
        rfl)
       clear hcr gJ
       go_wp2_with fail
       refine fu.out.mono ?_;rintro e w7 ⟨rfl,b7⟩;have g7:=(ia.out.below (HB.out.trans (b7.mono HB.out.size))).cell 7 (by decide);simp only [F.glob] at g7;have je:=(gj.out.below b7 gj.out.lt).cell 0 _ rfl;have HST:=aa (HT.out.step ([([],3)]++am vw Ls k) _ [] 8 w7 (.inl rfl) (by have:=jA.out;rw [gT.out,it.out,List.length_append] at this;simp at this ⊢;omega) (HT.out.keep _ _ _ HJ.out b7) (HB.out.trans (b7.mono HB.out.size)) (ErrT.sent (sa:=sa) 7 (by decide)));have jj:=aa (HU.out.trans (Qt.ofBelow b7));have js:=aa (HB.out.trans (b7.mono HB.out.size));clear b7 hv0 fo hv3 hv4 ir fu
       go_wp2_with fail
       rw [gz.out,Oper.upon_enter];refine HST.out.mono ?_;rintro e w8 ⟨rfl,ix,gZ⟩;have HE:=aa (show c5 wb J w (a5 true (aH ⟨vw,vh,Ls,r,c,pd,au⟩)) w8 from by
        rw [HF.out];exact ⟨ix,jj.out.trans gZ,a9 js.out gZ⟩)
       clear ix gZ g7 je;go_wp2;exact bodyPost_end (by kernel_rfl) rfl ⟨rfl,HE.out⟩
end Go.Proofs.YthdphijabffpiaaDoor
