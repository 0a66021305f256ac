import Derived.Test.YthdphijabffpiaaDoorZ0
import Derived.Test.YthdphijabffpiaaDoorSchC
set_option maxRecDepth 100000
set_option linter.unusedVariables false
set_option linter.unusedSimpArgs false
set_option maxHeartbeats 1000000
namespace Go.Proofs.YthdphijabffpiaaDoor
open Go.RowKit Go.ChangeShapes Go.WideShapes
def aT(row col:Int)(h:Ht):Bool:=decide (row<h.1) || ((h.1 == row) && decide (col<=h.2.1))
def bc(l:List Ht)(row col:Int):Ht × Bool:=match l.find? (aT row col) with
 | some h=>(h,true)
 | none=>((0,0,0),false)
def gG(h:Ht × Bool):Value:=.tuple #[.agg #[.int .i64 h.1.1,.int .i64 h.1.2.1,.int .i64 h.1.2.2],.bool h.2]
def zht:Ht:=(0,0,0)
theorem dQ{Z:ak}{w:World}{ao:Option Addr}{n cap:Nat}{P:List Ht}(h:HeldE hitE Z w (.slice ao n cap) P):n=P.length/\n<=cap/\∀ i,i<P.length->∃ b off,ao=some ⟨b,off,none⟩/\b<w.heap.size/\Z b /\
  w.cell? ⟨b,off+i * 3,none⟩=some (.int .i64 (P.getD i zht).1)/\w.cell? ⟨b,off+i * 3+1,none⟩=some (.int .i64 (P.getD i zht).2.1)/\w.cell? ⟨b,off+i * 3+2,none⟩=some (.int .i64 (P.getD i zht).2.2):=by
 obtain ⟨h1,h2,h3⟩:=h.spots;refine ⟨h1,h2,fun i hi=>?_⟩;obtain ⟨b,off,rfl,hb,hz,C,hC,hr⟩:=h3 i hi;have hr:=hit_rep.1 hr;subst hr;exact ⟨b,off,rfl,hb,hz,hC 0 (by decide),hC 1 (by decide),hC 2 (by decide)⟩
theorem fr(l:List Ht)(p:Ht->Bool)(k:Nat)(h:k<l.length):(l.drop k).find? p=if p (l.getD k zht)=true then some (l.getD k zht) else (l.drop (k+1)).find? p:=by
 rw [List.drop_eq_getElem_cons h];have:l.getD k zht=l[k]:=by simp [List.getD,List.getElem?_eq_getElem h]
 rw [this,List.find?_cons]
 cases p l[k] <;> simp
theorem fu(sa:Nat->Addr)(Y:ak)(v:Vw)(lv tv:Value)(x:List Int)(row col:Int)(w:World)(hs:Five w sa)(hv:ViewAt w v lv)(ht:HeldE (aF .i32) Y w tv x):Calls Tryd.prog 44 #[aN v lv,.int .i64 row,.int .i64 col,tv] w (Gives w (gG (bc (cr v x) row col))):=by
 have gV:=aa (fun (w':World) (b:Below w.heap.size w w')=>db sa Y v lv tv x w' (hs.below b) (hv.below b) (ht.below b));obtain ⟨l,hl⟩:=ab (cr v x);rw [<-hl] at gV ⊢;clear hl;obtain ⟨vw,vh,Ls,r,c,pd,au⟩:=v;rw [show ∀ z,aN ⟨vw,vh,Ls,r,c,pd,au⟩ z=.agg #[.int .i64 vw,.int .i64 vh,z,.int .i64 r,.int .i64 c,.bool pd,.bool au] from fun _=>rfl] at gV ⊢;obtain ⟨Wa,gP⟩:=ab (w.alloc (.cells ([.int .i64 vw,.int .i64 vh,lv,.int .i64 r,.int .i64 c,.bool pd,.bool au]:List Value).toArray 26));obtain ⟨Wb,il⟩:=ab (Wa.alloc (.cells [Value.int .i64 0,.int .i64 0,.int .i64 0].toArray 80));have ba:Below w.heap.size w Wa:=by rw [gP];exact af _ _
 have bb:Below Wa.heap.size Wa Wb:=by rw [il];exact af _ _
 have sa':Wa.heap.size=w.heap.size+1:=by rw [gP];exact Array.size_push _
 have gva:Has Wa w.heap.size [.int .i64 vw,.int .i64 vh,lv,.int .i64 r,.int .i64 c,.bool pd,.bool au] 26:=by rw [gP];exact Has.new w _ _
 have gha:Has Wb Wa.heap.size [.int .i64 0,.int .i64 0,.int .i64 0] 80:=by rw [il];exact Has.new Wa _ _
 have gva:=Has.below gva bb gva.lt;have HB:=aa (ba.trans (bb.mono ba.size));rw [sa'] at gha;obtain ⟨g8,kI⟩:=ab (w.heap.size+1);rw [<-kI] at gha;have lE:=aa kI;have HV:=aa gva;have HH:=aa gha;have l5:=aa (show (w.alloc (.cells #[.int .i64 vw,.int .i64 vh,lv,.int .i64 r,.int .i64 c,.bool pd,.bool au] 26)).alloc (.cells #[Value.int .i64 0,.int .i64 0,.int .i64 0] 80)=Wb from by rw [il,gP]);have q0:=gva.cell 0 _ rfl;have q1:=gva.cell 1 _ rfl;have q2:=gva.cell 2 _ rfl;have q3:=gva.cell 3 _ rfl;have q4:=gva.cell 4 _ rfl;have q5:=gva.cell 5 _ rfl;have q6:=gva.cell 6 _ rfl;clear gP il ba bb sa' gva gha kI hs hv ht
 go_enter Tryd.func44,Tryd.ntmps44
 go_upto_region 1 with (fail)
 rw [l5.out,<-lE.out]
 go_wp2_with fail
 refine (gV.out _ HB.out).mono ?_;rintro e w1 ⟨hv,rfl,ho,b1⟩;have hh:=ho.held (Z:=fun _=>True) (fun _ _ _=>trivial);obtain ⟨lo,lc,ehv⟩:=hh.len;subst ehv;obtain ⟨hn,hc,hat⟩:=dQ hh;have hmx:=hh.max;have jW:=aa hat;have ia:=aa (HB.out.trans (b1.mono HB.out.size));have jj:=aa (HH.out.below b1 HH.out.lt);obtain ⟨n,i6⟩:=ab (l.length);have HN:=aa i6;rw [<-i6] at hc hmx ⊢;clear hn hat hh ho b1 q0 q1 q2 q3 q4 q5 q6 i6;go_wp2
 go_loopw [16] (fun i wr=>∃ k:Nat,k<=n/\i=.int .i64 k/\Hid ((l.drop k).find? (aT row col)=l.find? (aT row col))/\Below w1.heap.size w1 wr) (fun i _=>n - (intOf i).toNat)
 case atStart=>exact ⟨0,Nat.zero_le _,rfl,aa (by rw [List.drop_zero]),Below.refl _ _⟩
 case round =>
  obtain ⟨k,hk,rfl,HF,hb⟩:=hrel;obtain ⟨wo,jy⟩:=ab (wr);subst jy;have ic:=aa hb;have i9:=aa (jj.out.below hb jj.out.lt);have gU:=aa (ia.out.trans (hb.mono ia.out.size));clear hb
  by_cases hkn:k<n
  ·have d1:(k:Int)<(n:Int):=by omega
   obtain ⟨b,off,e0,hb,_,c0,c1,c2⟩:=jW.out k (by rw [<-HN.out];exact hkn);subst e0;have lz:=fr l (aT row col) k (by rw [<-HN.out];exact hkn);rw [HF.out] at lz;obtain ⟨⟨ha,hb',hc'⟩,hh⟩ : ∃ y,y=l.getD k zht:=⟨_,rfl⟩;rw [<-hh] at c0 c1 c2 lz;simp only at c0 c1 c2;have c0:=(ic.out.cell (p:=⟨b,off+k * 3,none⟩) hb).trans c0;have c1:=(ic.out.cell (p:=⟨b,off+k * 3+1,none⟩) hb).trans c1;have c2:=(ic.out.cell (p:=⟨b,off+k * 3+2,none⟩) hb).trans c2;obtain ⟨W1,hW1⟩:=ab (wo.alloc (.cells [Value.int .i64 ha,.int .i64 hb',.int .i64 hc'].toArray 80));have hb1:Below wo.heap.size wo W1:=by rw [hW1];exact af _ _
   have iZ:Has W1 wo.heap.size [.int .i64 ha,.int .i64 hb',.int .i64 hc'] 80:=by rw [hW1];exact Has.new wo _ _
   have jc:=aa (show wo.alloc (.cells #[Value.int .i64 ha,.int .i64 hb',.int .i64 hc'] 80)=W1 from by rw [hW1]);obtain ⟨gp,kX⟩:=ab (wo.heap.size);rw [<-kX] at iZ;have nQ:=aa kX;have iP:=aa (i9.out.below hb1 i9.out.lt);have i2:=aa (gU.out.trans (hb1.mono gU.out.size));have j2:=aa (ic.out.trans (hb1.mono ic.out.size));have y0:=iZ.cell 0 _ rfl;have y1:=iZ.cell 1 _ rfl;have y2:=iZ.cell 2 _ rfl;have HFD:=aa lz;have HYES:=aa (show aT row col (ha,hb',hc')=true->bc l row col=((ha,hb',hc'),true) from fun e=>by unfold bc;rw [lz,if_pos e]);have HNOT:=aa (show aT row col (ha,hb',hc')=false->(l.drop (k+1)).find? (aT row col)=l.find? (aT row col) from fun e=>by rw [lz,if_neg (by rw [e];decide)]);have iJ:k<lc:=by omega
   have hw9:g8<W1.heap.size:=iP.out.lt;clear hh hb hW1 hb1 iZ kX lz HFD
   go_upto_region 4 with (fail)
   rw [jc.out,<-nQ.out];clear c0 c1 c2
   by_cases h1:row<ha
   ·have d2:decide (row<ha)=true:=decide_eq_true h1;have HE:=aa (HYES.out (by unfold aT;simp only;rw [d2,Bool.true_or]));clear h1;have f0:=iP.out.free 0;have f1:=iP.out.free 1;have f2:=iP.out.free 2;have x0:=iP.out.cell 0 _ rfl;have x1:=iP.out.cell 1 _ rfl;have x2:=iP.out.cell 2 _ rfl;obtain ⟨w5,jC⟩:=ab ((((W1.setCell ⟨g8,0,none⟩ (.int .i64 ha)).setCell ⟨g8,1,none⟩ (.int .i64 hb')).setCell ⟨g8,2,none⟩ (.int .i64 hc')));have iB:=aa (show Has w5 g8 [.int .i64 ha,.int .i64 hb',.int .i64 hc'] 80/\Below w.heap.size w w5 from by
     rw [jC];exact ⟨((iP.out.set 0 _).set 1 _).set 2 _,i2.out.trans (((((Upd.refl (fun z=>z=g8) W1).setCell (p:=⟨g8,0,none⟩) (.inl rfl) _).setCell (p:=⟨g8,1,none⟩) (.inl rfl) _).setCell (p:=⟨g8,2,none⟩) (.inl rfl) _).below i2.out.size (fun z e=>by have:=lE.out;omega))⟩)
    have ju:=aa jC.symm;clear jC;go_wp2;rw [ju.out];have k0:=iB.out.1.cell 0 _ rfl;have k1:=iB.out.1.cell 1 _ rfl;have k2:=iB.out.1.cell 2 _ rfl;exact bodyPost_ret (v:=.tuple #[.agg #[.int .i64 ha,.int .i64 hb',.int .i64 hc'],.bool true]) (by simp [results,Tryd.results44,go_sem,k0,k1,k2]) rfl ⟨by rw [HE.out];rfl,iB.out.2⟩
   ·have d2:decide (row<ha)=false:=decide_eq_false h1;clear h1
    by_cases h2:ha=row
    ·have d3:(ha == row)=true:=by rw [beq_iff_eq];exact h2
     have HD3:=aa d3
     by_cases h3:col<=hb'
     ·have d4:decide (col<=hb')=true:=decide_eq_true h3;have HE:=aa (HYES.out (by unfold aT;simp only;rw [d2,d3,d4];rfl));clear h2 h3;have f0:=iP.out.free 0;have f1:=iP.out.free 1;have f2:=iP.out.free 2;have x0:=iP.out.cell 0 _ rfl;have x1:=iP.out.cell 1 _ rfl;have x2:=iP.out.cell 2 _ rfl;obtain ⟨w5,jC⟩:=ab ((((W1.setCell ⟨g8,0,none⟩ (.int .i64 ha)).setCell ⟨g8,1,none⟩ (.int .i64 hb')).setCell ⟨g8,2,none⟩ (.int .i64 hc')));have iB:=aa (show Has w5 g8 [.int .i64 ha,.int .i64 hb',.int .i64 hc'] 80/\Below w.heap.size w w5 from by
       rw [jC];exact ⟨((iP.out.set 0 _).set 1 _).set 2 _,i2.out.trans (((((Upd.refl (fun z=>z=g8) W1).setCell (p:=⟨g8,0,none⟩) (.inl rfl) _).setCell (p:=⟨g8,1,none⟩) (.inl rfl) _).setCell (p:=⟨g8,2,none⟩) (.inl rfl) _).below i2.out.size (fun z e=>by have:=lE.out;omega))⟩)
      have ju:=aa jC.symm;clear jC;go_wp2;rw [ju.out];have k0:=iB.out.1.cell 0 _ rfl;have k1:=iB.out.1.cell 1 _ rfl;have k2:=iB.out.1.cell 2 _ rfl;exact bodyPost_ret (v:=.tuple #[.agg #[.int .i64 ha,.int .i64 hb',.int .i64 hc'],.bool true]) (by simp [results,Tryd.results44,go_sem,k0,k1,k2]) rfl ⟨by rw [HE.out];rfl,iB.out.2⟩
     ·have d4:decide (col<=hb')=false:=decide_eq_false h3;have HE:=aa (HNOT.out (by unfold aT;simp only;rw [d2,d3,d4];rfl));clear h2 h3;go_wp2
      go_roundw
      case rel=>exact ⟨k+1,by omega,by go_num,HE,j2.out⟩
      case measure=>simp [intOf] <;> omega
    ·have d3:(ha == row)=false:=by rw [beq_eq_false_iff_ne];exact h2
     have HE:=aa (HNOT.out (by unfold aT;simp only;rw [d2,d3];rfl));clear h2;go_wp2
     go_roundw
     case rel=>exact ⟨k+1,by omega,by go_num,HE,j2.out⟩
     case measure=>simp [intOf] <;> omega
  ·obtain rfl:k=n:=by omega
   have d1:¬ (k:Int)<(k:Int):=by omega
   have HE:=aa (show bc l row col=(zht,false) from by
    unfold bc;rw [<-HF.out,List.drop_eq_nil_of_le (by rw [HN.out];exact Nat.le_refl _)]
    rfl)
   clear hkn;have f0:=i9.out.free 0;have f1:=i9.out.free 1;have f2:=i9.out.free 2;have x0:=i9.out.cell 0 _ rfl;have x1:=i9.out.cell 1 _ rfl;have x2:=i9.out.cell 2 _ rfl;obtain ⟨w5,jC⟩:=ab ((((wo.setCell ⟨g8,0,none⟩ (.int .i64 0)).setCell ⟨g8,1,none⟩ (.int .i64 0)).setCell ⟨g8,2,none⟩ (.int .i64 0)));have iB:=aa (show Has w5 g8 [.int .i64 0,.int .i64 0,.int .i64 0] 80/\Below w.heap.size w w5 from by
    rw [jC];exact ⟨((i9.out.set 0 _).set 1 _).set 2 _,gU.out.trans (((((Upd.refl (fun z=>z=g8) wo).setCell (p:=⟨g8,0,none⟩) (.inl rfl) _).setCell (p:=⟨g8,1,none⟩) (.inl rfl) _).setCell (p:=⟨g8,2,none⟩) (.inl rfl) _).below gU.out.size (fun z e=>by have:=lE.out;omega))⟩)
   have ju:=aa jC.symm;clear jC;go_wp2;rw [ju.out];have k0:=iB.out.1.cell 0 _ rfl;have k1:=iB.out.1.cell 1 _ rfl;have k2:=iB.out.1.cell 2 _ rfl;exact bodyPost_ret (v:=.tuple #[.agg #[.int .i64 0,.int .i64 0,.int .i64 0],.bool false]) (by simp [results,Tryd.results44,go_sem,k0,k1,k2]) rfl ⟨by rw [HE.out];rfl,iB.out.2⟩
end Go.Proofs.YthdphijabffpiaaDoor
