import Derived.Test.YtoeggiplcaegoaaGreatDoorZ0
import Derived.Test.YtoeggiplcaegoaaGreatDoorMg6
set_option maxRecDepth 100000
set_option linter.unusedVariables false
set_option linter.unusedSimpArgs false
set_option maxHeartbeats 6000000
namespace Go.Proofs.YtoeggiplcaegoaaGreatDoor
open Go.RowKit Go.ChangeShapes Go.WideShapes
theorem uK(Z Y:an)(B g gc:Nat)(L p:List Cl)(wrap:Bool)(v:Value)(w:World)(h:RowAt Z w B g gc L wrap)(hv:HeldE cellE Y w v p)(hY:∀ b,Y b->b≠g/\b≠gc)(hZ:∀ b,w.heap.size<=b->Z b)(a:Nat)(hle:a+p.length<=L.length)(hp:bz p=true)(Dt:0<p.length) :
  Calls Tryz.prog 188 #[.pointer (some ⟨g,0,none⟩),.int .i64 a,v] w (jA Z B g gc w (aN L p a) (wrap && !a8 L p a)):=by
 obtain ⟨hl0,hl,hs⟩:=h.len;have hlt:=h.lt;obtain ⟨cap,h1,hB,hne,h4,_⟩:=id h;have hglt:g<w.heap.size:=h1.lt;have hgclt:gc<w.heap.size:=hlt.2.1;have GO:Mid Z w w B g gc L.length cap L wrap:=⟨rfl,h1,h4,Upd.refl _ _⟩;have EY:=ab (nm _ _ _ _ hv);rw [hp] at EY;have PC:=ab GO;have HV:=ab hv;have BM:=ab (pJ hs hp hle);have Gd:=ab (wQ Dt hle);have Ki:=ab (tX Dt hle);have HSH:=ab (hJ hp);have HZ:=ab hZ;have HY:=ab hY;obtain ⟨ao,pc,rfl⟩:=hv.len;obtain ⟨_,_,hc⟩:=fq hv;have HC:=ab hc;have hnm:¬ ((L.length:Int) - (a:Int)<(p.length:Int)):=by omega
 have c0:=GO.row;have hdA:decide ((a:Int)<0)=false:=by simp
 have hdB:decide (L.length<a)=false:=by simp;omega
 have hdC:decide ((L.length:Int) - (a:Int)<(p.length:Int))=false:=by simp;omega
 have hz:((p.length:Int) == 0)=false:=by rw [beq_eq_false_iff_ne];omega
 have Da:IntKind.i64.wrap ((a:Int)+p.length)=(a:Int)+p.length:=by rw [IntKind.wrap_i64];omega
 clear h hv hlt h1 h4 GO hc hs hp hZ hY
 go_enter Tryz.func188,Tryz.ntmps188
 go_wp2_with fail
 refine EY.out.mono ?_;rintro e w2 ⟨rfl,b2⟩;have MN:=ab (PC.out.below b2);have BY:=ab b2;clear c0 b2
 go_upto_region 8 with (fail)
 go_cut [62] from 49 to 62 (fun t wx=>t=.bool (fV L a)/\wx=w2)
 case first =>
  have c0:=MN.out.row
  by_cases ha0:a=0
  ·have HE:=ab (show fV L a=false by rw [ha0];rfl);have Mk:¬ 0<a:=by omega
   clear ha0;go_wp2;go_meet
   case rel=>exact ⟨by rw [HE.out];try rfl,rfl⟩
  ·obtain ⟨b,hab⟩ : ∃ b,a=b+1:=⟨a - 1,by omega⟩;have ck:=MN.out.kind (i:=b) (by omega);have hb0:(a:Int) - 1=b:=by omega
   have hbl:b<L.length:=by omega
   have hap:0<a:=by omega
   have e:fV L a=((L.getD b zc).1 == 2):=by unfold fV;rw [decide_eq_true hap,show a - 1=b by omega];rfl
   clear hab ha0;obtain ⟨K,hK⟩:=ae ((L.getD b zc).1);rw [<-hK] at ck e;have HE:=ab e;clear e hK;go_wp2;go_meet
   case rel=>exact ⟨by rw [HE.out];try rfl,rfl⟩
 case rest =>
  obtain ⟨rfl,hwc⟩:=hcut;subst hwc;have IP:=ab (show fB L a=if fV L a=true then L.set (a - 1) zc else L from rfl);have F0:=ab (show fV L a=true->0<a from fun h=>by
   unfold fV at h;simp only [Bool.and_eq_true,decide_eq_true_eq] at h;exact h.1)
  generalize fV L a=q at IP F0 ⊢
  go_upto_if 62 with (fail)
  go_cut [] from 63 to 70 (fun wx=>Mid Z w wx B g gc L.length cap (fB L a) wrap/\Below wx.heap.size wx wx)
  case first =>
   have c0:=MN.out.row
   cases q with
   |false =>
    go_wp2;go_meet
    case rel=>exact ⟨by rw [IP.out];exact MN.out,Below.refl _ _⟩
   |true =>
    have hap:0<a:=F0.out rfl;obtain ⟨b,hab⟩ : ∃ b,a=b+1:=⟨a - 1,by omega⟩;have D0:=ab (show fB L a=L.set b zc by rw [IP.out,show a - 1=b by omega];rfl);have hb0:(a:Int) - 1=b:=by omega
    have hbl:b<L.length:=by omega
    clear hab
    go_wp2_with (refine eP (E:=cellE) (Y:=fun b=>Z b/\b≠g) (i:=b) rfl 147 (.tmp 70) (.tmp 69) rfl rfl rfl [.int .i64 0,.slice none 0 0] rfl (by kernel_rfl) MN.out.2.2.1.each (by rw [MN.out.1];exact hbl) zc (l7 _ _) ?_)
    intro w3 Fi DV;have H3:=ab (MN.out.put hne hbl rfl Fi (fun j b k=>by first | exact k | (split at k <;> exact k)) DV);clear Fi DV c0;go_wp2;go_meet
    case rel=>exact ⟨by rw [D0.out];exact H3.out,Below.refl _ _⟩
  case rest =>
   have Lx:=ab hcut.1;clear hcut IP F0;obtain ⟨wd,hwd⟩:=ae (wc);subst hwd;have OJ:((a:Int)+(p.length:Int)).toNat=a+p.length:=by omega
   go_upto_region 10 with (fail)
   go_cut [88] from 71 to 88 (fun t wx=>t=.bool (dQ L (a+p.length))/\wx=wd)
   case first =>
    have c0:=Lx.out.row
    by_cases he:a+p.length<L.length
    ·have ck:=Lx.out.kind (i:=a+p.length) he;rw [tY Dt] at ck;have e:dQ L (a+p.length)=((L.getD (a+p.length) zc).1 == 3):=by unfold dQ;rw [decide_eq_true he];rfl
     have Qn:(a:Int)+p.length<L.length:=by omega
     obtain ⟨K,hK⟩:=ae ((L.getD (a+p.length) zc).1);rw [<-hK] at ck e;have HE:=ab e;clear e hK;go_wp2;go_meet
     case rel=>exact ⟨by rw [HE.out];try rfl,rfl⟩
    ·have HE:=ab (show dQ L (a+p.length)=false by unfold dQ;rw [decide_eq_false he];rfl);have Qn:¬ (a:Int)+p.length<L.length:=by omega
     go_wp2;go_meet
     case rel=>exact ⟨by rw [HE.out];try rfl,rfl⟩
   case rest =>
    obtain ⟨rfl,hwc⟩:=hcut;subst hwc;have D0:=ab (show kB L a p.length=if dQ L (a+p.length)=true then (fB L a).set (a+p.length) zc else fB L a from rfl);have OP:=ab (show wP L a p.length=if dQ L (a+p.length)=true then a+p.length+1 else a+p.length from rfl);have FV:=ab (show dQ L (a+p.length)=true->a+p.length<L.length from fun h=>by
     unfold dQ at h;simp only [Bool.and_eq_true,decide_eq_true_eq] at h;exact h.1)
    generalize dQ L (a+p.length)=q2 at D0 OP FV ⊢
    go_upto_if 88 with (fail)
    go_cut [7] from 89 to 97 (fun en wx=>en=.int .i64 ((wP L a p.length:Nat):Int)/\Mid Z w wx B g gc L.length cap (kB L a p.length) wrap)
    case first =>
     have c0:=Lx.out.row
     cases q2 with
     |false =>
      go_wp2;go_meet
      case rel=>exact ⟨by rw [OP.out];go_num,by rw [D0.out];exact Lx.out⟩
     |true =>
      have hlt:=FV.out rfl;have GV:(a:Int)+p.length<L.length:=by omega
      have hw2:IntKind.i64.wrap ((a:Int)+p.length+1)=(a:Int)+p.length+1:=by rw [IntKind.wrap_i64];omega
      go_wp2_with (refine eP (E:=cellE) (Y:=fun b=>Z b/\b≠g) (i:=a+p.length) rfl 147 (.tmp 95) (.tmp 94) rfl rfl rfl [.int .i64 0,.slice none 0 0] rfl (by kernel_rfl) Lx.out.2.2.1.each (by rw [Lx.out.1];exact hlt) zc (l7 _ _) ?_)
      intro w3 Fi DV;have H3:=ab (Lx.out.put hne hlt rfl Fi (fun j b k=>by first | exact k | (split at k <;> exact k)) DV);clear Fi DV c0;go_wp2;go_meet
      case rel=>exact ⟨by rw [OP.out];go_num,by rw [D0.out];exact H3.out⟩
    case rest =>
     obtain ⟨rfl,hm4⟩:=hcut;have HM4:=ab hm4;clear hm4 D0 OP FV Lx OJ Da hz hnm hdA hdB hdC;obtain ⟨en,hen⟩:=ae (wP L a p.length);rw [<-hen] at Gd ⊢;clear hen;obtain ⟨we,hwe⟩:=ae (wc);subst hwe;go_wp2
     go_loopw [100] (fun i wr=>∃ k:Nat,k<=p.length/\i=.int .i64 k/\Mid Z w wr B g gc L.length cap (fC L p a k) wrap) (fun i _=>p.length - (intOf i).toNat)
     case atStart=>exact ⟨0,Nat.zero_le _,rfl,by rw [rA];exact HM4.out⟩
     case round =>
      obtain ⟨k,hk,rfl,hm⟩:=hrel;have HM:=ab hm;clear hm
      by_cases hlt:k<p.length
      ·obtain ⟨b,off,tv,rfl,hb,hyb,c0,c1,hh⟩:=HC.out k hlt;obtain ⟨hyg,hyc⟩:=HY.out b hyb;have c0:=(HM.out.2.2.2.keep.cell (o:=off+k * 2) hb (fun e=>by rcases e with e | e;exact hyg e;exact hyc e)).trans c0;have c1:=(HM.out.2.2.2.keep.cell (o:=off+k * 2+1) hb (fun e=>by rcases e with e | e;exact hyg e;exact hyc e)).trans c1;have hh:=hh.upd HM.out.2.2.2 (fun b hb e=>by have:=HY.out b hb;rcases e with e | e;exact this.1 e;exact this.2 e);have E7:=HSH.out k hlt;have hs3:=rB L p a k;obtain ⟨⟨K,T⟩,EV⟩ : ∃ y,y=p.getD k zc:=⟨_,rfl⟩;rw [<-EV] at c0 hh E7 hs3;simp only at c0 hh E7;have HH:=ab hh.ints;have LK:=ab hs3;obtain ⟨ta,tc,rfl⟩:=hh.len;clear EV hh hs3;obtain ⟨W0,hW0⟩:=ae (wr.alloc (.cells #[.int .i64 K,.slice ta T.length tc] 147));have hb0:Below wr.heap.size wr W0:=by rw [hW0];exact AU _ _
       have Lb:Has W0 wr.heap.size [.int .i64 K,.slice ta T.length tc] 147:=by rw [hW0];exact Has.new wr _ _
       have PC:=ab (HM.out.below hb0);have HH0:=ab (HH.out.below hb0);have Dj:=ab Lb;have hg0:g<wr.heap.size:=HM.out.2.1.lt;have hgc0:gc<wr.heap.size:=(HM.out.2.2.1.lt gc rfl).2;have hw0:w.heap.size<=wr.heap.size:=HM.out.2.2.2.size;have hs0:wr.heap.size<W0.heap.size:=by rw [hW0];simp
       obtain ⟨gb,hgb⟩:=ae (wr.heap.size);rw [<-hgb] at Dj hg0 hgc0 hw0 hs0;have hak:a+k<L.length:=by omega
       have OJ:((a:Int)+(k:Int)).toNat=a+k:=by omega
       have JD:IntKind.i64.wrap ((a:Int)+k)=(a:Int)+k:=by rw [IntKind.wrap_i64];omega
       have DJ:=ab hgb;have KO:=ab hW0;clear hb0 Lb HH HM hgb hW0;go_wp2;rw [<-DJ.out];rw [<-KO.out];clear DJ KO;have hakI:(a:Int)+k<L.length:=by omega
       obtain ⟨AZ,A6⟩ : ∃ CC:Array Bool->World->Prop,CC=fun L8 w'=>(Mix.one L8 10=0->Below W0.heap.size W0 w')/\(Mix.one L8 10≠0->Mid Z w w' B g gc L.length cap (fC L p a (k+1)) wrap):=⟨_,rfl⟩
       obtain ⟨BA,Bh⟩ : ∃ XX:World->World->Prop,XX=fun x y=>Upd (fun b=>b=g\/b=gc) x y:=⟨_,rfl⟩
       obtain ⟨Bw,Bn,A2,A3,A4,A5,Bc,A9,Ba,A1,A7,Be,A0,_⟩:=Reg.e12 BA
        (fun xx _=>xx=.pointer (some ⟨g,0,none⟩))
        (fun xx _=>xx=.pointer (some ⟨g,0,none⟩))
        (fun xx _=>xx=.pointer (some ⟨g,0,none⟩))
        (fun xx _=>xx=.slice (some ⟨gc,0,none⟩) L.length cap)
        (fun xx _=>xx=.int .i64 a)
        (fun xx _=>xx=.int .i64 k)
        (fun xx _=>xx=.int .i64 ((a:Int)+k))
        (fun xx _=>xx=.agg #[.int .i64 K,.slice ta T.length tc])
        (fun x w'=>∃ tv9,x=.agg #[.int .i64 K,tv9]/\HeldE (aF .i32) (fun b=>gb<b) w' tv9 T)
        (fun xx _=>xx=.pointer (some ⟨gc,(a+k) * 2,none⟩))
        (fun xx _=>xx=undef)
        (fun _ _=>True)
        (s8:=fun x w w1 hx h=>by rw [Bh] at hx;(obtain ⟨tv9,e9,h9⟩:=h;exact ⟨tv9,e9,h9.upd hx (fun b hb e=>by rcases e with e | e <;> omega)⟩))
       have Bd:Hid (∀ i L w,(i == 10)=false ->  AZ L w->AZ (L.setIfInBounds i true) w):=ab (by
        intro i L w q h;simp only [Bool.or_eq_false_iff,beq_eq_false_iff_ne] at q;rw [A6] at h ⊢;simp only [Mix.one_ne q];exact h)
       have Bv:Hid (∀ L w w1,AZ L w->Below w.heap.size w w1->AZ L w1):=ab (by
        intro L w w1 h hb;rw [A6] at h ⊢;exact ⟨fun e=>(h.1 e).trans (hb.mono (h.1 e).size),fun e=>(h.2 e).below hb⟩)
       have Bm:=ab (show ∀ w,BA w w from fun w=>by rw [Bh];exact Upd.refl _ _);have Bl:=ab (show ∀ w w1,Below w.heap.size w w1->BA w w1 from fun w w1 hb=>by rw [Bh];exact .ofBelow hb);have By:=ab (show AZ (Array.replicate 11 false) W0.drew from by rw [A6];exact ⟨fun _=>(Below.refl _ _).drew,fun e=>absurd (Mix.one_none _ _) e⟩);have AX:=ab (fun (i:Nat) L w v q (h:AZ L w) (e:Bw i v w)=>Reg.hk (Bd.out i L w q h) e (Bm.out w));have AW:=ab A6;have Bi:=ab Bh;clear A6 Bh
       go_wp2_with fail
       refine Reg.regionF Bw AZ BA Bn.out (by kernel_rfl) (by kernel_rfl) (by kernel_rfl) By.out (fun GC AV=>?_);simp only [Reg.frame,Reg.dsts,List.map_cons,List.map_nil,Mix.put_lit,Reg.put_none,List.set_cons_succ,List.set_cons_zero,Nat.zero_add,Nat.reduceAdd] at AV;refine ⟨⟨?_,?_,?_,?_,?_,?_,?_,?_,?_,?_,?_,trivial⟩,?_⟩
       ·intro Lq wq xq hh;simp only [AV];refine Reg.go rfl ?_;have HK:=AX.out 0 _ _ _ rfl hh.cls ((A2.out _ _).mpr rfl);go_simp;exact HK.out
       ·intro Lq wq xq hh;simp only [AV,(A2.out _ _).mp (hh.v 0)];refine Reg.go rfl ?_;have HK:=AX.out 1 _ _ _ rfl hh.cls ((A3.out _ _).mpr rfl);go_simp;exact HK.out
       ·intro Lq wq xq hh;simp only [AV,(A3.out _ _).mp (hh.v 1)];refine Reg.go rfl ?_;have HK:=AX.out 2 _ _ _ rfl hh.cls ((A4.out _ _).mpr rfl);go_simp;exact HK.out
       ·intro Lq wq xq hh;simp only [AV,(A4.out _ _).mp (hh.v 2)];refine Reg.go rfl ?_;have hc:AZ Lq wq:=hh.cls;rw [AW.out] at hc;have hc3:=hc.1 (Mix.one_un (hh.notYet 10 (by kernel_rfl)));have hcell:=(PC.out.below hc3).row;clear hc;have HK:=AX.out 3 _ _ _ rfl hh.cls ((A5.out _ _).mpr rfl);go_simp;exact HK.out
       ·intro Lq wq xq hh;simp only [AV];refine Reg.go rfl ?_;have HK:=AX.out 4 _ _ _ rfl hh.cls ((Bc.out _ _).mpr rfl);go_simp;exact HK.out
       ·intro Lq wq xq hh;simp only [AV];refine Reg.go rfl ?_;have HK:=AX.out 5 _ _ _ rfl hh.cls ((A9.out _ _).mpr rfl);go_simp;exact HK.out
       ·intro Lq wq xq hh;simp only [AV,(Bc.out _ _).mp (hh.v 4),(A9.out _ _).mp (hh.v 5)];refine Reg.go rfl ?_;have HK:=AX.out 6 _ _ _ rfl hh.cls ((Ba.out _ _).mpr rfl);go_simp;exact HK.out
       ·intro Lq wq xq hh;simp only [AV];refine Reg.go rfl ?_;have hc:AZ Lq wq:=hh.cls;rw [AW.out] at hc;have NI:=hc.1 (Mix.one_un (hh.notYet 10 (by kernel_rfl)));have C4:=Dj.out.below NI Dj.out.lt;have k0:=C4.cell 0 _ rfl;have k1:=C4.cell 1 _ rfl;clear hc;have HK:=AX.out 7 _ _ _ rfl hh.cls ((A1.out _ _).mpr rfl);go_simp;exact HK.out
       ·intro Lq wq xq hh;simp only [AV,(A1.out _ _).mp (hh.v 7)];refine Reg.go rfl ?_;unfold Reg.upon;have hc:AZ Lq wq:=hh.cls;rw [AW.out] at hc;have hc8:=hc.1 (Mix.one_un (hh.notYet 10 (by kernel_rfl)));go_simp;refine (l6 K _ T wq (HH0.out.below hc8) E7).mono ?_;rintro e w2 ⟨tv9,rfl,No,Cm⟩;refine ⟨_,rfl,Bd.out 8 Lq w2 (by decide) (Bv.out Lq wq w2 hh.cls Cm),?_,Bl.out wq w2 Cm⟩;rw [A7.out];exact ⟨tv9,rfl,No.zone (fun b _ hz=>by have:=hc8.size;omega)⟩
       ·intro Lq wq xq hh;simp only [AV,(A5.out _ _).mp (hh.v 3),(Ba.out _ _).mp (hh.v 6)];refine Reg.go rfl ?_;have HK:=AX.out 9 _ _ _ rfl hh.cls ((Be.out _ _).mpr rfl);go_simp;exact HK.out
       ·intro Lq wq xq hh;have d8:=(A7.out _ _).mp (hh.v 8);simp only [AV,(Be.out _ _).mp (hh.v 9)];refine Reg.go rfl ?_;unfold Reg.upon;obtain ⟨tv9,e9,h9⟩:=d8;obtain ⟨t9a,t9c,e8⟩:=h9.len;rw [e9];subst e8;have hc10:AZ Lq wq:=hh.cls;rw [AW.out] at hc10;have hcb:=hc10.1 hh.un;have GO:=PC.out.below hcb;have J5:a+k<(fC L p a k).length:=by rw [tW];exact hak
        have Mo:cellE.rep (fun b=>(Z b/\b≠g)/\b≠gc) wq [.int .i64 K,.slice t9a T.length t9c] (K,T):=cell_rep.2 ⟨_,rfl,h9.zone (fun b _ hz=>⟨⟨HZ.out b (by omega),by omega⟩,by omega⟩)⟩;have Qm:=GO.2.2.1.each.there J5;obtain ⟨Cf,Og⟩:=GO.2.2.1.each.put (Y:=fun b=>Z b/\b≠g) J5 _ (K,T) Mo;rw [ia (b:=gc) (off:=(a+k) * 2) rfl rfl [.int .i64 K,.slice t9a T.length t9c] rfl Qm (by kernel_rfl) (cellE.one Mo)];refine ⟨?_,(by rw [A0.out]),(by rw [Bi.out];exact Og.mono (fun b _ e=>.inr e))⟩;rw [AW.out];refine ⟨fun e=>(by rw [Mix.one_set (by rw [hh.size];decide)] at e;cases e),fun _=>?_⟩;rw [LK.out];exact GO.put hne hak rfl Cf (fun j b q=>by split at q <;> exact q) Og
       intro xq DY Bp BD;rw [AW.out] at Bp;simp only [AV];clear BD AV AX Bd Bm Bn By AW Bi Bv Bl A2 A3 A4 A5 Bc A9 Ba A1 A7 Be A0;have NB:=ab (Bp.2 (by rw [Mix.one_all (by decide)];decide));clear Bp;go_wp2
       go_roundw
       case rel=>exact ⟨k+1,by omega,by go_num,NB.out⟩
       case measure=>simp [intOf] <;> omega
      ·obtain rfl:k=p.length:=by omega
       have NF:=HM.out;rw [Ki.out] at NF;have c0:=NF.row;have c1:=NF.2.1.cell 1 _ rfl;have f1:=NF.2.1.free 1;have O0:=ab NF;clear NF HM
       cases L6:a8 L p a with
       |true =>
        rw [L6] at Gd;have he:en=L.length:=of_decide_eq_true Gd.out;have Qn:((en:Int) == (L.length:Int))=true:=by rw [he];simp
        have PU:=ab L6;clear he L6;go_wp2;go_ret;exact ⟨af,by rw [PU.out,Bool.not_true,Bool.and_false];exact (O0.out.setWrap hne false).done hB hne hl0 hl BM.out,(O0.out.setWrap hne false).2.2.2⟩
       |false =>
        rw [L6] at Gd;have he:en≠L.length:=of_decide_eq_false Gd.out;have Qn:((en:Int) == (L.length:Int))=false:=by rw [beq_eq_false_iff_ne];omega
        have PU:=ab L6;clear he L6;go_wp2;go_ret;exact ⟨af,by rw [PU.out,Bool.not_false,Bool.and_true];exact O0.out.done hB hne hl0 hl BM.out,O0.out.2.2.2⟩
end Go.Proofs.YtoeggiplcaegoaaGreatDoor
