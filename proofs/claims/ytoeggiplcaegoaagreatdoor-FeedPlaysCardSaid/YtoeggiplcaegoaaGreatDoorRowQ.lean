import Derived.Test.YtoeggiplcaegoaaGreatDoorZ0
import Derived.Test.YtoeggiplcaegoaaGreatDoorMg6
set_option maxRecDepth 100000
set_option linter.unusedVariables false
set_option linter.unusedSimpArgs false
set_option maxHeartbeats 6000000
namespace Go.Proofs.YtoeggiplcaegoaaGreatDoor
open Go.RowKit Go.ChangeShapes Go.WideShapes
theorem tG(Z Y:an)(B g gc:Nat)(L p:List Cl)(wrap:Bool)(v:Value)(w:World)(h:RowAt Z w B g gc L wrap)(hv:HeldE cellE Y w v p)(hY:∀ b,Y b->b≠g/\b≠gc)(hZ:∀ b,w.heap.size<=b->Z b)(a:Nat)(hle:a+p.length<=L.length)(hp:bz p=true)(Ci:0<p.length) :
  Calls Tryz.prog 188 #[.pointer (some ⟨g,0,none⟩),.int .i64 a,v] w (js Z B g gc w (aM L p a) (wrap && !bd L p a)):=by
 obtain ⟨hl0,hl,hs⟩:=h.len;have hlt:=h.lt;obtain ⟨cap,h1,hB,hne,h4,_⟩:=id h;have hglt:g<w.heap.size:=h1.lt;have hgclt:gc<w.heap.size:=hlt.2.1;have Ij:Mid Z w w B g gc L.length cap L wrap:=⟨rfl,h1,h4,Upd.refl _ _⟩;have DM:=ab (mX _ _ _ _ hv);rw [hp] at DM;have Oq:=ab Ij;have HV:=ab hv;have AN:=ab (pf hs hp hle);have FM:=ab (vd Ci hle);have JU:=ab (sM Ci hle);have HSH:=ab (gS hp);have HZ:=ab hZ;have HY:=ab hY;obtain ⟨ao,pc,rfl⟩:=hv.len;obtain ⟨_,_,hc⟩:=fl hv;have HC:=ab hc;have hnm:¬ ((L.length:Int) - (a:Int)<(p.length:Int)):=by omega
 have c0:=Ij.row;have hdA:decide ((a:Int)<0)=false:=by simp
 have hdB:decide (L.length<a)=false:=by simp;omega
 have hdC:decide ((L.length:Int) - (a:Int)<(p.length:Int))=false:=by simp;omega
 have hz:((p.length:Int) == 0)=false:=by rw [beq_eq_false_iff_ne];omega
 have Cd:IntKind.i64.wrap ((a:Int)+p.length)=(a:Int)+p.length:=by rw [IntKind.wrap_i64];omega
 clear h hv hlt h1 h4 Ij hc hs hp hZ hY
 go_enter Tryz.func188,Tryz.ntmps188
 go_wp2_with fail
 refine DM.out.mono ?_;rintro e w2 ⟨rfl,b2⟩;have LQ:=ab (Oq.out.below b2);have AM:=ab b2;clear c0 b2
 go_upto_region 8 with (fail)
 go_cut [62] from 49 to 62 (fun t wx=>t=.bool (fN L a)/\wx=w2)
 case first =>
  have c0:=LQ.out.row
  by_cases ha0:a=0
  ·have HE:=ab (show fN L a=false by rw [ha0];rfl);have hna:¬ 0<a:=by omega
   clear ha0;go_wp2;go_meet
   case rel=>exact ⟨by rw [HE.out];try rfl,rfl⟩
  ·obtain ⟨b,hab⟩ : ∃ b,a=b+1:=⟨a - 1,by omega⟩;have ck:=LQ.out.kind (i:=b) (by omega);have hb0:(a:Int) - 1=b:=by omega
   have hbl:b<L.length:=by omega
   have hap:0<a:=by omega
   have e:fN L a=((L.getD b zc).1 == 2):=by unfold fN;rw [decide_eq_true hap,show a - 1=b by omega];rfl
   clear hab ha0;obtain ⟨K,hK⟩:=ae ((L.getD b zc).1);rw [<-hK] at ck e;have HE:=ab e;clear e hK;go_wp2;go_meet
   case rel=>exact ⟨by rw [HE.out];try rfl,rfl⟩
 case rest =>
  obtain ⟨rfl,hwc⟩:=hcut;subst hwc;have Ja:=ab (show fu L a=if fN L a=true then L.set (a - 1) zc else L from rfl);have EJ:=ab (show fN L a=true->0<a from fun h=>by
   unfold fN at h;simp only [Bool.and_eq_true,decide_eq_true_eq] at h;exact h.1)
  generalize fN L a=q at Ja EJ ⊢
  go_upto_if 62 with (fail)
  go_cut [] from 63 to 70 (fun wx=>Mid Z w wx B g gc L.length cap (fu L a) wrap/\Below wx.heap.size wx wx)
  case first =>
   have c0:=LQ.out.row
   cases q with
   |false =>
    go_wp2;go_meet
    case rel=>exact ⟨by rw [Ja.out];exact LQ.out,Below.refl _ _⟩
   |true =>
    have hap:0<a:=EJ.out rfl;obtain ⟨b,hab⟩ : ∃ b,a=b+1:=⟨a - 1,by omega⟩;have Dq:=ab (show fu L a=L.set b zc by rw [Ja.out,show a - 1=b by omega];rfl);have hb0:(a:Int) - 1=b:=by omega
    have hbl:b<L.length:=by omega
    clear hab
    go_wp2_with (refine eN (E:=cellE) (Y:=fun b=>Z b/\b≠g) (i:=b) rfl 147 (.tmp 70) (.tmp 69) rfl rfl rfl [.int .i64 0,.slice none 0 0] rfl (by kernel_rfl) LQ.out.2.2.1.each (by rw [LQ.out.1];exact hbl) zc (lL _ _) ?_)
    intro w3 DF Dj;have H3:=ab (LQ.out.put hne hbl rfl DF (fun j b k=>by first | exact k | (split at k <;> exact k)) Dj);clear DF Dj c0;go_wp2;go_meet
    case rel=>exact ⟨by rw [Dq.out];exact H3.out,Below.refl _ _⟩
  case rest =>
   have Lf:=ab hcut.1;clear hcut Ja EJ;obtain ⟨wd,hwd⟩:=ae (wc);subst hwd;have MT:((a:Int)+(p.length:Int)).toNat=a+p.length:=by omega
   go_upto_region 10 with (fail)
   go_cut [88] from 71 to 88 (fun t wx=>t=.bool (dL L (a+p.length))/\wx=wd)
   case first =>
    have c0:=Lf.out.row
    by_cases he:a+p.length<L.length
    ·have ck:=Lf.out.kind (i:=a+p.length) he;rw [sN Ci] at ck;have e:dL L (a+p.length)=((L.getD (a+p.length) zc).1 == 3):=by unfold dL;rw [decide_eq_true he];rfl
     have PH:(a:Int)+p.length<L.length:=by omega
     obtain ⟨K,hK⟩:=ae ((L.getD (a+p.length) zc).1);rw [<-hK] at ck e;have HE:=ab e;clear e hK;go_wp2;go_meet
     case rel=>exact ⟨by rw [HE.out];try rfl,rfl⟩
    ·have HE:=ab (show dL L (a+p.length)=false by unfold dL;rw [decide_eq_false he];rfl);have PH:¬ (a:Int)+p.length<L.length:=by omega
     go_wp2;go_meet
     case rel=>exact ⟨by rw [HE.out];try rfl,rfl⟩
   case rest =>
    obtain ⟨rfl,hwc⟩:=hcut;subst hwc;have Dq:=ab (show kp L a p.length=if dL L (a+p.length)=true then (fu L a).set (a+p.length) zc else fu L a from rfl);have N6:=ab (show vb L a p.length=if dL L (a+p.length)=true then a+p.length+1 else a+p.length from rfl);have FB:=ab (show dL L (a+p.length)=true->a+p.length<L.length from fun h=>by
     unfold dL at h;simp only [Bool.and_eq_true,decide_eq_true_eq] at h;exact h.1)
    generalize dL L (a+p.length)=q2 at Dq N6 FB ⊢
    go_upto_if 88 with (fail)
    go_cut [7] from 89 to 97 (fun en wx=>en=.int .i64 ((vb L a p.length:Nat):Int)/\Mid Z w wx B g gc L.length cap (kp L a p.length) wrap)
    case first =>
     have c0:=Lf.out.row
     cases q2 with
     |false =>
      go_wp2;go_meet
      case rel=>exact ⟨by rw [N6.out];go_num,by rw [Dq.out];exact Lf.out⟩
     |true =>
      have hlt:=FB.out rfl;have hlt2:(a:Int)+p.length<L.length:=by omega
      have hw2:IntKind.i64.wrap ((a:Int)+p.length+1)=(a:Int)+p.length+1:=by rw [IntKind.wrap_i64];omega
      go_wp2_with (refine eN (E:=cellE) (Y:=fun b=>Z b/\b≠g) (i:=a+p.length) rfl 147 (.tmp 95) (.tmp 94) rfl rfl rfl [.int .i64 0,.slice none 0 0] rfl (by kernel_rfl) Lf.out.2.2.1.each (by rw [Lf.out.1];exact hlt) zc (lL _ _) ?_)
      intro w3 DF Dj;have H3:=ab (Lf.out.put hne hlt rfl DF (fun j b k=>by first | exact k | (split at k <;> exact k)) Dj);clear DF Dj c0;go_wp2;go_meet
      case rel=>exact ⟨by rw [N6.out];go_num,by rw [Dq.out];exact H3.out⟩
    case rest =>
     obtain ⟨rfl,hm4⟩:=hcut;have HM4:=ab hm4;clear hm4 Dq N6 FB Lf MT Cd hz hnm hdA hdB hdC;obtain ⟨en,hen⟩:=ae (vb L a p.length);rw [<-hen] at FM ⊢;clear hen;obtain ⟨we,hwe⟩:=ae (wc);subst hwe;go_wp2
     go_loopw [100] (fun i wr=>∃ k:Nat,k<=p.length/\i=.int .i64 k/\Mid Z w wr B g gc L.length cap (fv L p a k) wrap) (fun i _=>p.length - (intOf i).toNat)
     case atStart=>exact ⟨0,Nat.zero_le _,rfl,by rw [qL];exact HM4.out⟩
     case round =>
      obtain ⟨k,hk,rfl,hm⟩:=hrel;have HM:=ab hm;clear hm
      by_cases hlt:k<p.length
      ·obtain ⟨b,off,tv,rfl,hb,hyb,c0,c1,hh⟩:=HC.out k hlt;obtain ⟨hyg,hyc⟩:=HY.out b hyb;have c0:=(HM.out.2.2.2.keep.cell (o:=off+k * 2) hb (fun e=>by rcases e with e | e;exact hyg e;exact hyc e)).trans c0;have c1:=(HM.out.2.2.2.keep.cell (o:=off+k * 2+1) hb (fun e=>by rcases e with e | e;exact hyg e;exact hyc e)).trans c1;have hh:=hh.upd HM.out.2.2.2 (fun b hb e=>by have:=HY.out b hb;rcases e with e | e;exact this.1 e;exact this.2 e);have DK:=HSH.out k hlt;have hs3:=qM L p a k;obtain ⟨⟨K,T⟩,Er⟩ : ∃ y,y=p.getD k zc:=⟨_,rfl⟩;rw [<-Er] at c0 hh DK hs3;simp only at c0 hh DK;have HH:=ab hh.ints;have KJ:=ab hs3;obtain ⟨ta,tc,rfl⟩:=hh.len;clear Er hh hs3;obtain ⟨W0,hW0⟩:=ae (wr.alloc (.cells #[.int .i64 K,.slice ta T.length tc] 147));have hb0:Below wr.heap.size wr W0:=by rw [hW0];exact zI _ _
       have KD:Has W0 wr.heap.size [.int .i64 K,.slice ta T.length tc] 147:=by rw [hW0];exact Has.new wr _ _
       have Oq:=ab (HM.out.below hb0);have HH0:=ab (HH.out.below hb0);have Ct:=ab KD;have hg0:g<wr.heap.size:=HM.out.2.1.lt;have hgc0:gc<wr.heap.size:=(HM.out.2.2.1.lt gc rfl).2;have hw0:w.heap.size<=wr.heap.size:=HM.out.2.2.2.size;have hs0:wr.heap.size<W0.heap.size:=by rw [hW0];simp
       obtain ⟨gb,hgb⟩:=ae (wr.heap.size);rw [<-hgb] at Ct hg0 hgc0 hw0 hs0;have hak:a+k<L.length:=by omega
       have MT:((a:Int)+(k:Int)).toNat=a+k:=by omega
       have Jr:IntKind.i64.wrap ((a:Int)+k)=(a:Int)+k:=by rw [IntKind.wrap_i64];omega
       have CI:=ab hgb;have Kz:=ab hW0;clear hb0 KD HH HM hgb hW0;go_wp2;rw [<-CI.out];rw [<-Kz.out];clear CI Kz;have hakI:(a:Int)+k<L.length:=by omega
       obtain ⟨zM,zU⟩ : ∃ CC:Array Bool->World->Prop,CC=fun L8 w'=>(Mix.one L8 10=0->Below W0.heap.size W0 w')/\(Mix.one L8 10≠0->Mid Z w w' B g gc L.length cap (fv L p a (k+1)) wrap):=⟨_,rfl⟩
       obtain ⟨Ar,z7⟩ : ∃ XX:World->World->Prop,XX=fun x y=>Upd (fun b=>b=g\/b=gc) x y:=⟨_,rfl⟩
       obtain ⟨Am,Ad,zR,zQ,zS,zT,zW,zV,zY,zP,zX,z4,zO,_⟩:=Reg.e12 Ar
        (fun xx _=>xx=.pointer (some ⟨g,0,none⟩))
        (fun xx _=>xx=.pointer (some ⟨g,0,none⟩))
        (fun xx _=>xx=.pointer (some ⟨g,0,none⟩))
        (fun xx _=>xx=.slice (some ⟨gc,0,none⟩) L.length cap)
        (fun xx _=>xx=.int .i64 a)
        (fun xx _=>xx=.int .i64 k)
        (fun xx _=>xx=.int .i64 ((a:Int)+k))
        (fun xx _=>xx=.agg #[.int .i64 K,.slice ta T.length tc])
        (fun x w'=>∃ tv9,x=.agg #[.int .i64 K,tv9]/\HeldE (aE .i32) (fun b=>gb<b) w' tv9 T)
        (fun xx _=>xx=.pointer (some ⟨gc,(a+k) * 2,none⟩))
        (fun xx _=>xx=undef)
        (fun _ _=>True)
        (s8:=fun x w w1 hx h=>by rw [z7] at hx;(obtain ⟨tv9,e9,h9⟩:=h;exact ⟨tv9,e9,h9.upd hx (fun b hb e=>by rcases e with e | e <;> omega)⟩))
       have zZ:Hid (∀ i L w,(i == 10)=false ->  zM L w->zM (L.setIfInBounds i true) w):=ab (by
        intro i L w q h;simp only [Bool.or_eq_false_iff,beq_eq_false_iff_ne] at q;rw [zU] at h ⊢;simp only [Mix.one_ne q];exact h)
       have Al:Hid (∀ L w w1,zM L w->Below w.heap.size w w1->zM L w1):=ab (by
        intro L w w1 h hb;rw [zU] at h ⊢;exact ⟨fun e=>(h.1 e).trans (hb.mono (h.1 e).size),fun e=>(h.2 e).below hb⟩)
       have Ac:=ab (show ∀ w,Ar w w from fun w=>by rw [z7];exact Upd.refl _ _);have Ab:=ab (show ∀ w w1,Below w.heap.size w w1->Ar w w1 from fun w w1 hb=>by rw [z7];exact .ofBelow hb);have Ao:=ab (show zM (Array.replicate 11 false) W0.drew from by rw [zU];exact ⟨fun _=>(Below.refl _ _).drew,fun e=>absurd (Mix.one_none _ _) e⟩);have zL:=ab (fun (i:Nat) L w v q (h:zM L w) (e:Am i v w)=>Reg.hk (zZ.out i L w q h) e (Ac.out w));have zK:=ab zU;have z8:=ab z7;clear zU z7
       go_wp2_with fail
       refine Reg.regionF Am zM Ar Ad.out (by kernel_rfl) (by kernel_rfl) (by kernel_rfl) Ao.out (fun Gl zJ=>?_);simp only [Reg.frame,Reg.dsts,List.map_cons,List.map_nil,Mix.put_lit,Reg.put_none,List.set_cons_succ,List.set_cons_zero,Nat.zero_add,Nat.reduceAdd] at zJ;refine ⟨⟨?_,?_,?_,?_,?_,?_,?_,?_,?_,?_,?_,trivial⟩,?_⟩
       ·intro Lq wq xq hh;simp only [zJ];refine Reg.go rfl ?_;have HK:=zL.out 0 _ _ _ rfl hh.cls ((zR.out _ _).mpr rfl);go_simp;exact HK.out
       ·intro Lq wq xq hh;simp only [zJ,(zR.out _ _).mp (hh.v 0)];refine Reg.go rfl ?_;have HK:=zL.out 1 _ _ _ rfl hh.cls ((zQ.out _ _).mpr rfl);go_simp;exact HK.out
       ·intro Lq wq xq hh;simp only [zJ,(zQ.out _ _).mp (hh.v 1)];refine Reg.go rfl ?_;have HK:=zL.out 2 _ _ _ rfl hh.cls ((zS.out _ _).mpr rfl);go_simp;exact HK.out
       ·intro Lq wq xq hh;simp only [zJ,(zS.out _ _).mp (hh.v 2)];refine Reg.go rfl ?_;have hc:zM Lq wq:=hh.cls;rw [zK.out] at hc;have hc3:=hc.1 (Mix.one_un (hh.notYet 10 (by kernel_rfl)));have hcell:=(Oq.out.below hc3).row;clear hc;have HK:=zL.out 3 _ _ _ rfl hh.cls ((zT.out _ _).mpr rfl);go_simp;exact HK.out
       ·intro Lq wq xq hh;simp only [zJ];refine Reg.go rfl ?_;have HK:=zL.out 4 _ _ _ rfl hh.cls ((zW.out _ _).mpr rfl);go_simp;exact HK.out
       ·intro Lq wq xq hh;simp only [zJ];refine Reg.go rfl ?_;have HK:=zL.out 5 _ _ _ rfl hh.cls ((zV.out _ _).mpr rfl);go_simp;exact HK.out
       ·intro Lq wq xq hh;simp only [zJ,(zW.out _ _).mp (hh.v 4),(zV.out _ _).mp (hh.v 5)];refine Reg.go rfl ?_;have HK:=zL.out 6 _ _ _ rfl hh.cls ((zY.out _ _).mpr rfl);go_simp;exact HK.out
       ·intro Lq wq xq hh;simp only [zJ];refine Reg.go rfl ?_;have hc:zM Lq wq:=hh.cls;rw [zK.out] at hc;have MK:=hc.1 (Mix.one_un (hh.notYet 10 (by kernel_rfl)));have BR:=Ct.out.below MK Ct.out.lt;have k0:=BR.cell 0 _ rfl;have k1:=BR.cell 1 _ rfl;clear hc;have HK:=zL.out 7 _ _ _ rfl hh.cls ((zP.out _ _).mpr rfl);go_simp;exact HK.out
       ·intro Lq wq xq hh;simp only [zJ,(zP.out _ _).mp (hh.v 7)];refine Reg.go rfl ?_;unfold Reg.upon;have hc:zM Lq wq:=hh.cls;rw [zK.out] at hc;have hc8:=hc.1 (Mix.one_un (hh.notYet 10 (by kernel_rfl)));go_simp;refine (lK K _ T wq (HH0.out.below hc8) DK).mono ?_;rintro e w2 ⟨tv9,rfl,FD,Bd⟩;refine ⟨_,rfl,zZ.out 8 Lq w2 (by decide) (Al.out Lq wq w2 hh.cls Bd),?_,Ab.out wq w2 Bd⟩;rw [zX.out];exact ⟨tv9,rfl,FD.zone (fun b _ hz=>by have:=hc8.size;omega)⟩
       ·intro Lq wq xq hh;simp only [zJ,(zT.out _ _).mp (hh.v 3),(zY.out _ _).mp (hh.v 6)];refine Reg.go rfl ?_;have HK:=zL.out 9 _ _ _ rfl hh.cls ((z4.out _ _).mpr rfl);go_simp;exact HK.out
       ·intro Lq wq xq hh;have d8:=(zX.out _ _).mp (hh.v 8);simp only [zJ,(z4.out _ _).mp (hh.v 9)];refine Reg.go rfl ?_;unfold Reg.upon;obtain ⟨tv9,e9,h9⟩:=d8;obtain ⟨t9a,t9c,e8⟩:=h9.len;rw [e9];subst e8;have hc10:zM Lq wq:=hh.cls;rw [zK.out] at hc10;have hcb:=hc10.1 hh.un;have Ij:=Oq.out.below hcb;have JQ:a+k<(fv L p a k).length:=by rw [sL];exact hak
        have LV:cellE.rep (fun b=>(Z b/\b≠g)/\b≠gc) wq [.int .i64 K,.slice t9a T.length t9c] (K,T):=cell_rep.2 ⟨_,rfl,h9.zone (fun b _ hz=>⟨⟨HZ.out b (by omega),by omega⟩,by omega⟩)⟩;have OO:=Ij.2.2.1.each.there JQ;obtain ⟨A9,Nk⟩:=Ij.2.2.1.each.put (Y:=fun b=>Z b/\b≠g) JQ _ (K,T) LV;rw [gT (b:=gc) (off:=(a+k) * 2) rfl rfl [.int .i64 K,.slice t9a T.length t9c] rfl OO (by kernel_rfl) (cellE.one LV)];refine ⟨?_,(by rw [zO.out]),(by rw [z8.out];exact Nk.mono (fun b _ e=>.inr e))⟩;rw [zK.out];refine ⟨fun e=>(by rw [Mix.one_set (by rw [hh.size];decide)] at e;cases e),fun _=>?_⟩;rw [KJ.out];exact Ij.put hne hak rfl A9 (fun j b q=>by split at q <;> exact q) Nk
       intro xq Dk Af Av;rw [zK.out] at Af;simp only [zJ];clear Av zJ zL zZ Ac Ad Ao zK z8 Al Ab zR zQ zS zT zW zV zY zP zX z4 zO;have Mu:=ab (Af.2 (by rw [Mix.one_all (by decide)];decide));clear Af;go_wp2
       go_roundw
       case rel=>exact ⟨k+1,by omega,by go_num,Mu.out⟩
       case measure=>simp [intOf] <;> omega
      ·obtain rfl:k=p.length:=by omega
       have MM:=HM.out;rw [JU.out] at MM;have c0:=MM.row;have c1:=MM.2.1.cell 1 _ rfl;have f1:=MM.2.1.free 1;have N5:=ab MM;clear MM HM
       cases L6:bd L p a with
       |true =>
        rw [L6] at FM;have he:en=L.length:=of_decide_eq_true FM.out;have PH:((en:Int) == (L.length:Int))=true:=by rw [he];simp
        have O4:=ab L6;clear he L6;go_wp2;go_ret;exact ⟨af,by rw [O4.out,Bool.not_true,Bool.and_false];exact (N5.out.setWrap hne false).done hB hne hl0 hl AN.out,(N5.out.setWrap hne false).2.2.2⟩
       |false =>
        rw [L6] at FM;have he:en≠L.length:=of_decide_eq_false FM.out;have PH:((en:Int) == (L.length:Int))=false:=by rw [beq_eq_false_iff_ne];omega
        have O4:=ab L6;clear he L6;go_wp2;go_ret;exact ⟨af,by rw [O4.out,Bool.not_false,Bool.and_true];exact N5.out.done hB hne hl0 hl AN.out,N5.out.2.2.2⟩
end Go.Proofs.YtoeggiplcaegoaaGreatDoor
