import Derived.Test.YtoeggiplcaegoaaGreatDoorZ0
import Derived.Test.YtoeggiplcaegoaaGreatDoorMg11
import Derived.Test.YtoeggiplcaegoaaGreatDoorFedR
import Derived.Test.YtoeggiplcaegoaaGreatDoorMg1
import Derived.Test.YtoeggiplcaegoaaGreatDoorCards
import Derived.Test.YtoeggiplcaegoaaGreatDoorTie
import Derived.ProofKit
import Derived.Lib.MinMax
import Derived.Deep.CutBlock
set_option maxRecDepth 100000
set_option linter.unusedVariables false
set_option linter.unusedSimpArgs false
set_option maxHeartbeats 8000000
namespace Go.Proofs.YtoeggiplcaegoaaGreatDoor.lawFeedCuts
open Go.ChangeShapes Go.WideShapes Go.ChangeAt Go.RowKit
theorem walkN(W:World)(a b:Int)(bv av:Value)(bs at_:List Int)(hb:HeldE (aF .u8) (fun x=>x<W.heap.size) W bv bs)(ha:HeldE (aF .i64) (fun x=>x<W.heap.size) W av at_)(Ce:inBytes bs)(h4:bs.length<=400)(h1:at_.length<=100):Calls Tryz.prog 6 #[.agg #[.int .i64 a,.int .i64 b],bv,av] W (Yes W):=by
 obtain ⟨bo,bc,rfl⟩:=hb.len;obtain ⟨ao,ac,rfl⟩:=ha.len;have Jf:=ab (yG bs at_);have DU:=yH bs at_;obtain ⟨L,hL⟩:=ae (sq bs at_);have IM:=ab (fun (w':World) (k:Below W.heap.size W w')=>zO _ _ bs at_ w' ((hb.below k).ints) (fun _ _ _ e=>by cases e;exact hb.spots.2.1) ((ha.below k).ints) (by omega) (by omega));have PX:=ab (fun (w':World) (k:Below W.heap.size W w')=>qS _ bs w' ((hb.below k).ints) (fun _ _ _ e=>by cases e;exact hb.spots.2.1) (by omega) Ce);rw [<-hL] at Jf IM DU;have NC:decide ((400:Int)<bs.length)=false:=ai (by omega);have Gh:decide ((100:Int)<at_.length)=false:=ai (by omega);have Ch:=ab (show L.length<=101 by omega);have Fd:=ab hb;have Gp:=ab Ce;have Ep:=ab h4;obtain ⟨nb,Ej⟩:=ae (bs.length);obtain ⟨na,Mk⟩:=ae (at_.length);rw [<-Ej] at Fd IM PX NC ⊢;rw [<-Mk] at IM Gh ⊢;clear hb ha Ce h4 h1 DU hL Ej Mk;obtain ⟨y,hy⟩:=ae (IntKind.u64.wrap a);have Dy:0<=y/\y<=18446744073709551615:=by rw [hy,IntKind.wrap_u64];omega
 obtain ⟨c,hc⟩ : ∃ c:Nat,y % 12=(c:Int):=⟨(y % 12).toNat,by omega⟩;have LJ:c<12:=by omega
 have hy':IntKind.u64.wrap a=y:=hy.symm;have I0:y.tmod 12=(c:Int):=by rw [Int.tmod_eq_emod_of_nonneg Dy.1];exact hc
 have hwc:IntKind.i64.wrap (c:Int)=(c:Int):=by rw [IntKind.wrap_i64];omega
 obtain ⟨wd,hwd⟩ : ∃ wd:Nat,IntKind.i64.wrap (1+(c:Int))=(wd:Int)/\1<=wd/\wd<=12:=⟨1+c,by rw [IntKind.wrap_i64];omega,by omega,by omega⟩;obtain ⟨Oj,Da,N7⟩:=hwd;clear hy Dy hc LJ;obtain ⟨y2,hy⟩:=ae (IntKind.u64.wrap b);have Dy:0<=y2/\y2<=18446744073709551615:=by rw [hy,IntKind.wrap_u64];omega
 obtain ⟨d,hc⟩ : ∃ d:Nat,y2 % 6=(d:Int):=⟨(y2 % 6).toNat,by omega⟩;have LJ:d<6:=by omega
 have hy2':IntKind.u64.wrap b=y2:=hy.symm;have hct2:y2.tmod 6=(d:Int):=by rw [Int.tmod_eq_emod_of_nonneg Dy.1];exact hc
 have hwc2:IntKind.i64.wrap (d:Int)=(d:Int):=by rw [IntKind.wrap_i64];omega
 obtain ⟨ht,Nv⟩ : ∃ ht:Nat,IntKind.i64.wrap (1+(d:Int))=(ht:Int)/\1<=ht/\ht<=6:=⟨1+d,by rw [IntKind.wrap_i64];omega,by omega,by omega⟩;obtain ⟨hww2,Ge,hh5⟩:=Nv;clear hy Dy hc LJ;obtain ⟨P0,Ok⟩ : ∃ P0:Pn,P0=⟨List.replicate ht (List.replicate wd zc,false),0,0,false,true⟩:=⟨_,rfl⟩;have EY:=ab (show fy wd ht from ⟨by omega,by omega,by omega,by omega⟩);have HPN0:=ab (show PnOk wd ht P0 from by
  rw [Ok];refine ⟨by rw [List.length_replicate],fun i hi=>?_⟩;rw [List.length_replicate] at hi
  simp [List.getD,List.getElem?_replicate,hi])
 have HPNEW:=ab (fun (w':World)=>show Calls Tryz.prog 31 #[.int .i64 (wd:Int),.int .i64 (ht:Int)] w' (fun e w2=>∃ gp gg gr R0,e=.returned (.pointer (some ⟨gp,0,none⟩))/\fX w2 w'.heap.size gp gg gr wd R0 P0.L P0.r P0.c P0.pd P0.au/\Below w'.heap.size w' w2) from by
  have h:=pW (wd:Int) (ht:Int) w';rw [show df (wd:Int)=wd from by unfold df;omega,show df (ht:Int)=ht from by unfold df;omega] at h;rw [Ok];exact h)
 have HRNEW:=ab (fun (w':World)=>show Calls Tryz.prog 32 #[.int .i64 (wd:Int),.int .i64 (ht:Int)] w' (fun e w2=>∃ v,e=.returned (.agg #[v,.int .i64 0,.int .i64 0,.bool false,.bool true])/\HeldE lineE (fun x=>w'.heap.size+1<=x) w2 v P0.L/\Below w'.heap.size w' w2) from by
  rw [Ok];exact uW wd ht (by omega) (by omega) w')
 have Nn:=ab (show P0.r=0/\P0.c=0/\P0.pd=false/\P0.au=true from by rw [Ok];exact ⟨rfl,rfl,rfl,rfl⟩);clear Ok Da N7 Ge hh5;obtain ⟨W1,hW1⟩:=ae (W.alloc (.cells [Value.int .i64 a,.int .i64 b].toArray 75));have hs1:Has W1 W.heap.size [Value.int .i64 a,.int .i64 b] 75:=by rw [hW1];exact Has.new W _ _
 have hb1:Below W.heap.size W W1:=by rw [hW1];exact AU _ _
 have K7:W.alloc (.cells #[Value.int .i64 a,.int .i64 b] 75)=W1:=hW1.symm;have HS:=ab hs1;have BW:=ab hb1;clear hW1 hs1 hb1
 go_enter Tryz.func6,Tryz.ntmps6
 go_upto_region 1 with (fail)
 clear K7
 go_wp2_with fail
 refine (et _).mono ?_;rintro e w1 ⟨rfl,b1⟩;have c0:=(HS.out.below b1 HS.out.lt).cell 0 _ rfl;have c1:=(HS.out.below b1 HS.out.lt).cell 1 _ rfl;replace BW:=ab (BW.out.trans (b1.mono BW.out.size));clear b1 HS
 go_wp2_with fail
 go_quiet (fail)
 obtain ⟨wA,PV⟩:=ae (w1.drewN nq);rw [<-PV];replace BW:=ab (show Below W.heap.size W wA from by rw [PV];exact BW.out.drewN nq);have GH:=ab BW.out.size;clear PV c0 c1 hy' I0 hwc Oj hy2' hct2 hwc2 hww2
 go_wp2_with fail
 refine (HPNEW.out _).mono ?_;rintro e w2 ⟨gp,gg,gr,R0,rfl,KY,b2⟩;have KG:=ab KY;replace BW:=ab (BW.out.trans (b2.mono BW.out.size));have Ji:=ab b2.size;clear KY b2
 go_wp2_with fail
 refine (HRNEW.out _).mono ?_;rintro e w3 ⟨v3,rfl,hv3,b3⟩;obtain ⟨o3,k3,e3⟩:=hv3.len;obtain ⟨n0,Fa⟩:=ae (P0.L.length);rw [<-Fa] at e3;subst e3;replace KG:=ab (KG.out.below b3);replace Ji:=ab (Nat.le_trans Ji.out b3.size);replace BW:=ab (BW.out.trans (b3.mono BW.out.size));clear hv3 Fa b3;obtain ⟨W4,IU⟩:=ae (w3.alloc (.cells [Value.slice o3 n0 k3,.int .i64 0,.int .i64 0,.bool false,.bool true].toArray 43));obtain ⟨gb,hgb⟩:=ae (w3.heap.size);have hq4:Has W4 gb [.slice o3 n0 k3,.int .i64 0,.int .i64 0,.bool false,.bool true] 43:=by rw [IU,hgb];exact Has.new w3 _ _
 have hb4:Below w3.heap.size w3 W4:=by rw [IU];exact AU _ _
 replace KG:=ab (KG.out.below hb4);have HQ:=ab hq4;have HBG:=ab (show wA.heap.size<=gb from by rw [hgb];exact Ji.out);have DJ:=ab (show W.heap.size<=gb from by rw [hgb];exact BW.out.size);replace BW:=ab (BW.out.trans (hb4.mono BW.out.size));replace Ji:=ab (Nat.le_trans Ji.out hb4.size);have hW4':w3.alloc (.cells #[Value.slice o3 n0 k3,.int .i64 0,.int .i64 0,.bool false,.bool true] 43)=W4:=IU.symm;clear hq4 hb4 IU;have hgb':=hgb.symm;clear hgb
 go_upto_region 5 with (fail)
 clear hW4' hgb'
 go_wp2_with fail
 refine (lp KG.out).mono ?_;rintro e w5 ⟨gf,rfl,Qz,hf5,b5⟩;have GB:=ab hf5;have Oo:=ab (show wA.heap.size<=gf from Nat.le_trans Ji.out Qz);replace HQ:=ab (HQ.out.below b5 HQ.out.lt);replace BW:=ab (BW.out.trans (b5.mono BW.out.size));replace Ji:=ab (Nat.le_trans Ji.out b5.size);clear hf5 b5 Qz KG
 go_wp2_with fail
 refine (HPNEW.out _).mono ?_;rintro e w6 ⟨gp2,gg2,gr2,R2,rfl,hp6,b6⟩;have HP6:=ab hp6;have H56:=ab b6;clear hp6 b6
 go_upto_region 6 with (fail)
 go_wp2_with fail
 refine (lp HP6.out).mono ?_;rintro e w7 ⟨gf2,rfl,hgf2,Ks,b7⟩;have H57:=ab (H56.out.trans (b7.mono H56.out.size));have OE:=ab (GB.out.skip H57.out);have ND:=ab (Ks.skip (Below.refl _ _));have HGF2:=ab (show w5.heap.size<=gf2 from Nat.le_trans H56.out.size hgf2);replace HQ:=ab (HQ.out.below H57.out HQ.out.lt);replace BW:=ab (BW.out.trans (H57.out.mono BW.out.size));clear Ks b7 hgf2 HP6 H56
 go_upto_region 7 with (fail)
 go_wp2_with fail
 refine (IM.out _ BW.out).mono ?_;rintro e w8 ⟨v8,n8,rfl,ho8,b8⟩;obtain ⟨Xf,HXF,OE⟩ : ∃ Xf:an,Hid (∀ b,Xf b->b<w5.heap.size\/w7.heap.size<=b)/\Hid (FAt Xf w7 wA.heap.size gp gg gr wd gf R0 P0 [] st0 none):=⟨_,ab (fun b h=>h.2.2),OE⟩;obtain ⟨Xg,HXG,ND⟩ : ∃ Xg:an,Hid (∀ b,Xg b->w5.heap.size<=b)/\Hid (FAt Xg w7 w5.heap.size gp2 gg2 gr2 wd gf2 R2 P0 [] st0 none):=⟨_,ab (fun b h=>h.2.1),ND⟩;have PB:=ab (OE.out.below b8);obtain ⟨lo,lc,rfl,GI,hlc,Jk⟩:=qY PB.out ho8;have Mp:=ab Jk;have IW:=ab GI;have NZ:=ab (show ∀ b,b<w8.heap.size->FW w8 gp gr gf R0 none b->b<w5.heap.size from fun b h k=>vC GB.out h k);have DF:=ab (show W.heap.size<=wA.heap.size/\wA.heap.size<=w5.heap.size/\w5.heap.size<=w7.heap.size/\w7.heap.size<=w8.heap.size from ⟨Nat.le_trans GH.out (Nat.le_refl _),Ji.out,H57.out.size,b8.size⟩);have Nt:=ab (show FOn Xg w5.heap.size w8 gp2 gg2 gr2 wd gf2 R2 P0 [] st0 none from ⟨ND.out.below b8,HGF2.out,(fun g e=>by cases e),by have:=DF.out;omega⟩);replace HQ:=ab (HQ.out.below b8 HQ.out.lt);replace BW:=ab (BW.out.trans (b8.mono BW.out.size));clear GI Jk ho8 b8 OE;go_wp2
 go_loopw [15] (fun iv wr=>∃ k:Nat,k<=n8/\iv=.int .i64 k/\FGo Xf w8 wA.heap.size gp gg gr wd gf R0 none P0 (aE st0 ((L.take k).flatten)) (aI st0 ((L.take k).flatten)) wr/\Below W.heap.size W wr) (fun iv _=>n8 - (intOf iv).toNat)
 case atStart=>exact ⟨0,Nat.zero_le _,rfl,FGo.self PB.out (Below.refl _ _),BW.out⟩
 case round =>
  obtain ⟨k,hk,rfl,hgo,AY⟩:=hrel;obtain ⟨wq,ED⟩:=ae (wr);subst ED
  by_cases hlt:k<n8
  ·obtain ⟨R1,op1,hF,hU,hR,hO⟩:=hgo;obtain ⟨b,u,e,hb,Ej,hc,hu⟩:=Mp.out k hlt;subst e;have c0:=(hU.keep.cell (o:=k) hb Ej).trans hc;have Fp:k<L.length:=by rw [<-IW.out];exact hlt
   have Ce:=vE Jf.out Gp.out k Fp;have Fq:=(yO hu hU hR hO).zone (Y:=fun b=>¬ FW wq gp gr gf R1 op1 b) fun _ _ h=>h.1
   have On:FOn Xf wA.heap.size wq gp gg gr wd gf R1 P0 (aE st0 ((L.take k).flatten)) (aI st0 ((L.take k).flatten)) op1:=⟨hF,Oo.out,(fun g e=>by
    rcases hO g e with e | e
    ·cases e
    ·have:=DF.out;omega),by have:=hU.size;have:=DF.out;omega⟩
   have HC:=ab (fb _ _ _ _ _ _ _ _ _ _ _ u _ _ hF (yt Ce.2) Fq Ce.1);have HE:=ab (fun (w2:World) (hk2:FGo Xf wq wA.heap.size gp gg gr wd gf R1 op1 P0 (aE st0 ((L.take k).flatten)++aE (aI st0 ((L.take k).flatten)) (L.getD k [])) (aI (aI st0 ((L.take k).flatten)) (L.getD k [])) w2)=>show FGo Xf w8 wA.heap.size gp gg gr wd gf R0 none P0 (aE st0 ((L.take (k+1)).flatten)) (aI st0 ((L.take (k+1)).flatten)) w2/\Below W.heap.size W w2 from by
    obtain ⟨_,_,_,_,hbl,_,_⟩:=On.go hk2;rw [th L k Fp,fO,iJ];exact ⟨FGo.trans hU hR hO hk2,AY.trans (hbl.mono DF.out.1)⟩)
   obtain ⟨uo,uc,eu⟩:=Fq.len;obtain ⟨un,NM⟩:=ae ((L.getD k []).length);rw [<-NM] at eu;subst eu;have Mh:k<lc:=by omega
   have OO:(k:Int)<(n8:Int):=by omega
   have Kt:IntKind.i64.wrap ((k:Int)+1)=(k:Int)+1:=by rw [IntKind.wrap_i64];have:=Ch.out;omega
   clear hF hU hR hO hc hu Ce Fq On NM Fp hb Ej AY
   go_wp2_with fail
   refine HC.out.mono ?_;rintro e w2 ⟨rfl,hk2⟩;have HZ:=ab (HE.out w2 hk2);clear hk2;go_wp2
   go_roundw
   case rel=>exact ⟨k+1,by omega,by go_num,HZ.out.1,HZ.out.2⟩
   case measure=>simp [intOf] <;> omega
  ·obtain rfl:k=n8:=by omega
   rw [show (L.take k).flatten=bs from by rw [IW.out,List.take_length];exact Jf.out] at hgo;obtain ⟨R1,op1,hF,hU,hR,hO⟩:=hgo;have On:FOn Xf wA.heap.size wq gp gg gr wd gf R1 P0 (aE st0 bs) (aI st0 bs) op1:=⟨hF,Oo.out,(fun g e=>by
    rcases hO g e with e | e
    ·cases e
    ·have:=DF.out;omega),by have:=hU.size;have:=DF.out;omega⟩
   obtain ⟨_,_,LU⟩:=Nt.out.1.2.pen;have GE:=LU.2.2.1.lt;have OT:=Nt.out.1.far hU (fun b h1 h2 h3=>by have:=HXG.out b h1;have:=NZ.out b h2 h3;omega) (fun h3=>by have:=NZ.out gg2 GE.2.1 h3;omega) (fun b h1 h2 h3=>by have:=ss Nt.out b h1;have:=NZ.out b h2 h3;omega);have MS:FOn Xg w5.heap.size wq gp2 gg2 gr2 wd gf2 R2 P0 [] st0 none:=⟨OT,HGF2.out,(fun g e=>by cases e),by have:=hU.size;have:=DF.out;omega⟩;have hbv:=(Fd.out.below AY).zone (Y:=fun b=>¬ FW wq gp2 gr2 gf2 R2 none b) fun b _ h e=>by have:=ss MS b e;have:=DF.out;omega
   have HC:=ab (fb _ _ _ _ _ _ _ _ _ _ _ _ _ _ OT me hbv Gp.out);have HF9:=ab hF;have O9:=ab hU;have HR9:=ab hR;have HO9:=ab hO;have LY:=ab On;have KT:=ab OT;have Ni:=ab MS;replace BW:=ab AY;have QO:=ab (O9.out.keep.has HQ.out (fun h=>PB.out.off HQ.out ⟨by decide,by decide,by decide,by decide,by decide,by decide,by decide⟩ h));clear hF hU hR hO On LU GE OT MS hbv AY
   go_wp2_with fail
   refine HC.out.mono ?_;rintro e w10 ⟨rfl,MC⟩;rw [List.nil_append] at MC;obtain ⟨_,_,_,_,hbl,_,_⟩:=Ni.out.go MC;obtain ⟨R3,op3,hG10,KS,hR10,hO10⟩:=MC;have BB:∀ b,b<wq.heap.size->FW wq gp2 gr2 gf2 R2 none b->w5.heap.size<=b/\b<w7.heap.size:=fun b h1 h2=>⟨ss Ni.out b h2,vC ND.out h1 h2⟩
   obtain ⟨_,_,LQ⟩:=GB.out.2.pen;have MA:=LQ.2.2.1.lt;have hF10:=HF9.out.far KS (fun b h1 h2 h3=>by have:=HXF.out b h1;have:=BB b h2 h3;omega) (fun h3=>by have:=BB gg (by have:=O9.out.size;have:=DF.out;omega) h3;omega) (fun b h1 h2 h3=>by
    have h4:=BB b h2 h3;have h5:=FW.from HR9.out HO9.out O9.out.size b h1;have:=NZ.out b (by have:=DF.out;omega) h5;omega)
   have Kj:=ab hF10;have JX:=ab hG10;have MW:=ab (KS.keep.has QO.out (fun h=>KT.out.off QO.out ⟨by decide,by decide,by decide,by decide,by decide,by decide,by decide⟩ h));have J6:=ab (show Below W.heap.size W w10 from BW.out.trans (hbl.mono (by have:=DF.out;omega)));have HOP:=ab (show ∀ g,op1=some g->wA.heap.size<=g from LY.out.2.2.1);have HSA:=ab (show wA.heap.size<=w10.heap.size from Nat.le_trans LY.out.2.2.2 KS.size);clear hbl hG10 KS hR10 hO10 BB LQ MA hF10 HC KT Ni HF9 O9 HR9 HO9 LY Mp NZ PB Nt HQ QO HXF HXG GB OE ND;obtain ⟨sT,Qj⟩:=ae (aI st0 bs);obtain ⟨xT,PN⟩:=ae (aE st0 bs);have HST:=ab Qj;have PI:=ab PN;rw [<-Qj,<-PN] at Kj JX;clear Qj PN;have hxs:xT.length<=800:=by rw [PI.out];have:=sR bs;have:=Ep.out;omega
   have HXL:=ab hxs;have h1:=jS Kj.out;have h2:=jS JX.out;have h3:=jT Kj.out;have H4:=ab (fun (w':World) (b:Below w10.heap.size w10 w')=>jT (JX.out.below b));obtain ⟨q,hq⟩:=ae (sT.2.2);rw [<-hq] at h1 h2;have Py:(q != q)=false:=by simp
   clear hq hxs
   go_wp2_with fail
   refine h1.mono ?_;clear h1;rintro e w' ⟨rfl,rfl⟩
   go_wp2_with fail
   refine h2.mono ?_;clear h2;rintro e w' ⟨rfl,rfl⟩
   go_wp2_with fail
   refine h3.mono ?_;clear h3;rintro e w11 ⟨v11,rfl,M8,b11⟩;have HV11:=ab M8;have Jh:=ab b11;obtain ⟨oo,oc,e11⟩:=M8.len;obtain ⟨on,JI⟩:=ae ((i8 xT).length);rw [<-JI] at e11;subst e11;have LM:=ab JI;clear M8 b11 Py JI
   go_wp2_with fail
   refine (H4.out _ Jh.out).mono ?_;rintro e w12 ⟨v12,rfl,KK,b12⟩;have hsm:=lN _ v12 (i8 xT) (i8 xT) w12 (HV11.out.below b12).ints KK.ints KK.max;rw [lM] at hsm;obtain ⟨oo2,oc2,e12⟩:=KK.len;rw [<-LM.out] at e12;subst e12;replace Jh:=ab (Jh.out.trans (b12.mono Jh.out.size));clear KK b12 LM
   go_wp2_with fail
   refine hsm.mono ?_;clear hsm;rintro e w13 ⟨rfl,b13⟩;replace Jh:=ab (Jh.out.trans (b13.mono Jh.out.size));have HF13:=ab (Kj.out.below Jh.out);have HG13:=ab (JX.out.below Jh.out);have Lg:=ab (MW.out.below Jh.out MW.out.lt);have Nf:=ab (J6.out.trans (Jh.out.mono J6.out.size));have HSA13:=ab (Nat.le_trans HSA.out Jh.out.size);clear b13 Jh Kj JX MW J6 H4 HV11 HSA
   go_upto_region 15 with (fail)
   obtain ⟨Yg,_,LU⟩:=HG13.out.2.pen;obtain ⟨PF,QF⟩:=ae (bP wd P0 (bJ xT));rw [<-QF] at LU;have HPF:=ab QF;have PR:=ab LU;have p0:=LU.1.cell 0 _ rfl;have HLI:=ab (lW _ _ _ _ _ _ LU.2.2.1);clear QF LU
   go_wp2_with fail
   refine HLI.out.mono ?_;rintro e w14 ⟨v14,rfl,ho14,b14⟩;have KW:=ho14.held (fun b h _=>h);have HGB13:=ab Lg.out.lt;obtain ⟨lo14,lc14,e14⟩:=KW.len;obtain ⟨n14,hn14⟩:=ae ((R3.map aO).length);rw [<-hn14] at e14;subst e14;rw [PR.out.2.2.2] at KW;have HV14:=ab KW;have HF14:=ab (HF13.out.below b14);have Ha:=ab (Lg.out.below b14 Lg.out.lt);have ME:=ab (Nf.out.trans (b14.mono Nf.out.size));have Jx:=ab (PR.out.below b14);have HSA14:=ab (Nat.le_trans HSA13.out b14.size);have k0:=Ha.out.cell 0 _ rfl;have f0:=Ha.out.free 0;clear ho14 KW hn14 b14 p0 HLI HF13 Lg Nf PR HG13 HSA13
   go_upto_region 16 with (fail)
   obtain ⟨W15,Li⟩:=ae (w14.setCell ⟨gb,0,none⟩ (.slice lo14 n14 lc14));rw [<-Li];have Mq:Upd (fun b=>b=gb) w14 W15:=by rw [Li];exact (Upd.refl (fun b=>b=gb) w14).setCell (p:=⟨gb,0,none⟩) (.inl rfl) _
   have Gn:Has W15 gb [.slice lo14 n14 lc14,.int .i64 0,.int .i64 0,.bool false,.bool true] 43:=by rw [Li];exact Ha.out.set 0 _
   have hne:gp2≠gb:=fun e=>by subst e;exact aH Ha.out Jx.out.1 (by decide)
   have JC:=ab hne;have JB:=Mq.keep.has Jx.out.1 hne;have HP15:=ab JB;have HQ15:=ab Gn;have HU15:=ab Mq;have p1:=JB.cell 1 _ rfl;have p2:=JB.cell 2 _ rfl;have p3:=JB.cell 3 _ rfl;have q1:=Gn.cell 1 _ rfl;have q2:=Gn.cell 2 _ rfl;have q3:=Gn.cell 3 _ rfl;have f1:=Gn.free 1;have f2:=Gn.free 2;have f3:=Gn.free 3;clear Li Mq Gn hne JB k0 f0
   go_upto_region 17 with (fail)
   obtain ⟨W16,K5⟩:=ae (((W15.setCell ⟨gb,1,none⟩ (.int .i64 PF.r)).setCell ⟨gb,2,none⟩ (.int .i64 PF.c)).setCell ⟨gb,3,none⟩ (.bool PF.pd));rw [<-K5];have M6:Upd (fun b=>b=gb) W15 W16:=by rw [K5];exact (((Upd.refl (fun b=>b=gb) W15).setCell (p:=⟨gb,1,none⟩) (.inl rfl) _).setCell (p:=⟨gb,2,none⟩) (.inl rfl) _).setCell (p:=⟨gb,3,none⟩) (.inl rfl) _
   have Lo:Has W16 gb [.slice lo14 n14 lc14,.int .i64 PF.r,.int .i64 PF.c,.bool PF.pd,.bool true] 43:=by rw [K5];exact ((HQ15.out.set 1 _).set 2 _).set 3 _
   have hp16:=M6.keep.has HP15.out JC.out;have HQ16:=ab Lo;have HU16:=ab (HU15.out.trans M6);have p4:=hp16.cell 4 _ rfl;have q4:=Lo.cell 4 _ rfl;have f4:=Lo.free 4;clear K5 M6 Lo hp16 p1 p2 p3 q1 q2 q3 f1 f2 f3 HU15 HQ15 HP15
   go_upto_region 18 with (fail)
   obtain ⟨W17,Lr⟩:=ae (W16.setCell ⟨gb,4,none⟩ (.bool PF.au));rw [<-Lr];have J1:Upd (fun b=>b=gb) w14 W17:=by rw [Lr];exact HU16.out.setCell (p:=⟨gb,4,none⟩) (.inl rfl) _
   have I4:Has W17 gb [.slice lo14 n14 lc14,.int .i64 PF.r,.int .i64 PF.c,.bool PF.pd,.bool PF.au] 43:=by rw [Lr];exact HQ16.out.set 4 _
   have Mc:=ab (HF14.out.beside Ha.out ⟨by decide,by decide,by decide,by decide,by decide,by decide,by decide⟩ (vD Ha.out) J1);have HV17:=ab (HV14.out.upd J1 fun b hz e=>by
    have h9:b=gb:=e;have h8:w13.heap.size<=b:=hz;have:=HGB13.out;omega)
   have Mw:=ab (show Below W.heap.size W W17 from ME.out.upd J1 ME.out.size fun b e=>by have h9:b=gb:=e;have:=DJ.out;omega);have HSA17:=ab (Nat.le_trans HSA14.out J1.size);have k0:=I4.cell 0 _ rfl;have k1:=I4.cell 1 _ rfl;have k2:=I4.cell 2 _ rfl;have k3:=I4.cell 3 _ rfl;have k4:=I4.cell 4 _ rfl;obtain ⟨Yf,_,LQ⟩:=Mc.out.2.pen;rw [<-HPF.out] at LQ;have HAL:=ab (nu _ _ _ _ _ _ _ _ _ _ _ _ _ _ LQ.any HV17.out);clear Lr J1 I4 LQ p4 q4 f4 HU16 HQ16 HF14 Ha HV14 ME Jx HSA14 JC
   go_wp2_with fail
   refine HAL.out.mono ?_;rintro e w18 ⟨rfl,b18⟩;have LW:=Mc.out.below b18;have HFL18:=ab (yN _ _ _ _ _ _ _ _ _ _ _ _ LW (by rw [HST.out];exact yt Gp.out));have HFO:=ab (show FOn Xf wA.heap.size w18 gp gg gr wd gf R1 P0 xT sT op1 from ⟨LW,Oo.out,HOP.out,Nat.le_trans HSA17.out b18.size⟩);replace BW:=ab (Mw.out.trans (b18.mono Mw.out.size));clear b18 LW k0 k1 k2 k3 k4 HAL HV17 Mw HSA17 Mc
   go_wp2_with fail
   refine HFL18.out.mono ?_;rintro e w19 ⟨rfl,hk19⟩;obtain ⟨_,_,_,_,hbl,_,_⟩:=HFO.out.go hk19;obtain ⟨R5,op5,hF19,_,_,_⟩:=hk19;have HF19:=ab hF19;replace BW:=ab (BW.out.trans (hbl.mono DF.out.1));clear hbl hF19 HFO HFL18
   go_wp2_with fail
   refine (HRNEW.out _).mono ?_;rintro e w20 ⟨v20,rfl,Mi,b20⟩;obtain ⟨lo20,lc20,e20⟩:=Mi.len;obtain ⟨n20,hn20⟩:=ae (P0.L.length);rw [<-hn20] at e20;subst e20;have HV20:=ab Mi;have HF20:=ab (HF19.out.below b20);replace BW:=ab (BW.out.trans (b20.mono BW.out.size));clear Mi b20 hn20 HF19
   go_wp2_with fail
   refine (PX.out _ BW.out).mono ?_;rintro e w21 ⟨K,v21,rfl,hK,MU,b21⟩;have Lf:=(HeldE.ownedInts MU).zone (Y:=fun b=>b<w21.heap.size) fun b h _=>h
   have hlv:(dm bs K).length=K:=by
    have:=MU.1
    simpa using this
   rw [ti bs K hK,<-HST.out,<-PI.out] at Lf;have PK:AllV (xT++flT sT):=by
    rw [PI.out];exact (AllV.told Ak Gp.out).app (AllV.fl sT)
   obtain ⟨ro,rc2,e21⟩:=Lf.len;obtain ⟨rn,Nj⟩:=ae ((xT++flT sT).length);rw [<-Nj] at e21;subst e21;have N2:(xT++flT sT).length<=1000000:=by
    rw [List.length_append];have h1:=HXL.out;have h2:(flT sT).length<=1:=by unfold flT;split <;> simp
    omega
   have hv21:=(HV20.out.below b21).zone (Y:=fun b=>b<w21.heap.size) fun b h _=>h
   have OZ:=qE (fun b=>b<w21.heap.size) _ _ P0 (xT++flT sT) w21 wd ht hv21 Lf (fun _ h=>h) EY.out HPN0.out N2 PK.bounds PK.ok;rw [Nn.out.1,Nn.out.2.1,Nn.out.2.2.1,Nn.out.2.2.2] at OZ;have HLY:=ab OZ;have HF21:=ab (HF20.out.below b21);replace BW:=ab (BW.out.trans (b21.mono BW.out.size));clear hK MU Lf hlv PK N2 hv21 OZ Nj b21 HF20 HV20
   go_wp2_with fail
   refine HLY.out.mono ?_;rintro e w22 ⟨v22,rfl,M7,b22⟩;obtain ⟨Yz,_,NS⟩:=(HF21.out.below b22).2.pen;rw [vR,show ∀ q:Pn,bP wd q []=q from fun _=>rfl] at NS;obtain ⟨lo22,lc22,e22⟩:=M7.len;have HAZ:=ab (nu _ _ _ _ _ _ _ _ _ _ _ _ _ _ NS.any M7);replace BW:=ab (BW.out.trans (b22.mono BW.out.size));obtain ⟨PZ2,hPZ⟩:=ae (bP wd P0 (bJ (xT++flT sT)));rw [<-hPZ] at HAZ e22 ⊢;obtain ⟨n22,hn22⟩:=ae (PZ2.L.length);rw [<-hn22] at e22;subst e22;clear NS M7 b22 hPZ hn22 HLY HF21
   go_wp2_with fail
   refine HAZ.out.mono ?_;rintro e w23 ⟨rfl,b23⟩;have BM:=ab (BW.out.trans (b23.mono BW.out.size));clear b23;go_wp2;go_ret;exact ⟨af,BM.out⟩
theorem walkG(W:World)(a b:Int)(bv av:Value)(bs at_:List Int)(hb:HeldE (aF .u8) (fun x=>x<W.heap.size) W bv bs)(ha:HeldE (aF .i64) (fun x=>x<W.heap.size) W av at_)(h:400<bs.length\/100<at_.length):Calls Tryz.prog 6 #[.agg #[.int .i64 a,.int .i64 b],bv,av] W (Yes W):=by
 obtain ⟨bo,bc,rfl⟩:=hb.len;obtain ⟨ao,ac,rfl⟩:=ha.len;obtain ⟨nb,Ej⟩:=ae (bs.length);obtain ⟨na,Mk⟩:=ae (at_.length);rw [<-Ej,<-Mk] at h;rw [<-Ej,<-Mk];clear hb ha Ej Mk;obtain ⟨W1,hW1⟩:=ae (W.alloc (.cells #[Value.int .i64 a,Value.int .i64 b] 75));have hb1:Below W.heap.size W W1:=by rw [hW1];exact AU _ _
 have K7:=hW1.symm;have BW:=ab hb1;clear hW1 hb1
 by_cases h4:400<nb
 ·have d4:decide ((400:Int)<nb)=true:=ah (by omega);clear h
  go_enter Tryz.func6,Tryz.ntmps6
  go_upto_region 1 with (fail)
  clear K7
  go_wp2_with fail
  refine (et _).mono ?_;rintro e w1 ⟨rfl,b1⟩
  go_wp2_with fail
  refine (et _).mono ?_;rintro e w2 ⟨rfl,b2⟩;have B:=ab (BW.out.trans ((b1.trans (b2.mono b1.size)).mono BW.out.size));clear b1 b2;go_wp2;go_ret;exact ⟨af,B.out⟩
 ·have d4:decide ((400:Int)<nb)=false:=ai (by omega);have d1:decide ((100:Int)<na)=true:=ah (by omega);clear h
  go_enter Tryz.func6,Tryz.ntmps6
  go_upto_region 1 with (fail)
  clear K7
  go_wp2_with fail
  refine (et _).mono ?_;rintro e w1 ⟨rfl,b1⟩
  go_wp2_with fail
  refine (et _).mono ?_;rintro e w2 ⟨rfl,b2⟩;have B:=ab (BW.out.trans ((b1.trans (b2.mono b1.size)).mono BW.out.size));clear b1 b2;go_wp2;go_ret;exact ⟨af,B.out⟩
theorem walk{H:Type}{enc:TypeId × Value->H}(W:World)(s:Value){bs0:Nat}{d0:DataW H}{p0:List MemPlace}(hs:Value.okWide Tryz.prog W .any bs0 75 s)(h0:DataW.Trod enc Tryz.prog W 0 (fun _=>true) true 75 s d0 p0)
  (v:Value) {bs1:Nat} {d1:DataW H} {p1:List MemPlace} (hv:Value.okWide Tryz.prog W .any bs1 55 v) (h1:DataW.Trod enc Tryz.prog W 0 (fun _=>true) true 55 v d1 p1)
  (u:Value) {bs2:Nat} {d2:DataW H} {p2:List MemPlace} (hu:Value.okWide Tryz.prog W .any bs2 76 u) (h2:DataW.Trod enc Tryz.prog W 0 (fun _=>true) true 76 u d2 p2) (_:laidMetH Tryz.prog Rows.feedCutsRow.laid W):Calls Tryz.prog 6 #[s,v,u] W (Yes W):=by
 obtain ⟨cs,⟨a,b⟩,rfl,⟨C1,C2,hC,rfl,rfl⟩,_⟩:=oM (E:=prE (aF .i64) (aF .i64)) Tryz.underlying75 (rE Tryz.underlying75 (by kernel_rfl) rfl rfl (iq (k:=.i64) Tryz.underlying3 (by kernel_rfl)) (iq (k:=.i64) Tryz.underlying3 (by kernel_rfl))) hs h0;obtain rfl:cs=#[.int .i64 a,.int .i64 b]:=by
  apply Array.toList_inj.1
  rw [hC];rfl
 obtain ⟨bs,hb,Dc⟩:=mX (E:=aF .u8) Tryz.underlying55 (by kernel_rfl) (by decide) (iq (k:=.u8) Tryz.underlying5 (by kernel_rfl)) hv h1;obtain ⟨at_,ha,_⟩:=mX (E:=aF .i64) Tryz.underlying76 (by kernel_rfl) (by decide) (iq (k:=.i64) Tryz.underlying3 (by kernel_rfl)) hu h2
 by_cases hl:400<bs.length\/100<at_.length
 ·exact walkG W a b v u bs at_ hb ha hl
 ·refine walkN W a b v u bs at_ hb ha (fun i hi=>?_) (by omega) (by omega);have hm:bs.getD i 0 ∈ bs:=by rw [List.getD,List.getElem?_eq_getElem hi];exact List.getElem_mem hi
  have:=bounds_u8 (Dc _ hm);omega
theorem door_met(os:Os):laidMetH Tryz.prog Rows.feedCutsRow.laid ((World.doorLaid Tryz.prog 400 os).forCall (fun _ _=>0) ⟨#[],#[.agg #[.int .i64 0,.int .i64 0],.slice none 0 0,.slice none 0 0],[]⟩).memory :=
 laidMetH_of_parts3 (fuel:=8) (laidMet_of_run' 8 (by kernel_rfl) (by kernel_rfl)) (by kernel_rfl) (by kernel_rfl)
theorem lifted(os:Os)(started:os.Started)(H:Type)(enc:TypeId × Value->H) :
  ReturnsInHanded {} Tryz.checked os 6 .any (fun w args=>(Rows.feedCutsSpec.pre enc Tryz.prog Tryz.f6 [] false w args/\laidMetH Tryz.prog Rows.feedCutsRow.laid w)/\sizedMet enc Tryz.prog Tryz.f6 (OpenSpec.ofChange Rows.feedCutsSpec) false w args)
   (Rows.feedCutsSpec.post enc Tryz.prog Tryz.f6 false true false false):=by
 refine uf (C:=Tryz.checked) (tb:=4) (by kernel_rfl) started (by kernel_rfl) Tryz.func6 (by kernel_rfl) (by kernel_rfl) Tryz.underlying4 rfl
  (by rw [Tryz.params6];intro t ht;simp at ht;rcases ht with rfl | rfl | rfl <;> exact ⟨by kernel_rfl,of_decide_eq_true (by kernel_rfl)⟩)
  (by rw [Tryz.params6];intro ds hd;match ds,hd with | [_,_,_],_=>rfl)
  (ChangeSpec.witness_shaped (enc:=enc) (C:=Tryz.checked) (os:=os) (X:=fun w _=>laidMetH Tryz.prog Rows.feedCutsRow.laid w) false (World.doorLaid Tryz.prog 400 os) #[.agg #[.int .i64 0,.int .i64 0],.slice none 0 0,.slice none 0 0] 8 rfl (World.shaped_of_RefB (by kernel_rfl) (by kernel_rfl)) (by kernel_rfl) (by kernel_rfl) (by kernel_rfl) (door_met os)) ?_
 intro W base args ds before hval hA hsz hL;rw [Tryz.params6] at hA hval;obtain ⟨v0,vs0,d0,ds0,p0,q0,hargs,rfl,rfl,h0,r0⟩:=trodAll_cons hA;obtain ⟨v1,vs1,d1,ds1,p1,q1,rfl,rfl,rfl,h1,r1⟩:=trodAll_cons r0;obtain ⟨v2,vs2,d2,ds2,p2,q2,rfl,rfl,rfl,h2,r2⟩:=trodAll_cons r1;obtain ⟨rfl,rfl,rfl⟩:=trodAll_nil r2;obtain rfl:args=#[v0,v1,v2]:=by cases args;simp_all
 exact walk W v0 (hval 0 75 v0 rfl rfl) h0 v1 (hval 1 55 v1 rfl rfl) h1 v2 (hval 2 76 v2 rfl rfl) h2 hL
theorem and_two{a b:Bool}(ha:a=true)(hb:b=true):(a && b)=true:=by rw [ha,hb];rfl
theorem joined:joinedFacts Tryz.pinned.checked.prog 6 Tryz.f6 Rows.feedCutsSpec Rows.feedCutsRow=true:=by
 unfold joinedFacts
 repeat' (with_reducible refine and_two ?_ ?_)
 all_goals (as_aux_lemma=>kernel_rfl)
theorem said:Rows.FeedCutsSaid :=
 OpenClaim.holds_of_wide 6 Tryz.f6 rfl rfl rfl rfl rfl rfl rfl ⟨rfl,rfl,rfl,rfl,rfl⟩ rfl rfl rfl rfl rfl (by kernel_rfl) Tryz.func6 joined
  (of_decide_eq_true (by kernel_rfl)) (by unfold Func.isWrapper;first | (rw [if_pos (by decide +kernel)];kernel_rfl) | (rw [if_neg (by decide +kernel)];exact ⟨rfl,rfl⟩))
  (fun os started H enc _=>lifted os started H enc)
theorem plain (f : FuncId) (fn : Func) (hf : Tryz.pinned.checked.prog.funcNamed "linotype/linotypelaw37.FeedCuts" = some f) (hfn : Tryz.pinned.checked.prog.funcs[f]? = some fn) :
  true=Tryz.pinned.checked.prog.looks []/\∀ (j:Nat) t,fn.params[j]? = some t->Tryz.pinned.checked.prog.wantsStandIn t=false:=by
 obtain rfl : f = 6 := Option.some.inj ((show Tryz.prog.funcNamed "linotype/linotypelaw37.FeedCuts" = some 6 by kernel_rfl).symm.trans hf) |>.symm
 obtain rfl:fn=Tryz.f6:=(Option.some.inj (Tryz.func6.symm.trans hfn)).symm;refine ⟨by kernel_rfl,fun j t ht=>?_⟩;rw [Tryz.params6] at ht;have hm:t ∈ [75,55,76]:=by simpa using Array.mem_of_getElem? ht
 have hall:([75,55,76].all fun u=>!Tryz.prog.wantsStandIn u)=true:=by kernel_rfl
 exact (show Tryz.prog.wantsStandIn t=false by simpa using List.all_eq_true.1 hall t hm)
theorem card:Rows.FeedCutsCardSaid :=
 Claim7.holds_tied_plain_at .later [] _ _ _ _ said (fun _ h=>by cases h) (by kernel_rfl) (fun _ h=>by cases h) feedCuts_row_tie rfl ⟨rfl,rfl⟩ (by kernel_rfl) rfl plain (by kernel_rfl)
#print axioms card
end Go.Proofs.YtoeggiplcaegoaaGreatDoor.lawFeedCuts
