import Derived.Test.YtoeggiplcaegoaaGreatDoorZ0
import Derived.Test.YtoeggiplcaegoaaGreatDoorPlcX
import Derived.Test.YtoeggiplcaegoaaGreatDoorPlcF
import Derived.Test.YtoeggiplcaegoaaGreatDoorMg7
import Derived.Test.YtoeggiplcaegoaaGreatDoorWidA
import Derived.Test.YtoeggiplcaegoaaGreatDoorMg1
import Derived.Test.YtoeggiplcaegoaaGreatDoorMg4
import Derived.Test.YtoeggiplcaegoaaGreatDoorCellP
import Derived.Lib.MinMax
import Derived.Test.YtoeggiplcaegoaaGreatDoorMg8
import Derived.Test.YtoeggiplcaegoaaGreatDoorFedB
import Derived.StillTailTactics
set_option maxRecDepth 100000
set_option linter.unusedVariables false
set_option linter.unusedSimpArgs false
set_option maxHeartbeats 6000000
namespace Go.Proofs.YtoeggiplcaegoaaGreatDoor
open Go.RowKit Go.ChangeShapes Go.WideShapes
theorem uW(a b:Nat)(ha:a<=1024)(hb:b<=1024)(w:World):Calls Tryz.prog 32 #[.int .i64 a,.int .i64 b] w (fun e w'=>∃ v,e=.returned (.agg #[v,.int .i64 0,.int .i64 0,.bool false,.bool true])/\HeldE lineE (fun x=>w.heap.size+1<=x) w' v (List.replicate b (List.replicate a zc,false))/\Below w.heap.size w w'):=by
 have CY:=AU w (.cells [Value.slice none 0 0,.int .i64 0,.int .i64 0,.bool false,.bool false].toArray 43);have Kg:=Has.new w [Value.slice none 0 0,.int .i64 0,.int .i64 0,.bool false,.bool false] 43;obtain ⟨W,hW⟩:=ae (w.alloc (.cells [Value.slice none 0 0,.int .i64 0,.int .i64 0,.bool false,.bool false].toArray 43));rw [<-hW] at CY Kg;have hs:W.heap.size=w.heap.size+1:=by rw [hW];simp
 have Kd:W=w.alloc (.cells #[Value.slice none 0 0,.int .i64 0,.int .i64 0,.bool false,.bool false] 43):=hW;have HB:=ab CY;have HN:=ab Kg;have HS:=ab hs;clear CY Kg hW hs
 go_enter Tryz.func32,Tryz.ntmps32
 go_upto_region 1 with (fail)
 rw [<-Kd];clear Kd
 go_wp2_with fail
 refine (zw a b ha hb W).mono ?_;rintro e w1 ⟨v1,rfl,BX,b1⟩;have hh:=((BX.held (fun _ hx _=>hx)).zone (Y:=fun x=>w.heap.size+1<=x) (fun x _ hx=>by have:=HS.out;omega));obtain ⟨o1,c1,ev⟩:=hh.len;subst ev;obtain ⟨n1,hn1e⟩:=ae ((List.replicate b ((List.replicate a zc,false):Ln)).length);rw [<-hn1e] at hh ⊢;have Eg:=HN.out.below b1 HN.out.lt;have E0:=HB.out.trans (b1.mono HB.out.size);have k0:=Eg.cell 0 _ rfl;have k1:=Eg.cell 1 _ rfl;have k2:=Eg.cell 2 _ rfl;have k3:=Eg.cell 3 _ rfl;have k4:=Eg.cell 4 _ rfl;have g0:=Eg.free 0;have g1:=Eg.free 1;have g2:=Eg.free 2;have g3:=Eg.free 3;have g4:=Eg.free 4;have hlt:=Eg.lt;have hbl:=iC (g:=w.heap.size) E0 (Nat.le_refl _) (.slice o1 n1 c1) (.int .i64 0) (.int .i64 0) (.bool false) (.bool true);have E2:=hh.upd (aR w.heap.size (.slice o1 n1 c1) (.int .i64 0) (.int .i64 0) (.bool false) (.bool true)) (fun x hx e=>by omega);have HF:=ab (And.intro E2 hbl);clear hbl E2 hh BX Eg E0 b1 hn1e;go_wp2;exact bodyPost_ret (v:=.agg #[.slice o1 n1 c1,.int .i64 0,.int .i64 0,.bool false,.bool true]) (by simp [results,Tryz.results32,go_sem,k0,k1,k2,k3,k4]) rfl ⟨_,rfl,HF.out.1,HF.out.2⟩
theorem yd(r c:Int)(p:Bool)(w:World):(binOp .eql 24 (.agg #[.int .i64 r,.int .i64 c,.bool p]) (.agg #[.int .i64 r,.int .i64 c,.bool p])).run Tryz.prog w=.ok (.bool true) w:=by
 rw [zt]
 simp [ya]
theorem nu(B gp gg gr wd:Nat)(R1:List Rw)(Ls:List Ln)(r c:Int)(pd au:Bool)(Z:an)(v:Value)(w:World)(h:fX w B gp gg gr wd R1 Ls r c pd au)(hv:HeldE lineE Z w v Ls):Calls Tryz.prog 18 #[.pointer (some ⟨gp,0,none⟩),.agg #[v,.int .i64 r,.int .i64 c,.bool pd,.bool au]] w (Gives w (.bool true)):=by
 obtain ⟨o,k,rfl⟩:=hv.len;obtain ⟨n,hn⟩:=ae (Ls.length);rw [<-hn] at hv ⊢;have CY:=AU w (.cells [Value.slice o n k,.int .i64 r,.int .i64 c,.bool pd,.bool au].toArray 43);have Kg:=Has.new w [Value.slice o n k,.int .i64 r,.int .i64 c,.bool pd,.bool au] 43;obtain ⟨W,hW⟩:=ae (w.alloc (.cells [Value.slice o n k,.int .i64 r,.int .i64 c,.bool pd,.bool au].toArray 43));rw [<-hW] at CY Kg;have Kd:W=w.alloc (.cells #[Value.slice o n k,.int .i64 r,.int .i64 c,.bool pd,.bool au] 43):=hW;have HB:=ab CY;have HN:=ab Kg;have H:=ab (h.below CY);have HV:=ab (hv.below CY);have BN:=ab (show ∀ (x:Value) (w':World),HeldE lineE (fun _=>True) w' x Ls->Below W.heap.size W w'->Calls Tryz.prog 78 #[x,.slice o n k] w' (Gives w' (.bool true)) from fun x w' hx hb=>by
  have h:=rV _ _ x (.slice o n k) Ls Ls w' hx (HV.out.below hb)
  rwa [rU] at h)
 clear h hv CY Kg hW hn
 go_enter Tryz.func18,Tryz.ntmps18
 go_upto_region 1 with (fail)
 rw [<-Kd];clear Kd;obtain ⟨AZ,A6⟩ : ∃ CC:Array Bool->World->Prop,CC=fun L8 w'=>Below W.heap.size W w':=⟨_,rfl⟩
 obtain ⟨BA,Bh,Bm,Bl⟩:=Reg.xB;obtain ⟨Bw,Bn,A2,A3,A4,A5,Bc,A9,Ba,A1,A7,Be,A0,Bg,Bk,Bj,Bq,Bo,Bs,CE,Cz,CD,D7,Id,IC,IA,Ic,Ig,IH,_,_,_,_,_⟩:=Reg.e32 BA
  (fun xx _=>xx=.pointer (some ⟨gp,0,none⟩))
  (fun xx _=>xx=.pointer (some ⟨gp,0,none⟩))
  (fun xx _=>xx=.pointer (some ⟨gp,1,none⟩))
  (fun xx _=>xx=.agg #[.int .i64 r,.int .i64 c,.bool pd])
  (fun xx _=>xx=.pointer (some ⟨w.heap.size,1,none⟩))
  (fun xx _=>xx=.agg #[.int .i64 r,.int .i64 c,.bool pd])
  (fun xx _=>xx=.bool true)
  (fun xx _=>xx=.bool true)
  (fun xx _=>xx=.pointer (some ⟨gp,0,none⟩))
  (fun xx _=>xx=.pointer (some ⟨gp,0,none⟩))
  (fun xx _=>xx=.pointer (some ⟨gp,4,none⟩))
  (fun xx _=>xx=.bool au)
  (fun xx _=>xx=.pointer (some ⟨w.heap.size,4,none⟩))
  (fun xx _=>xx=.bool au)
  (fun xx _=>xx=.bool true)
  (fun xx _=>xx=.bool true)
  (fun xx _=>xx=.bool true)
  (fun xx _=>xx=.pointer (some ⟨gp,0,none⟩))
  (fun xx _=>xx=.pointer (some ⟨gp,0,none⟩))
  (fun xx _=>xx=.pointer (some ⟨gp,0,none⟩))
  (fun xx _=>xx=.pointer (some ⟨gg,0,none⟩))
  (fun x w'=>HeldE lineE (fun _=>True) w' x Ls)
  (fun xx _=>xx=.pointer (some ⟨w.heap.size,0,none⟩))
  (fun xx _=>xx=.slice o n k)
  (fun xx _=>xx=.bool true)
  (fun xx _=>xx=.bool true)
  (fun xx _=>xx=.bool true)
  (fun _ _=>True) (fun _ _=>True) (fun _ _=>True) (fun _ _=>True) (fun _ _=>True)
  (s21:=fun x w w1 hx h=>by rw [Bh] at hx;exact HeldE.below h hx)
 have Bd:Hid (∀ i L w, AZ L w->AZ (L.setIfInBounds i true) w):=ab (by
  intro i L w h;rw [A6] at h ⊢;exact h)
 have Bv:Hid (∀ L w w1,AZ L w->Below w.heap.size w w1->AZ L w1):=ab (by
  intro L w w1 h hb;rw [A6] at h ⊢;exact h.trans (hb.mono h.size))
 have By:=ab (show AZ (Array.replicate 27 false) W.drew from by rw [A6];exact (Below.refl _ _).drew);have AX:=ab (fun (i:Nat) L w v (h:AZ L w) (e:Bw i v w)=>Reg.hk (Bd.out i L w h) e (Bm.out w));have AW:=ab A6;have Bi:=ab Bh;clear A6 Bh
 go_wp2_with fail
 refine Reg.regionF Bw AZ BA Bn.out (by kernel_rfl) (by kernel_rfl) (by kernel_rfl) By.out (fun GC AV=>?_);simp only [Reg.frame,Reg.dsts,List.map_cons,List.map_nil,Mix.put_lit,List.set_cons_succ,List.set_cons_zero,Nat.zero_add,Nat.reduceAdd] at AV;refine ⟨⟨?_,?_,?_,?_,?_,?_,?_,?_,?_,?_,?_,?_,?_,?_,?_,?_,?_,?_,?_,?_,?_,?_,?_,?_,?_,?_,?_,trivial⟩,?_⟩
 ·intro Lq wq xq hh;simp only [AV];refine Reg.go rfl ?_;have HK:=AX.out 0 _ _ _ hh.cls ((A2.out _ _).mpr rfl);go_simp;exact HK.out
 ·intro Lq wq xq hh;simp only [AV,(A2.out _ _).mp (hh.v 0)];refine Reg.go rfl ?_;have HK:=AX.out 1 _ _ _ hh.cls ((A3.out _ _).mpr rfl);go_simp;exact HK.out
 ·intro Lq wq xq hh;simp only [AV,(A3.out _ _).mp (hh.v 1)];refine Reg.go rfl ?_;have HK:=AX.out 2 _ _ _ hh.cls ((A4.out _ _).mpr rfl);go_simp;exact HK.out
 ·intro Lq wq xq hh;simp only [AV,(A4.out _ _).mp (hh.v 2)];refine Reg.go rfl ?_;have hc:AZ Lq wq:=hh.cls;rw [AW.out] at hc;have hp:=H.out.below hc;have y1:=hp.1.cell 1 _ rfl;have y2:=hp.1.cell 2 _ rfl;have y3:=hp.1.cell 3 _ rfl;clear hc;have HK:=AX.out 3 _ _ _ hh.cls ((A5.out _ _).mpr rfl);go_simp;exact HK.out
 ·intro Lq wq xq hh;simp only [AV];refine Reg.go rfl ?_;have HK:=AX.out 4 _ _ _ hh.cls ((Bc.out _ _).mpr rfl);go_simp;exact HK.out
 ·intro Lq wq xq hh;simp only [AV,(Bc.out _ _).mp (hh.v 4)];refine Reg.go rfl ?_;have hc:AZ Lq wq:=hh.cls;rw [AW.out] at hc;have IQ:=HN.out.below hc HN.out.lt;have y1:=IQ.cell 1 _ rfl;have y2:=IQ.cell 2 _ rfl;have y3:=IQ.cell 3 _ rfl;clear hc;have HK:=AX.out 5 _ _ _ hh.cls ((A9.out _ _).mpr rfl);go_simp;exact HK.out
 ·intro Lq wq xq hh;simp only [AV,(A5.out _ _).mp (hh.v 3),(A9.out _ _).mp (hh.v 5)];refine Reg.go rfl ?_;have hc:AZ Lq wq:=hh.cls;rw [AW.out] at hc;have q1:=yd r c pd;clear hc;have HK:=AX.out 6 _ _ _ hh.cls ((Ba.out _ _).mpr rfl);go_simp;exact HK.out
 ·intro Lq wq xq hh;simp only [AV,(Ba.out _ _).mp (hh.v 6)];refine Reg.go rfl ?_;have HK:=AX.out 7 _ _ _ hh.cls ((A1.out _ _).mpr rfl);go_simp;exact HK.out
 ·intro Lq wq xq hh;simp only [AV,(A1.out _ _).mp (hh.v 7)];refine Reg.go rfl ?_;have HK:=AX.out 8 _ _ _ hh.cls ((A7.out _ _).mpr rfl);go_simp;exact HK.out
 ·intro Lq wq xq hh;simp only [AV,(A1.out _ _).mp (hh.v 7),(A7.out _ _).mp (hh.v 8)];refine Reg.go rfl ?_;have HK:=AX.out 9 _ _ _ hh.cls ((Be.out _ _).mpr rfl);go_simp;exact HK.out
 ·intro Lq wq xq hh;simp only [AV,(A1.out _ _).mp (hh.v 7),(Be.out _ _).mp (hh.v 9)];refine Reg.go rfl ?_;have HK:=AX.out 10 _ _ _ hh.cls ((A0.out _ _).mpr rfl);go_simp;exact HK.out
 ·intro Lq wq xq hh;simp only [AV,(A1.out _ _).mp (hh.v 7),(A0.out _ _).mp (hh.v 10)];refine Reg.go rfl ?_;have hc:AZ Lq wq:=hh.cls;rw [AW.out] at hc;have hp:=H.out.below hc;have y4:=hp.1.cell 4 _ rfl;clear hc;have HK:=AX.out 11 _ _ _ hh.cls ((Bg.out _ _).mpr rfl);go_simp;exact HK.out
 ·intro Lq wq xq hh;simp only [AV,(A1.out _ _).mp (hh.v 7)];refine Reg.go rfl ?_;have HK:=AX.out 12 _ _ _ hh.cls ((Bk.out _ _).mpr rfl);go_simp;exact HK.out
 ·intro Lq wq xq hh;simp only [AV,(A1.out _ _).mp (hh.v 7),(Bk.out _ _).mp (hh.v 12)];refine Reg.go rfl ?_;have hc:AZ Lq wq:=hh.cls;rw [AW.out] at hc;have IQ:=HN.out.below hc HN.out.lt;have y4:=IQ.cell 4 _ rfl;clear hc;have HK:=AX.out 13 _ _ _ hh.cls ((Bj.out _ _).mpr rfl);go_simp;exact HK.out
 ·intro Lq wq xq hh;simp only [AV,(A1.out _ _).mp (hh.v 7),(Bg.out _ _).mp (hh.v 11),(Bj.out _ _).mp (hh.v 13)];refine Reg.go rfl ?_;have HK:=AX.out 14 _ _ _ hh.cls ((Bq.out _ _).mpr rfl);go_simp;exact HK.out
 ·intro Lq wq xq hh;simp only [AV,(A1.out _ _).mp (hh.v 7),(Bq.out _ _).mp (hh.v 14)];refine Reg.go rfl ?_;have HK:=AX.out 15 _ _ _ hh.cls ((Bo.out _ _).mpr rfl);go_simp;exact HK.out
 ·intro Lq wq xq hh;simp only [AV,(Bo.out _ _).mp (hh.v 15)];refine Reg.go rfl ?_;have HK:=AX.out 16 _ _ _ hh.cls ((Bs.out _ _).mpr rfl);go_simp;exact HK.out
 ·intro Lq wq xq hh;simp only [AV,(Bs.out _ _).mp (hh.v 16)];refine Reg.go rfl ?_;have HK:=AX.out 17 _ _ _ hh.cls ((CE.out _ _).mpr rfl);go_simp;exact HK.out
 ·intro Lq wq xq hh;simp only [AV,(Bs.out _ _).mp (hh.v 16),(CE.out _ _).mp (hh.v 17)];refine Reg.go rfl ?_;have HK:=AX.out 18 _ _ _ hh.cls ((Cz.out _ _).mpr rfl);go_simp;exact HK.out
 ·intro Lq wq xq hh;simp only [AV,(Bs.out _ _).mp (hh.v 16),(Cz.out _ _).mp (hh.v 18)];refine Reg.go rfl ?_;have HK:=AX.out 19 _ _ _ hh.cls ((CD.out _ _).mpr rfl);go_simp;exact HK.out
 ·intro Lq wq xq hh;simp only [AV,(Bs.out _ _).mp (hh.v 16),(CD.out _ _).mp (hh.v 19)];refine Reg.go rfl ?_;have hc:AZ Lq wq:=hh.cls;rw [AW.out] at hc;have hp:=H.out.below hc;have y0:=hp.1.cell 0 _ rfl;clear hc;have HK:=AX.out 20 _ _ _ hh.cls ((D7.out _ _).mpr rfl);go_simp;exact HK.out
 ·intro Lq wq xq hh;simp only [AV,(Bs.out _ _).mp (hh.v 16),(D7.out _ _).mp (hh.v 20)];refine Reg.go rfl ?_;unfold Reg.upon;have hc:AZ Lq wq:=hh.cls;rw [AW.out] at hc;go_simp;refine (lW B gg gr wd R1 wq (H.out.below hc).2.2.1).mono ?_;rintro e w2 ⟨v2,rfl,BE,hb2⟩;refine ⟨_,rfl,Bd.out 21 Lq w2 (Bv.out Lq wq w2 hh.cls hb2),?_,Bl.out wq w2 hb2⟩;rw [Id.out];have hm:=(BE.held (fun b hb _=>hb)).zone (Y:=fun _=>True) (fun _ _ _=>trivial);rw [H.out.2.2.2] at hm;exact hm
 ·intro Lq wq xq hh;simp only [AV,(Bs.out _ _).mp (hh.v 16)];refine Reg.go rfl ?_;have HK:=AX.out 22 _ _ _ hh.cls ((IC.out _ _).mpr rfl);go_simp;exact HK.out
 ·intro Lq wq xq hh;simp only [AV,(Bs.out _ _).mp (hh.v 16),(IC.out _ _).mp (hh.v 22)];refine Reg.go rfl ?_;have hc:AZ Lq wq:=hh.cls;rw [AW.out] at hc;have IQ:=HN.out.below hc HN.out.lt;have y0:=IQ.cell 0 _ rfl;clear hc;have HK:=AX.out 23 _ _ _ hh.cls ((IA.out _ _).mpr rfl);go_simp;exact HK.out
 ·intro Lq wq xq hh;have d21:=(Id.out _ _).mp (hh.v 21);simp only [AV,(Bs.out _ _).mp (hh.v 16),(IA.out _ _).mp (hh.v 23)];refine Reg.go rfl ?_;unfold Reg.upon;have hc:AZ Lq wq:=hh.cls;rw [AW.out] at hc;go_simp;refine (BN.out _ wq d21 hc).mono ?_;rintro e w2 ⟨rfl,hb2⟩;exact ⟨_,rfl,Bd.out 24 Lq w2 (Bv.out Lq wq w2 hh.cls hb2),(by rw [Ic.out]),Bl.out wq w2 hb2⟩
 ·intro Lq wq xq hh;simp only [AV,(Bs.out _ _).mp (hh.v 16),(Ic.out _ _).mp (hh.v 24)];refine Reg.go rfl ?_;have HK:=AX.out 25 _ _ _ hh.cls ((Ig.out _ _).mpr rfl);go_simp;exact HK.out
 ·intro Lq wq xq hh;simp only [AV,(Ig.out _ _).mp (hh.v 25)];refine Reg.go rfl ?_;have HK:=AX.out 26 _ _ _ hh.cls ((IH.out _ _).mpr rfl);go_simp;exact HK.out
 intro xq DY Bp BD;rw [AW.out] at Bp;simp only [AV];have vrg26:=(IH.out _ _).mp (BD 26 (by decide));rw [vrg26];clear BD AV AX Bd Bm Bn By AW Bi Bv Bl A2 A3 A4 A5 Bc A9 Ba A1 A7 Be A0 Bg Bk Bj Bq Bo Bs CE Cz CD D7 Id IC IA Ic Ig IH;have HF:=ab (HB.out.trans (Bp.mono HB.out.size));clear Bp vrg26;go_wp2;go_ret;exact ⟨af,HF.out⟩
theorem zR{w:World}{B gp gg gr wd:Nat}{R:List Rw}{Ls:List Ln}{r c:Int}{pd au:Bool}(h:fX w B gp gg gr wd R Ls r c pd au)(hB:B<=w.heap.size)(b:Nat)(hb:PZ w gp gr R b):B<=b:=by
 have hl:=h.2.2.1.lt
 rcases hb with e | e | ⟨i,hi,e⟩ | e
 ·subst e;exact h.2.1
 ·omega
 ·have:=hl.2.2.2.2.2 i hi;rcases e with e | e <;> omega
 ·omega
section
section
variable {w w1 w2 : World} {B gp gg gr wd g : Nat} {R R1 R2 : List Rw} {Ls L2 : List Ln} {r c r2 c2 : Int} {pd au pd2 au2 : Bool}
theorem oV(h:fX w1 B gp gg gr wd R1 Ls r c pd au){C:List Value}{t:TypeId}(hg:Has w1 g C t)(t0:t≠42)(t1:t≠119)(t2:t≠113)(t3:t≠187)(t4:t≠147):¬ PZ w1 gp gr R1 g:=fun e=>by
 have ho:=h.2.2.1.other hg t1 t2 t3 t4;have hl:=hg.lt
 rcases e with e | e | ⟨i,hi,e⟩ | e
 ·subst e;exact aH hg h.1 t0
 ·exact ho.2.1 e
 ·rcases e with e | e
  ·exact (ho.2.2 i hi).1 e
  ·exact (ho.2.2 i hi).2 e
 ·omega
theorem PenY.beside(h:fX w1 B gp gg gr wd R1 Ls r c pd au){C:List Value}{t:TypeId}(hg:Has w1 g C t)(t0:t≠42)(t1:t≠119)(t2:t≠113)(t3:t≠187)(t4:t≠147)(hx:iS w1 g)(hu:Upd (fun b=>b=g) w1 w2):fX w2 B gp gg gr wd R1 Ls r c pd au :=
 ⟨hu.keep.has h.1 (fun e=>by subst e;exact aH hg h.1 t0),h.2.1,h.2.2.1.pen hx (h.2.2.1.other hg t1 t2 t3 t4) hu,h.2.2.2⟩
theorem sQ{o:Option Addr}{n k:Nat}(h:Has w g [.slice o n k,.int .i64 r,.int .i64 c,.bool pd,.bool au] 43):iS w g:=fun q x e=>by
 rw [cell_of_row w g q _ _ (0,0) h] at e
 match q with
 | 0=>simp at e
 | 1=>simp at e
 | 2=>simp at e
 | 3=>simp at e
 | 4=>simp at e
 | q+5=>simp at e
def AE(w:World)(g:Nat):Prop:=∀ o a n k,w.cell? ⟨g,o,none⟩≠some (.slice a n k)
theorem uU{Z:an}{w:World}{v:Value}{L:List Cl}{g:Nat}(h:HeldE cellE Z w v L)(hg:iS w g)(hs:AE w g):HeldE cellE (fun b=>Z b/\b≠g) w v L:=by
 obtain ⟨ao,cap,rfl,hl,hm,hn,hc⟩:=h;refine ⟨ao,cap,rfl,hl,hm,hn,fun i hi=>?_⟩;obtain ⟨b,off,rfl,hb,hz,C,hC,hr⟩:=hc i hi;obtain ⟨tv,rfl,ht⟩:=cell_rep.1 hr;refine ⟨b,off,rfl,hb,⟨hz,fun e=>?_⟩,_,hC,cell_rep.2 ⟨tv,rfl,p8 ht hg⟩⟩;subst e;obtain ⟨a,k,rfl⟩:=ht.len;exact hs _ _ _ _ (hC 1 (by decide))
theorem Ag{Z:an}{w:World}{v:Value}{L:List Ln}{g:Nat}(h:HeldE lineE Z w v L)(hg:iS w g)(hs:AE w g):HeldE lineE (fun b=>Z b/\b≠g) w v L:=by
 obtain ⟨ao,cap,rfl,hl,hm,hn,hc⟩:=h;refine ⟨ao,cap,rfl,hl,hm,hn,fun i hi=>?_⟩;obtain ⟨b,off,rfl,hb,hz,C,hC,hr⟩:=hc i hi;obtain ⟨cv,rfl,ht⟩:=line_rep.1 hr;refine ⟨b,off,rfl,hb,⟨hz,fun e=>?_⟩,_,hC,line_rep.2 ⟨cv,rfl,uU ht hg hs⟩⟩;subst e;obtain ⟨a,k,rfl⟩:=ht.len;exact hs _ _ _ _ (hC 0 (by decide))
theorem uV{Z:an}{w:World}{g:Nat}{a b:Int}{d:Bool}{v:Value}{Ls:List Ln}(h:HeldE lineE Z w v Ls)(hg:Has w g [.int .i64 a,.int .i64 b,.bool d] 24):HeldE lineE (fun x=>Z x/\x≠g) w v Ls:=by
 refine Ag h (lQ hg) fun o p n k e=>?_
 rw [cell_of_row w g o _ _ (0,0) hg] at e
 match o with
 | 0=>simp at e
 | 1=>simp at e
 | 2=>simp at e
 | o+3=>simp at e
def QAt(W:World)(B gp gg gr wd b8:Nat)(R:List Rw)(L2:List Ln)(r2 c2:Int)(pd2 au2:Bool)(Ls:List Ln)(r c:Int)(pd au:Bool)(o:Option Addr)(k:Nat)(wr:World):Prop :=
 fX wr B gp gg gr wd R L2 r2 c2 pd2 au2/\Has wr b8 [.slice o Ls.length k,.int .i64 r,.int .i64 c,.bool pd,.bool au] 43/\HeldE lineE (fun b=>¬ PZ wr gp gr R b/\b≠b8) wr (.slice o Ls.length k) Ls/\Below W.heap.size W wr
end
section
variable {W w1 w2 : World} {B gp gg gr wd b8 : Nat} {R : List Rw} {L2 L3 Ls : List Ln} {r2 c2 r3 c3 r c : Int} {pd2 au2 pd3 au3 pd au : Bool} {o : Option Addr} {k : Nat}
theorem QAt.box(h:QAt W B gp gg gr wd b8 R L2 r2 c2 pd2 au2 Ls r c pd au o k w1):¬ PZ w1 gp gr R b8:=oV h.1 h.2.1 (by decide) (by decide) (by decide) (by decide) (by decide)
theorem QAt.below(h:QAt W B gp gg gr wd b8 R L2 r2 c2 pd2 au2 Ls r c pd au o k w1)(hb:Below w1.heap.size w1 w2):QAt W B gp gg gr wd b8 R L2 r2 c2 pd2 au2 Ls r c pd au o k w2 :=
 ⟨h.1.below hb,h.2.1.below hb h.2.1.lt,(h.2.2.1.below hb).zone (fun b _ hz=>⟨fun e=>hz.1 (PZ.from (RowsFrom.self _ _) hb.size b e),hz.2⟩),h.2.2.2.trans (hb.mono h.2.2.2.size)⟩
theorem QAt.go(hW:W.heap.size<=B)(hB:B<=w1.heap.size)(h:QAt W B gp gg gr wd b8 R L2 r2 c2 pd2 au2 Ls r c pd au o k w1)(hd:PDo w1 B gp gg gr wd R L3 r3 c3 pd3 au3 w2):∃ R3,QAt W B gp gg gr wd b8 R3 L3 r3 c3 pd3 au3 Ls r c pd au o k w2:=by
 have LO:=h.box;obtain ⟨R3,k1,k2,k3⟩:=hd;refine ⟨R3,k1,k2.keep.has h.2.1 LO,(h.2.2.1.upd k2 (fun b hz=>hz.1)).zone (fun b _ hz=>⟨fun e=>hz.1 (PZ.from k3 k2.size b e),hz.2⟩),h.2.2.2.trans (k2.below h.2.2.2.size (fun b e=>Nat.le_trans hW (zR h.1 hB b e)))⟩
theorem zv(h:fX w1 B gp gg gr wd R L2 r2 c2 pd2 au2)(b:Nat)(h1:w1.heap.size<=b)(h2:b<w2.heap.size):¬ PZ w2 gp gr R b:=fun e=>by
 have hl:=h.lt;have hg:=h.2.2.1.lt
 rcases e with e | e | ⟨i,hi,e⟩ | e
 ·omega
 ·omega
 ·have:=hg.2.2.2.2.2 i hi;rcases e with e | e <;> omega
 ·omega
theorem QAt.put(LO:W.heap.size<=b8)(h:QAt W B gp gg gr wd b8 R L2 r2 c2 pd2 au2 Ls r c pd au o k w1){o':Option Addr}{k' n':Nat}(hb:Below w1.heap.size w1 w2)(hv:HeldE lineE (fun b=>((¬ PZ w1 gp gr R b/\b≠b8)/\b<w1.heap.size)\/(w1.heap.size<=b/\b<w2.heap.size)) w2 (.slice o' n' k') L3):QAt W B gp gg gr wd b8 R L2 r2 c2 pd2 au2 L3 r3 c3 pd3 au3 o' k' (((((w2.setCell ⟨b8,0,none⟩ (.slice o' n' k')).setCell ⟨b8,1,none⟩ (.int .i64 r3)).setCell ⟨b8,2,none⟩ (.int .i64 c3)).setCell ⟨b8,3,none⟩ (.bool pd3)).setCell ⟨b8,4,none⟩ (.bool au3)):=by
 have hq:=h.below hb;obtain ⟨o9,k9,e9⟩:=hv.len;simp only [Value.slice.injEq] at e9;obtain ⟨rfl,rfl,rfl⟩:=e9;have hu:=aR (W:=w2) b8 (.slice o' L3.length k') (.int .i64 r3) (.int .i64 c3) (.bool pd3) (.bool au3);have hlt:=h.2.1.lt;have hz:∀ b,b<w2.heap.size->(((¬ PZ w1 gp gr R b/\b≠b8)/\b<w1.heap.size)\/(w1.heap.size<=b/\b<w2.heap.size))->(¬ PZ w2 gp gr R b/\b≠b8):=fun b _ hz=>by
  rcases hz with hz | hz
  ·exact ⟨fun e=>hz.1.1 (PZ.from (RowsFrom.self _ _) hb.size b e),hz.1.2⟩
  ·exact ⟨zv h.1 b hz.1 hz.2,by omega⟩
 have hp:=hq.1.beside hq.2.1 (by decide) (by decide) (by decide) (by decide) (by decide) (sQ hq.2.1) hu;refine ⟨hp,cJ hq.2.1 _ _ _ _ _,((hv.zone hz).upd hu (fun b hz=>hz.2)).zone (fun b hlt' hz=>⟨fun e=>hz.1 ?_,hz.2⟩),hq.2.2.2.trans (hu.below hq.2.2.2.size (fun b e=>by omega))⟩
 rcases e with e | e | e | e
 ·exact .inl e
 ·exact .inr (.inl e)
 ·exact .inr (.inr (.inl e))
 ·exact .inr (.inr (.inr (by have:=hu.size;omega)))
theorem QAt.cur(LO:W.heap.size<=b8)(h:QAt W B gp gg gr wd b8 R L2 r2 c2 pd2 au2 Ls r c pd au o k w1)(r3 c3:Int)(pd3:Bool):QAt W B gp gg gr wd b8 R L2 r2 c2 pd2 au2 Ls r3 c3 pd3 au o k (((w1.setCell ⟨b8,1,none⟩ (.int .i64 r3)).setCell ⟨b8,2,none⟩ (.int .i64 c3)).setCell ⟨b8,3,none⟩ (.bool pd3)):=by
 have hu:Upd (fun b=>b=b8) w1 (((w1.setCell ⟨b8,1,none⟩ (.int .i64 r3)).setCell ⟨b8,2,none⟩ (.int .i64 c3)).setCell ⟨b8,3,none⟩ (.bool pd3)):=(((Upd.refl (fun b=>b=b8) w1).setCell (p:=⟨b8,1,none⟩) (.inl rfl) _).setCell (p:=⟨b8,2,none⟩) (.inl rfl) _).setCell (p:=⟨b8,3,none⟩) (.inl rfl) _;have hp:=h.1.beside h.2.1 (by decide) (by decide) (by decide) (by decide) (by decide) (sQ h.2.1) hu;refine ⟨hp,((h.2.1.set 1 _).set 2 _).set 3 _,(h.2.2.1.upd hu (fun b hz=>hz.2)).zone (fun b hlt' hz=>⟨fun e=>hz.1 ?_,hz.2⟩),h.2.2.2.trans (hu.below h.2.2.2.size (fun b e=>by omega))⟩
 rcases e with e | e | e | e
 ·exact .inl e
 ·exact .inr (.inl e)
 ·exact .inr (.inr (.inl e))
 ·exact .inr (.inr (.inr (by have:=hu.size;omega)))
theorem QAt.cursor{g:Nat}{a b:Int}{d:Bool}(_:W.heap.size<=b8)(h:QAt W B gp gg gr wd b8 R L2 r2 c2 pd2 au2 Ls r c pd au o k w1)(hg:Has w1 g [.int .i64 a,.int .i64 b,.bool d] 24)(hW:W.heap.size<=g)(hne:g≠b8)(hu:Upd (fun x=>x=g) w1 w2):QAt W B gp gg gr wd b8 R L2 r2 c2 pd2 au2 Ls r c pd au o k w2:=by
 have Nk:=hg;have hz:HeldE lineE (fun x=>(¬ PZ w1 gp gr R x/\x≠b8)/\x≠g) w1 (.slice o Ls.length k) Ls:=uV h.2.2.1 hg;refine ⟨h.1.beside hg (by decide) (by decide) (by decide) (by decide) (by decide) (lQ hg) hu,hu.keep.has h.2.1 (fun e=>hne e.symm),(hz.upd hu (fun x hx=>hx.2)).zone (fun x hlt' hx=>⟨fun e=>hx.1.1 ?_,hx.1.2⟩),h.2.2.2.trans (hu.below h.2.2.2.size (fun x e=>by omega))⟩
 rcases e with e | e | e | e
 ·exact .inl e
 ·exact .inr (.inl e)
 ·exact .inr (.inr (.inl e))
 ·exact .inr (.inr (.inr (by have:=hu.size;omega)))
end
theorem yc(r:Int){n:Nat}(h:0<n)(hn:n<=1024):∃ r2:Nat,inI r (ay n)=(r2:Int)/\r2<n:=by
 have hs:ay n=(n:Int):=by unfold ay;omega
 rw [hs];refine ⟨(inI r n).toNat,?_,?_⟩ <;> unfold inI <;> (repeat' split) <;> omega
end
theorem GridY.apart{Yo:an}{w w':World}{B gg gr wd g:Nat}{Rs:List Rw}{C:List Value}(h:GridY Yo w B gg gr wd Rs)(hne:∀ b,Yo b->b≠g)(hg:Has w g C 130)(hu:Upd (fun b=>b=g) w w'):GridY Yo w' B gg gr wd Rs:=by
 have ho:=h.other hg (by decide) (by decide) (by decide) (by decide);obtain ⟨Z,cap,h1,h2,h3,h4,h5,h6,h7,h8,h9,h10,hY⟩:=h;have hk:=hu.keep;refine ⟨Z,cap,fun b hz=>⟨(h1 b hz).1,Nat.lt_of_lt_of_le (h1 b hz).2 hu.size⟩,hk.has h2 (fun e=>ho.1 e.symm),h3,?_,h5,h6,h7.upd hu (fun b hz e=>hne b (hY b (.inl hz)) e) (fun i hi=>⟨fun e=>(ho.2.2 i hi).1 e.symm,fun e=>(ho.2.2 i hi).2 e.symm⟩),h8,h9,h10,fun b hb=>hY b (hb.imp id (Nat.le_trans hu.size))⟩;exact cS (hk.own h4.ptrs fun b hb e=>by
  have:gr=b:=by simpa [Value.ownBlock] using hb
  exact ho.2.1 (by rw [this];exact e.symm))
theorem PenY.apart{Yo:an}{w w':World}{B gp gg gr wd g:Nat}{Rs:List Rw}{Ls:List Ln}{r c:Int}{pd au:Bool}{C:List Value}(h:PenY Yo w B gp gg gr wd Rs Ls r c pd au)(hne:∀ b,Yo b->b≠g)(hg:Has w g C 130)(hu:Upd (fun b=>b=g) w w'):PenY Yo w' B gp gg gr wd Rs Ls r c pd au :=
 ⟨hu.keep.has h.1 (fun e=>by subst e;exact aH hg h.1 (by decide)),h.2.1,h.2.2.1.apart hne hg hu,h.2.2.2⟩
theorem GridY.new2{Yo:an}{w:World}{B gg gr wd:Nat}{Rs:List Rw}(h:GridY Yo w B gg gr wd Rs)(o:Obj):GridY (fun b=>Yo b/\b≠w.heap.size) (w.alloc o) B gg gr wd Rs:=by
 have hb:=AU w o;obtain ⟨Z',cap',k1,k2,k3,k4,k5,k6,k7,k8,k9,k10,kY⟩:=h;have hs:(w.alloc o).heap.size=w.heap.size+1:=by simp
 refine ⟨Z',cap',fun b hz=>⟨(k1 b hz).1,by have:=(k1 b hz).2;omega⟩,k2.below hb k2.lt,k3,k4.below hb,k5,k6,k7.below hb,k8,k9,k10,fun b hz=>?_⟩
 rcases hz with hz | hz
 ·exact ⟨kY b (.inl hz),by have:=(k1 b hz).2;omega⟩
 ·exact ⟨kY b (.inr (by omega)),by omega⟩
theorem sB{w1:World}{B gp gg gr wd g:Nat}{R1:List Rw}{Ls:List Ln}{r c:Int}{pd au:Bool}{Yo:an}(h:PenY Yo w1 B gp gg gr wd R1 Ls r c pd au){C:List Value}(hg:Has w1 g C 130):¬ PZ w1 gp gr R1 g:=fun e=>by
 have ho:=h.2.2.1.other hg (by decide) (by decide) (by decide) (by decide);have hl:=hg.lt
 rcases e with e | e | ⟨i,hi,e⟩ | e
 ·subst e;exact aH hg h.1 (by decide)
 ·exact ho.2.1 e
 ·rcases e with e | e
  ·exact (ho.2.2 i hi).1 e
  ·exact (ho.2.2 i hi).2 e
 ·omega
theorem pS{w w1:World}{B gp gg gr wd:Nat}{R:List Rw}{Ls:List Ln}{r c:Int}{pd au:Bool}{Yo:an}(h:PenY Yo w B gp gg gr wd R Ls r c pd au){u:Value}{ys:List Int}(hu:HeldE (aF .i32) (fun b=>w.heap.size<=b) w1 u ys):HeldE (aF .i32) (fun b=>¬ PZ w1 gp gr R b) w1 u ys:=hu.zone fun b hlt hz e=>by
 have hl:=h.lt;have hg:=h.2.2.1.lt
 rcases e with e | e | ⟨i,hi,e⟩ | e
 ·omega
 ·omega
 ·have:=hg.2.2.2.2.2 i hi;rcases e with e | e <;> omega
 ·omega
def gwI(c:Bool):Int:=if c=true then 2 else 1
theorem m4(g:Nat)(l:List Int)(a b c:Bool)(wd rr k:Int)(p:Bool)(x br:Int)(pc:Bool)(cv ea:Int)(w:World)(h:WAt w g l a b c wd rr k p)(hl:l.length<16) :
  Calls Tryz.prog 72 #[.pointer (some ⟨g,0,none⟩),.int .i32 x,.agg #[.int .i64 br,.bool pc,.int .i64 cv,.int .i64 ea]] w (fun e w'=>e=.returned (.tuple #[])/\WAt w' g (l++[bg x]) true pc (c || dC a b (bg x) br pc ea) (gwI (c || dC a b (bg x) br pc ea)) rr k p/\But g w.heap.size w w'):=by
 obtain ⟨W1,hW1,hp,hb⟩:=m5 w br pc cv ea;obtain ⟨gq,D5⟩:=ae (w.heap.size);rw [<-D5] at hp;have LZ:=ab D5;have Jn:=ab (show g≠gq from by have:=h.lt;omega);have H1:=ab (h.below hb);have HP:=ab hp;have HB:=ab hb;have hb2:=AU W1 (.cells [Value.int .i32 x].toArray 21);have ht:=gQ .i32 W1 [Value.int .i32 x] 21 1 1 [x] rfl rfl;have HRP:=ab (pO _ [x] _ ht (by simp));have BY:=ab hb2;obtain ⟨y,hy⟩:=ae (bg x);have HY:=ab hy;have E3:=ab hl;clear h hp hb hb2 ht D5 hl;rw [<-hy];clear hy
 go_enter Tryz.func72,Tryz.ntmps72
 go_upto_region 1 with (fail)
 rw [<-hW1,<-LZ.out];clear hW1
 go_wp2_with fail
 refine HRP.out.mono ?_;rintro e w3 ⟨v3,rfl,h3,b3⟩;have h3:Held .i32 w3 v3 [y]:=by rw [HY.out];exact h3
 obtain ⟨o3,k3,e3,hc3⟩:=h3.view;rw [show [y].length=1 from rfl] at e3;obtain ⟨bt,ot,eo,hbt,I0⟩:=hc3 0 (by simp);subst eo;subst e3;rw [Nat.add_zero] at I0;have I0:w3.cell? ⟨bt,ot,none⟩=some (.int .i32 y):=I0;have EW:=(H1.out.below BY.out).below b3;have B3:=ab (HB.out.trans ((BY.out.trans (b3.mono BY.out.size)).mono HB.out.size));have Oa:=ab ((HP.out.below BY.out HP.out.lt).below b3 (Nat.lt_of_lt_of_le HP.out.lt BY.out.size));have HAD:=ab (wZ EW y E3.out);clear EW h3 hc3 hbt b3 HRP H1 HP HB BY
 go_wp2_with fail
 refine HAD.out.mono ?_;rintro e w4 ⟨rfl,h4,u4⟩;have H4:=ab h4;have Pi:=ab (Oa.out.but u4 Oa.out.lt (fun e=>Jn.out e.symm));have B4:=ab ((But.ofBelow (g:=g) B3.out).trans (u4.mono B3.out.size));clear h4 u4 I0 HAD Oa B3;obtain ⟨c2,hc2⟩:=ae ((c || dC a b y br pc ea));have HST:=ab (show ∀ w',WAt w' g (l++[y]) a b c wd rr k p->Calls Tryz.prog 137 #[.pointer (some ⟨g,17,none⟩),.int .i32 y,.agg #[.int .i64 br,.bool pc,.int .i64 cv,.int .i64 ea]] w' (fun e w2=>e=.returned (.int .i64 (gwI c2))/\WAt w2 g (l++[y]) true pc c2 wd rr k p/\But g w'.heap.size w' w2) from fun w' h=>by
  rw [hc2];exact uj g (l++[y]) a b c wd rr k p y br pc cv ea w' h)
 have Oz:=ab hc2;obtain ⟨wv,C9⟩:=ae (gwI c2);have K3:=ab C9;rw [<-C9] at HST;clear hc2 C9
 go_upto_region 3 with (fail)
 obtain ⟨AZ,A6⟩ : ∃ CC:Array Bool->World->Prop,CC=fun L8 w'=>But g w4.heap.size w4 w'/\(Mix.one L8 6=0->WAt w' g (l++[y]) a b c wd rr k p)/\(Mix.one L8 6=1->Mix.one L8 9=0->WAt w' g (l++[y]) true pc c2 wd rr k p)/\(Mix.one L8 9=1->WAt w' g (l++[y]) true pc c2 wv rr k p):=⟨_,rfl⟩
 obtain ⟨BA,Bh,Bm,Bl⟩:=Reg.xT;obtain ⟨Bw,Bn,A2,A3,A4,A5,Bc,A9,Ba,A1,A7,Be,_,_⟩:=Reg.e12 BA
  (fun xx _=>xx=.pointer (some ⟨g,0,none⟩))
  (fun xx _=>xx=.pointer (some ⟨g,0,none⟩))
  (fun xx _=>xx=.pointer (some ⟨g,0,none⟩))
  (fun xx _=>xx=.pointer (some ⟨g,17,none⟩))
  (fun xx _=>xx=.int .i32 y)
  (fun xx _=>xx=.agg #[.int .i64 br,.bool pc,.int .i64 cv,.int .i64 ea])
  (fun xx _=>xx=.int .i64 wv)
  (fun xx _=>xx=.pointer (some ⟨g,0,none⟩))
  (fun xx _=>xx=.pointer (some ⟨g,20,none⟩))
  (fun xx _=>xx=undef)
  (fun _ _=>True) (fun _ _=>True)
 have Bd:Hid (∀ i L w,(i == 6 || i == 9)=false ->  AZ L w->AZ (L.setIfInBounds i true) w):=ab (by
  intro i L w q h;simp only [Bool.or_eq_false_iff,beq_eq_false_iff_ne] at q;rw [A6] at h ⊢;simp only [Mix.one_ne q.1,Mix.one_ne q.2];exact h)
 have Bv:Hid (∀ L w w1,AZ L w->Below w.heap.size w w1->AZ L w1):=ab (by
  intro L w w1 h hb;rw [A6] at h ⊢
  (obtain ⟨q1,q2,q3,q4⟩:=h;exact ⟨q1.trans ((But.ofBelow hb).mono q1.size),fun e=>(q2 e).below hb,fun e f=>(q3 e f).below hb,fun e=>(q4 e).below hb⟩))
 have By:=ab (show AZ (Array.replicate 10 false) w4.drew from by rw [A6];exact ⟨(But.refl _ _ _).drewN 1,fun _=>H4.out.below (Below.refl _ _).drew,fun e=>absurd e (by decide),fun e=>absurd e (by decide)⟩);have AX:=ab (fun (i:Nat) L w v q (h:AZ L w) (e:Bw i v w)=>Reg.hk (Bd.out i L w q h) e (Bm.out w));have AW:=ab A6;have Bi:=ab Bh;clear A6 Bh
 go_wp2_with fail
 refine Reg.regionF Bw AZ BA Bn.out (by kernel_rfl) (by kernel_rfl) (by kernel_rfl) By.out (fun GC AV=>?_);simp only [Reg.frame,Reg.dsts,List.map_cons,List.map_nil,Mix.put_lit,Reg.put_none,List.set_cons_succ,List.set_cons_zero,Nat.zero_add,Nat.reduceAdd] at AV;refine ⟨⟨?_,?_,?_,?_,?_,?_,?_,?_,?_,?_,trivial⟩,?_⟩
 ·intro Lq wq xq hh;simp only [AV];refine Reg.go rfl ?_;have HK:=AX.out 0 _ _ _ rfl hh.cls ((A2.out _ _).mpr rfl);go_simp;exact HK.out
 ·intro Lq wq xq hh;simp only [AV];refine Reg.go rfl ?_;have HK:=AX.out 1 _ _ _ rfl hh.cls ((A3.out _ _).mpr rfl);go_simp;exact HK.out
 ·intro Lq wq xq hh;simp only [AV,(A3.out _ _).mp (hh.v 1)];refine Reg.go rfl ?_;have HK:=AX.out 2 _ _ _ rfl hh.cls ((A4.out _ _).mpr rfl);go_simp;exact HK.out
 ·intro Lq wq xq hh;simp only [AV,(A4.out _ _).mp (hh.v 2)];refine Reg.go rfl ?_;have HK:=AX.out 3 _ _ _ rfl hh.cls ((A5.out _ _).mpr rfl);go_simp;exact HK.out
 ·intro Lq wq xq hh;simp only [AV];refine Reg.go rfl ?_;have HK:=AX.out 4 _ _ _ rfl hh.cls ((Bc.out _ _).mpr rfl);go_simp;exact HK.out
 ·intro Lq wq xq hh;simp only [AV];refine Reg.go rfl ?_;have hc:AZ Lq wq:=hh.cls;rw [AW.out] at hc;have hq:=Pi.out.but hc.1 Pi.out.lt (fun e=>Jn.out e.symm);have q0:=hq.cell 0 _ rfl;have q1:=hq.cell 1 _ rfl;have q2:=hq.cell 2 _ rfl;have q3:=hq.cell 3 _ rfl;clear hc;have HK:=AX.out 5 _ _ _ rfl hh.cls ((A9.out _ _).mpr rfl);go_simp;exact HK.out
 ·intro Lq wq xq hh;simp only [AV,(A5.out _ _).mp (hh.v 3),(Bc.out _ _).mp (hh.v 4),(A9.out _ _).mp (hh.v 5)];refine Reg.go rfl ?_;unfold Reg.upon;have hc:AZ Lq wq:=hh.cls;rw [AW.out] at hc;have hq:=hc.2.1 hh.un;go_simp;refine (HST.out wq hq).mono ?_;rintro e w2 ⟨rfl,h9,u9⟩;have hF:AZ (Lq.setIfInBounds 6 true) w2:=by
   rw [AW.out];refine ⟨hc.1.trans (u9.mono hc.1.size),fun e=>?_,fun _ _=>h9,fun e=>?_⟩
   ·rw [Mix.one_set (by rw [hh.size];decide)] at e;exact absurd e (by decide)
   ·rw [Mix.one_ne (by decide),Mix.one_un (hh.notYet 9 (by kernel_rfl))] at e;exact absurd e (by decide)
  exact ⟨_,rfl,hF,(by rw [Ba.out]),(by rw [Bi.out];trivial)⟩
 ·intro Lq wq xq hh;simp only [AV,(A2.out _ _).mp (hh.v 0)];refine Reg.go rfl ?_;have HK:=AX.out 7 _ _ _ rfl hh.cls ((A1.out _ _).mpr rfl);go_simp;exact HK.out
 ·intro Lq wq xq hh;simp only [AV,(A1.out _ _).mp (hh.v 7)];refine Reg.go rfl ?_;have HK:=AX.out 8 _ _ _ rfl hh.cls ((A7.out _ _).mpr rfl);go_simp;exact HK.out
 ·intro Lq wq xq hh;simp only [AV,(Ba.out _ _).mp (hh.v 6),(A7.out _ _).mp (hh.v 8)];refine Reg.go rfl ?_;unfold Reg.upon;have hc:AZ Lq wq:=hh.cls;rw [AW.out] at hc;have hq:=hc.2.2.1 (hh.isDone 6 (by kernel_rfl)) hh.un;have s0:=hq.cells.2.2.2.2.1;have f0:=hq.1.free 20;have N7:=hq.wide wv;have hF:AZ (Lq.setIfInBounds 9 true) (wq.setCell ⟨g,20,none⟩ (.int .i64 wv)):=by
   rw [AW.out];refine ⟨hc.1.trans (N7.2.mono hc.1.size),fun e=>?_,fun _ e=>?_,fun _=>N7.1⟩
   ·rw [Mix.one_ne (by decide),hh.isDone 6 (by kernel_rfl)] at e;exact absurd e (by decide)
   ·rw [Mix.one_set (by rw [hh.size];decide)] at e;exact absurd e (by decide)
  have hE:Bw 9 undef (wq.setCell ⟨g,20,none⟩ (.int .i64 wv)):=by rw [Be.out]
  have hX:BA wq (wq.setCell ⟨g,20,none⟩ (.int .i64 wv)):=by rw [Bi.out];trivial
  clear hc hq N7;go_simp;exact ⟨hF,hE,hX⟩
 intro xq DY Bp BD;rw [AW.out] at Bp;simp only [AV];clear BD AV AX Bd Bm Bn By AW Bi Bv Bl A2 A3 A4 A5 Bc A9 Ba A1 A7 Be;obtain ⟨AY,_,_,h9⟩:=Bp;have HF:=ab (And.intro (h9 (by kernel_rfl)) (B4.out.trans (AY.mono B4.out.size)));clear AY h9;go_wp2;exact bodyPost_end (by kernel_rfl) rfl ⟨rfl,by rw [<-Oz.out,<-K3.out];exact HF.out.1,HF.out.2⟩
def WDo(Yo:an)(w:World)(B gp gg gr wd g:Nat)(R:List Rw)(Ls:List Ln)(au:Bool)(l:List Int)(pc c2:Bool)(r2 c2':Nat)(pd2:Bool)(w':World):Prop:=∃ R1,PenY Yo w' B gp gg gr wd R1 (fL Ls wd r2 c2' pd2 au (gwI c2) l) (fx Ls wd r2 c2' pd2 au (gwI c2):Nat) (eE (dE wd c2' pd2 au (gwI c2):Nat) (cx wd (gwI c2)) wd) (eF (dE wd c2' pd2 au (gwI c2):Nat) (cx wd (gwI c2)) wd au) au/\WAt w' g l true pc c2 (gwI c2) (fx Ls wd r2 c2' pd2 au (gwI c2):Nat) (dE wd c2' pd2 au (gwI c2):Nat) false/\Upd (fun q=>PZ w gp gr R q\/q=g) w w'/\RowsFrom w R R1
theorem PenY.new{Yo:an}{w:World}{B gp gg gr wd:Nat}{R:List Rw}{Ls:List Ln}{r c:Int}{pd au:Bool}(h:PenY Yo w B gp gg gr wd R Ls r c pd au)(o:Obj):PenY (fun b=>Yo b/\b≠w.heap.size) (w.alloc o) B gp gg gr wd R Ls r c pd au:=⟨h.1.alloc o,h.2.1,h.2.2.1.new2 o,h.2.2.2⟩
def wzero:List Value:=wcl []++wtl false false false 0 0 0 false
theorem rF{Yo:an}(B gp gg gr wd:Nat)(R:List Rw)(Ls:List Ln)(r c:Int)(pd au:Bool)(x br:Int)(pc:Bool)(cv ea:Int)(w:World)(h:PenY Yo w B gp gg gr wd R Ls r c pd au)(r2 c2':Nat)(pd2:Bool)(hr2:inI r (ay Ls.length)=(r2:Int))(hc2:inI c (ay wd)=(c2':Int))(IK:cI c pd wd=pd2)(DX:r2<Ls.length)(hlc:c2'<wd) :
  Calls Tryz.prog 15 #[.pointer (some ⟨gp,0,none⟩),.int .i32 x,.agg #[.int .i64 br,.bool pc,.int .i64 cv,.int .i64 ea]] w (fun e w'=>∃ g,e=.returned (.pointer (some ⟨g,0,none⟩))/\w.heap.size<=g/\WDo (fun b=>Yo b/\b≠g) w B gp gg gr wd g R Ls au [bg x] pc (dC false false (bg x) br pc ea) r2 c2' pd2 w'):=by
 obtain ⟨W1,hW1,hp,hb⟩:=m5 w br pc cv ea;obtain ⟨gq,D5⟩:=ae (w.heap.size);rw [<-D5] at hp;have LZ:=ab D5;have h1:=h.below hb;obtain ⟨g,hg⟩:=ae (W1.heap.size);obtain ⟨W2,hW2⟩:=ae (W1.alloc (.cells wzero.toArray 130));have h2:PenY (fun b=>Yo b/\b≠g) W2 B gp gg gr wd R Ls r c pd au:=by rw [hg,hW2];exact h1.new _
 have hw2:WAt W2 g [] false false false 0 0 0 false:=⟨by rw [hg,hW2];exact Has.new W1 wzero 130,by decide⟩;have hb2:Below W1.heap.size W1 W2:=by rw [hW2];exact AU _ _
 have NA:=ab (hp.below hb2 hp.lt);have B2:=ab (hb.trans (hb2.mono hb.size));have IG:=ab (show W2=W1.alloc (.cells #[Value.int .i64 0,.int .i32 0,.int .i32 0,.int .i32 0,.int .i32 0,.int .i32 0,.int .i32 0,.int .i32 0,.int .i32 0,.int .i32 0,.int .i32 0,.int .i32 0,.int .i32 0,.int .i32 0,.int .i32 0,.int .i32 0,.int .i32 0,.bool false,.bool false,.bool false,.int .i64 0,.int .i64 0,.int .i64 0,.bool false] 130) from hW2);have HGE:=ab hg;have ML:=ab (show w.heap.size<=g from by rw [hg];exact hb.size);have H2:=ab h2;have c0:=h1.1.cell 0 _ rfl;have HG:=ab (m4 g [] false false false 0 0 0 false x br pc cv ea W2 hw2 (by decide));have QH:=ab hr2;have Qc:=ab hc2;have HPD:=ab IK;have Kq:=ab DX;have M1:=ab hlc;have HWAT:=ab hw2;clear h h1 hp hb D5 hg h2 hw2 hb2 hW2 hr2 hc2 IK DX hlc
 go_enter Tryz.func15,Tryz.ntmps15
 go_upto_region 1 with (fail)
 rw [<-hW1,<-LZ.out];clear hW1
 go_upto_region 4 with (fail)
 rw [<-IG.out];rw [<-HGE.out];clear c0;have q0:=NA.out.cell 0 _ rfl;have q1:=NA.out.cell 1 _ rfl;have q2:=NA.out.cell 2 _ rfl;have q3:=NA.out.cell 3 _ rfl
 go_wp2_with fail
 refine HG.out.mono ?_;rintro e w5 ⟨rfl,h5,u5⟩;have OI:=ab (H2.out.apart (fun _ h=>h.2) HWAT.out.1 (Upd.ofBut u5));have Gf:=ab (show Upd (fun q=>PZ w gp gr R q\/q=g) w w5 from (Upd.ofBelow B2.out).trans ((Upd.ofBut u5).mono fun b _ e=>.inr e));clear q0 q1 q2 q3 u5 HG H2 HWAT;rw [show ([]:List Int)++[bg x]=[bg x] from rfl,Bool.false_or] at h5;obtain ⟨c2,hcc⟩:=ae (dC false false (bg x) br pc ea);obtain ⟨l2,hl2⟩:=ae ([bg x]);rw [<-hcc,<-hl2] at h5;obtain ⟨wv,C9⟩:=ae (gwI c2);obtain ⟨LP,Gq⟩:=ae (fL Ls wd r2 c2' pd2 au (gwI c2) l2);obtain ⟨KR,KA⟩ : ∃ KR:Int,KR=(fx Ls wd r2 c2' pd2 au (gwI c2):Nat):=⟨_,rfl⟩;obtain ⟨KC,Kr⟩ : ∃ KC:Int,KC=(dE wd c2' pd2 au (gwI c2):Nat):=⟨_,rfl⟩;obtain ⟨AC,MG⟩:=ae (eE (dE wd c2' pd2 au (gwI c2):Nat) (cx wd (gwI c2)) wd);obtain ⟨AP,MD⟩:=ae (eF (dE wd c2' pd2 au (gwI c2):Nat) (cx wd (gwI c2)) wd au);have JY:=ab (show ∀ (w':World) (v:Value),PenY (fun b=>Yo b/\b≠g) w' B gp gg gr wd R Ls r c pd au->HeldE (aF .i32) (fun b=>¬ PZ w' gp gr R b) w' v l2->Calls Tryz.prog 61 #[.pointer (some ⟨gp,0,none⟩),.int .i64 wv,v] w' (fun e w2=>e=.returned (.agg #[.int .i64 KR,.int .i64 KC,.bool false])/\PDoY (fun b=>Yo b/\b≠g) w' B gp gg gr wd R LP KR AC AP au w2) from fun w' v h1 h2=>by
  rw [C9,Gq,KA,Kr,MG,MD];exact pV B gp gg gr wd R Ls r c pd au (gwI c2) v l2 w' h1 h2 r2 c2' pd2 QH.out Qc.out HPD.out Kq.out M1.out)
 rw [<-C9] at h5;have DW:=ab h5;have PO:=ab (And.intro hcc (And.intro hl2 (And.intro C9 (And.intro Gq (And.intro KA (And.intro Kr (And.intro MG MD)))))));clear h5 hcc hl2 C9 Gq KA Kr MG MD
 go_upto_region 5 with (fail)
 obtain ⟨AZ,A6⟩ : ∃ CC:Array Bool->Value->World->Prop,CC=fun L8 x w'=>Upd (fun q=>PZ w5 gp gr R q\/q=g) w5 w'/\(Mix.one L8 10=0->Below w5.heap.size w5 w')/\(Mix.one L8 9=1->Mix.one L8 10=0->HeldE (aF .i32) (fun b=>w5.heap.size<=b) w' x l2)/\(Mix.one L8 10=1->Mix.one L8 13=0->∃ R2,PenY (fun b=>Yo b/\b≠g) w' B gp gg gr wd R2 LP KR AC AP au/\WAt w' g l2 true pc c2 wv 0 0 false/\RowsFrom w5 R R2)/\(Mix.one L8 13=1->∃ R2,PenY (fun b=>Yo b/\b≠g) w' B gp gg gr wd R2 LP KR AC AP au/\WAt w' g l2 true pc c2 wv KR KC false/\RowsFrom w5 R R2):=⟨_,rfl⟩
 obtain ⟨BA,Bh,Bm,Bl⟩:=Reg.xT;obtain ⟨Bw,Bn,A2,A3,A4,A5,Bc,A9,Ba,A1,A7,Be,A0,Bg,Bk,Bj,_,_⟩:=Reg.e16 BA
  (fun xx _=>xx=.pointer (some ⟨g,0,none⟩))
  (fun xx _=>xx=.pointer (some ⟨gp,0,none⟩))
  (fun xx _=>xx=.pointer (some ⟨g,0,none⟩))
  (fun xx _=>xx=.pointer (some ⟨g,0,none⟩))
  (fun xx _=>xx=.pointer (some ⟨g,20,none⟩))
  (fun xx _=>xx=.int .i64 wv)
  (fun xx _=>xx=.pointer (some ⟨g,0,none⟩))
  (fun xx _=>xx=.pointer (some ⟨g,0,none⟩))
  (fun xx _=>xx=.pointer (some ⟨g,0,none⟩))
  (fun x w'=>True)
  (fun xx _=>xx=.agg #[.int .i64 KR,.int .i64 KC,.bool false])
  (fun xx _=>xx=.pointer (some ⟨g,0,none⟩))
  (fun xx _=>xx=.pointer (some ⟨g,21,none⟩))
  (fun xx _=>xx=undef)
  (fun _ _=>True) (fun _ _=>True)
  (s9:=fun x w w1 hx h=>by rw [Bh] at hx;exact h)
 have Bd:Hid (∀ i L {x:Value} w,(i == 9 || i == 10 || i == 13)=false ->  AZ L x w->AZ (L.setIfInBounds i true) x w):=ab (by
  intro i L x w q h;simp only [Bool.or_eq_false_iff,beq_eq_false_iff_ne] at q;rw [A6] at h ⊢;simp only [Mix.one_ne q.1.1,Mix.one_ne q.1.2,Mix.one_ne q.2];exact h)
 have Bv:Hid (∀ L {x:Value} w w1,AZ L x w->Below w.heap.size w w1->AZ L x w1):=ab (by
  intro L x w w1 h hb;rw [A6] at h ⊢
  (obtain ⟨q1,q2,q3,q4,q5⟩:=h;exact ⟨q1.trans (.ofBelow hb),fun e=>(q2 e).trans (hb.mono (q2 e).size),fun e f=>(q3 e f).below hb,fun e f=>by obtain ⟨a1,h1,h2,h3⟩:=q4 e f;exact ⟨a1,h1.below hb,h2.below hb,h3⟩,fun e=>by obtain ⟨a1,h1,h2,h3⟩:=q5 e;exact ⟨a1,h1.below hb,h2.below hb,h3⟩⟩))
 have By:=ab (show ∀ x,AZ (Array.replicate 14 false) x w5.drew from fun x=>by rw [A6];exact ⟨(Upd.refl _ _).drew,fun _=>(Below.refl _ _).drew,fun e=>absurd e (by decide),fun e=>absurd e (by decide),fun e=>absurd e (by decide)⟩);have AX:=ab (fun (i:Nat) L {x:Value} w v q (h:AZ L x w) (e:Bw i v w)=>Reg.hk (Bd.out i L w q h) e (Bm.out w));have AW:=ab A6;have Bi:=ab Bh;clear A6 Bh
 go_wp2_with fail
 refine RegC.regionF 9 Bw AZ BA Bn.out (by kernel_rfl) (by kernel_rfl) (by kernel_rfl) By.out (fun GC AV=>?_);simp only [Reg.frame,Reg.dsts,List.map_cons,List.map_nil,Mix.put_lit,Reg.put_none,List.set_cons_succ,List.set_cons_zero,Nat.zero_add,Nat.reduceAdd] at AV;refine ⟨⟨?_,?_,?_,?_,?_,?_,?_,?_,?_,?_,?_,?_,?_,?_,trivial⟩,?_⟩
 ·intro Lq wq xq hh;simp only [AV];refine Reg.go rfl ?_;have HK:=AX.out 0 _ _ _ rfl hh.cls ((A2.out _ _).mpr rfl);go_simp;exact HK.out
 ·intro Lq wq xq hh;simp only [AV];refine Reg.go rfl ?_;have HK:=AX.out 1 _ _ _ rfl hh.cls ((A3.out _ _).mpr rfl);go_simp;exact HK.out
 ·intro Lq wq xq hh;simp only [AV];refine Reg.go rfl ?_;have HK:=AX.out 2 _ _ _ rfl hh.cls ((A4.out _ _).mpr rfl);go_simp;exact HK.out
 ·intro Lq wq xq hh;simp only [AV,(A4.out _ _).mp (hh.v 2)];refine Reg.go rfl ?_;have HK:=AX.out 3 _ _ _ rfl hh.cls ((A5.out _ _).mpr rfl);go_simp;exact HK.out
 ·intro Lq wq xq hh;simp only [AV,(A5.out _ _).mp (hh.v 3)];refine Reg.go rfl ?_;have HK:=AX.out 4 _ _ _ rfl hh.cls ((Bc.out _ _).mpr rfl);go_simp;exact HK.out
 ·intro Lq wq xq hh;simp only [AV,(Bc.out _ _).mp (hh.v 4)];refine Reg.go rfl ?_;have hc:AZ Lq (xq 9) wq:=hh.cls;rw [AW.out] at hc;have hq:=DW.out.below (hc.2.1 (Mix.one_un (hh.notYet 10 (by kernel_rfl))));have q0:=hq.cells.2.2.2.2.1;clear hc;have HK:=AX.out 5 _ _ _ rfl hh.cls ((A9.out _ _).mpr rfl);go_simp;exact HK.out
 ·intro Lq wq xq hh;simp only [AV];refine Reg.go rfl ?_;have HK:=AX.out 6 _ _ _ rfl hh.cls ((Ba.out _ _).mpr rfl);go_simp;exact HK.out
 ·intro Lq wq xq hh;simp only [AV,(Ba.out _ _).mp (hh.v 6)];refine Reg.go rfl ?_;have HK:=AX.out 7 _ _ _ rfl hh.cls ((A1.out _ _).mpr rfl);go_simp;exact HK.out
 ·intro Lq wq xq hh;simp only [AV,(A1.out _ _).mp (hh.v 7)];refine Reg.go rfl ?_;have HK:=AX.out 8 _ _ _ rfl hh.cls ((A7.out _ _).mpr rfl);go_simp;exact HK.out
 ·intro Lq wq xq hh;simp only [AV,(A7.out _ _).mp (hh.v 8)];refine Reg.go rfl ?_;unfold Reg.upon;have hc:AZ Lq (xq 9) wq:=hh.cls;rw [AW.out] at hc;have hb:=hc.2.1 (Mix.one_un (hh.notYet 10 (by kernel_rfl)));have hq:=kd (DW.out.below hb);go_simp;refine hq.mono ?_;rintro e w2 ⟨v9,rfl,ho,b9⟩;have hH:HeldE (aF .i32) (fun b=>w5.heap.size<=b) w2 v9 l2:=(HeldE.ownedInts ho).zone fun b _ hz=>Nat.le_trans hb.size hz
  have hF:AZ (Lq.setIfInBounds 9 true) v9 w2:=by
   rw [AW.out];refine ⟨hc.1.trans (.ofBelow b9),fun _=>hb.trans (b9.mono hb.size),fun _ _=>hH,fun e=>?_,fun e=>?_⟩
   ·rw [Mix.one_ne (by decide),Mix.one_un (hh.notYet 10 (by kernel_rfl))] at e;exact absurd e (by decide)
   ·rw [Mix.one_ne (by decide),Mix.one_un (hh.notYet 13 (by kernel_rfl))] at e;exact absurd e (by decide)
  exact ⟨_,rfl,hF,(by rw [Be.out];trivial),(by rw [Bi.out];trivial)⟩
 ·intro Lq wq xq hh;have d9:=(Be.out _ _).mp (hh.v 9);simp only [AV,(A3.out _ _).mp (hh.v 1),(A9.out _ _).mp (hh.v 5)];refine Reg.go rfl ?_;unfold Reg.upon;have hc:AZ Lq (xq 9) wq:=hh.cls;rw [AW.out] at hc;have hb:=hc.2.1 hh.un;have ht:=hc.2.2.1 (hh.isDone 9 (by kernel_rfl)) hh.un;have hp:=OI.out.below hb;have hw:=DW.out.below hb;go_simp;refine (JY.out wq (xq 9) hp (pS OI.out ht)).mono ?_;rintro e w2 ⟨rfl,R2,k1,k2,k3⟩;have hF:AZ (Lq.setIfInBounds 10 true) (xq 9) w2:=by
   rw [AW.out];refine ⟨hc.1.trans (k2.mono fun b _ e=>.inl (PZ.from (RowsFrom.self _ _) hb.size b e)),fun e=>?_,fun _ e=>?_,fun _ _=>⟨R2,k1,⟨k2.keep.has hw.1 (sB hp hw.1),hw.2⟩,(RowsFrom.self w5 R).trans k3 hb.size⟩,fun e=>?_⟩
   ·rw [Mix.one_set (by rw [hh.size];decide)] at e;exact absurd e (by decide)
   ·rw [Mix.one_set (by rw [hh.size];decide)] at e;exact absurd e (by decide)
   ·rw [Mix.one_ne (by decide),Mix.one_un (hh.notYet 13 (by kernel_rfl))] at e;exact absurd e (by decide)
  exact ⟨_,rfl,hF,(by rw [A0.out]),(by rw [Bi.out];trivial)⟩
 ·intro Lq wq xq hh;simp only [AV,(A2.out _ _).mp (hh.v 0)];refine Reg.go rfl ?_;have HK:=AX.out 11 _ _ _ rfl hh.cls ((Bg.out _ _).mpr rfl);go_simp;exact HK.out
 ·intro Lq wq xq hh;simp only [AV,(Bg.out _ _).mp (hh.v 11)];refine Reg.go rfl ?_;have HK:=AX.out 12 _ _ _ rfl hh.cls ((Bk.out _ _).mpr rfl);go_simp;exact HK.out
 ·intro Lq wq xq hh;simp only [AV,(A0.out _ _).mp (hh.v 10),(Bk.out _ _).mp (hh.v 12)];refine Reg.go rfl ?_;unfold Reg.upon;have hc:AZ Lq (xq 9) wq:=hh.cls;rw [AW.out] at hc;obtain ⟨R2,k1,k2,k3⟩:=hc.2.2.2.1 (hh.isDone 10 (by kernel_rfl)) hh.un;obtain ⟨_,_,_,_,_,s0,s1,s2⟩:=k2.cells;have f0:=k2.1.free 21;have f1:=k2.1.free 22;have f2:=k2.1.free 23;have hpl:=k2.place KR KC false;have hF:AZ (Lq.setIfInBounds 13 true) (xq 9) (((wq.setCell ⟨g,21,none⟩ (.int .i64 KR)).setCell ⟨g,22,none⟩ (.int .i64 KC)).setCell ⟨g,23,none⟩ (.bool false)):=by
   rw [AW.out];refine ⟨hc.1.trans (hpl.2.mono fun b _ e=>.inr e),fun e=>?_,fun _ e=>?_,fun _ e=>?_,fun _=>⟨R2,k1.apart (fun _ h=>h.2) k2.1 hpl.2,hpl.1,k3⟩⟩
   ·rw [Mix.one_ne (by decide),hh.isDone 10 (by kernel_rfl)] at e;exact absurd e (by decide)
   ·rw [Mix.one_ne (by decide),hh.isDone 10 (by kernel_rfl)] at e;exact absurd e (by decide)
   ·rw [Mix.one_set (by rw [hh.size];decide)] at e;exact absurd e (by decide)
  have hE:Bw 13 undef (((wq.setCell ⟨g,21,none⟩ (.int .i64 KR)).setCell ⟨g,22,none⟩ (.int .i64 KC)).setCell ⟨g,23,none⟩ (.bool false)):=by rw [Bj.out]
  have hX:BA wq (((wq.setCell ⟨g,21,none⟩ (.int .i64 KR)).setCell ⟨g,22,none⟩ (.int .i64 KC)).setCell ⟨g,23,none⟩ (.bool false)):=by rw [Bi.out];trivial
  clear hc k1 k2 k3 hpl;go_simp;exact ⟨hF,hE,hX⟩
 intro xq DY Bp BD;rw [AW.out] at Bp;simp only [AV];clear BD AV AX Bd Bm Bn By AW Bi Bv Bl A2 A3 A4 A5 Bc A9 Ba A1 A7 Be A0 Bg Bk Bj;obtain ⟨u9,_,_,_,h9⟩:=Bp;obtain ⟨R2,k1,k2,k3⟩:=h9 (by kernel_rfl);have HF:=ab (show WDo (fun b=>Yo b/\b≠g) w B gp gg gr wd g R Ls au [bg x] pc (dC false false (bg x) br pc ea) r2 c2' pd2 DY from by
  obtain ⟨t1,t2,t3,t4,t5,t6,t7,t8⟩:=PO.out;rw [t3] at k2;rw [t4,t5,t7,t8] at k1;rw [t5,t6] at k2;rw [t1,t2] at k1 k2;exact ⟨R2,k1,k2,Gf.out.trans (u9.mono fun b _ e=>by rcases e with e | e;exact .inl (PZ.from (RowsFrom.self _ _) Gf.out.size b e);exact .inr e),(RowsFrom.self w R).trans k3 Gf.out.size⟩)
 clear u9 h9 k1 k2 k3;go_wp2;go_ret;exact ⟨g,af,ML.out,HF.out⟩
theorem wU{n:Nat}(k:Nat)(h:k<n)(hn:n<=1024):inI k (ay n)=(k:Int):=by
 have hs:ay n=(n:Int):=by unfold ay;omega
 rw [hs];unfold inI
 repeat' split
 all_goals omega
theorem ui{Yo:an}(B gp gg gr wd:Nat)(R:List Rw)(Ls:List Ln)(r c:Int)(pd au:Bool)(g:Nat)(l:List Int)(a b cw:Bool)(wv0:Int)(ar ac:Nat)(x br:Int)(pc:Bool)(cv ea:Int)(w:World)(h:PenY Yo w B gp gg gr wd R Ls r c pd au)(hw:WAt w g l a b cw wv0 ar ac false)(hl:l.length<16)(Qx:ar<Ls.length)(LL:ac<wd)(hne:∀ b,Yo b->b≠g) :
  Calls Tryz.prog 16 #[.pointer (some ⟨g,0,none⟩),.pointer (some ⟨gp,0,none⟩),.int .i32 x,.agg #[.int .i64 br,.bool pc,.int .i64 cv,.int .i64 ea]] w (fun e w'=>e=.returned (.bool true)/\WDo Yo w B gp gg gr wd g R Ls au (l++[bg x]) pc (cw || dC a b (bg x) br pc ea) ar ac false w'):=by
 obtain ⟨W1,hW1,hp,hb⟩:=m5 w br pc cv ea;obtain ⟨gq,D5⟩:=ae (w.heap.size);rw [<-D5] at hp;have LZ:=ab D5;have hsz:=h.sizes;have h1:=h.below hb;have Da:=hw.below hb;have HQ1:=ab hp;have Qw:=ab (show gq≠g from by have:=hw.lt;omega);have B1:=ab hb;have H1:=ab h1;have GH:=ab Da;have OQ:=ab (kc Da false (by simp;omega));have HG:=ab (m4 g l a b cw wv0 ar ac false x br pc cv ea W1 Da hl);have QH:=ab (wU ar Qx hsz.2.1);have Qc:=ab (wU ac LL hsz.2.2.2.1);have Kq:=ab Qx;have M1:=ab LL;have JC:=ab hne;have c0:=h1.1.cell 0 _ rfl;have q0:=hp.cell 0 _ rfl;have q1:=hp.cell 1 _ rfl;have q2:=hp.cell 2 _ rfl;have q3:=hp.cell 3 _ rfl;clear h hw h1 Da hp hb D5 hl Qx LL hsz hne
 go_enter Tryz.func16,Tryz.ntmps16
 go_upto_region 1 with (fail)
 rw [<-hW1,<-LZ.out];clear hW1
 go_wp2_with fail
 refine OQ.out.mono ?_;rintro e wz ⟨rfl,rfl⟩
 go_wp2_with fail
 refine HG.out.mono ?_;rintro e w4 ⟨rfl,h4,u4⟩;have Jo:=H1.out.apart JC.out GH.out.1 (Upd.ofBut u4);have HU4:=ab (show Upd (fun q=>PZ w gp gr R q\/q=g) w w4 from (Upd.ofBelow B1.out).trans ((Upd.ofBut u4).mono fun b _ e=>.inr e));obtain ⟨y,hy⟩:=ae (bg x);obtain ⟨c2,hcc⟩:=ae ((cw || dC a b (bg x) br pc ea));obtain ⟨l2,hl2⟩:=ae (l++[bg x]);rw [<-hcc,<-hl2] at h4;obtain ⟨_,_,_,_,_,z1,z2,z3⟩:=h4.cells;have p1:=Jo.1.cell 1 _ rfl;have p2:=Jo.1.cell 2 _ rfl;have p3:=Jo.1.cell 3 _ rfl;have f1:=Jo.1.free 1;have f2:=Jo.1.free 2;have f3:=Jo.1.free 3;have hs5:=jw Jo.1 (.int .i64 ar) (.int .i64 ac) (.bool false);obtain ⟨w5,CK⟩:=ae ((((w4.setCell ⟨gp,1,none⟩ (.int .i64 ar)).setCell ⟨gp,2,none⟩ (.int .i64 ac)).setCell ⟨gp,3,none⟩ (.bool false)));rw [<-CK] at hs5;have hngp:g≠gp:=fun e=>by subst e;exact aH h4.1 Jo.1 (by decide)
 have h5:WAt w5 g l2 true pc c2 (gwI c2) ar ac false:=⟨hs5.2.keep.has h4.1 hngp,h4.2⟩;have OI:=ab (show PenY Yo w5 B gp gg gr wd R Ls ar ac false au from Jo.turn hs5.1 hs5.2);have Gf:=ab (show Upd (fun q=>PZ w gp gr R q\/q=g) w w5 from HU4.out.trans (hs5.2.mono fun b _ e=>.inl (.inl e)));have HW5':=ab CK;clear h4 Jo u4 hs5 CK hngp q0 q1 q2 q3 c0 HG OQ H1 GH HU4 hy;obtain ⟨wv,C9⟩:=ae (gwI c2);obtain ⟨LP,Gq⟩:=ae (fL Ls wd ar ac false au (gwI c2) l2);obtain ⟨KR,KA⟩ : ∃ KR:Int,KR=(fx Ls wd ar ac false au (gwI c2):Nat):=⟨_,rfl⟩;obtain ⟨KC,Kr⟩ : ∃ KC:Int,KC=(dE wd ac false au (gwI c2):Nat):=⟨_,rfl⟩;obtain ⟨AC,MG⟩:=ae (eE (dE wd ac false au (gwI c2):Nat) (cx wd (gwI c2)) wd);obtain ⟨AP,MD⟩:=ae (eF (dE wd ac false au (gwI c2):Nat) (cx wd (gwI c2)) wd au);have JY:=ab (show ∀ (w':World) (v:Value),PenY Yo w' B gp gg gr wd R Ls ar ac false au->HeldE (aF .i32) (fun b=>¬ PZ w' gp gr R b) w' v l2->Calls Tryz.prog 61 #[.pointer (some ⟨gp,0,none⟩),.int .i64 wv,v] w' (fun e w2=>e=.returned (.agg #[.int .i64 KR,.int .i64 KC,.bool false])/\PDoY Yo w' B gp gg gr wd R LP KR AC AP au w2) from fun w' v h1 h2=>by
  rw [C9,Gq,KA,Kr,MG,MD];exact pV B gp gg gr wd R Ls ar ac false au (gwI c2) v l2 w' h1 h2 ar ac false QH.out Qc.out rfl Kq.out M1.out)
 rw [<-C9] at h5;have DW:=ab h5;have PO:=ab (And.intro hcc (And.intro hl2 (And.intro C9 (And.intro Gq (And.intro KA (And.intro Kr (And.intro MG MD)))))));clear h5 hcc hl2 C9 Gq KA Kr MG MD
 go_upto_region 5 with (fail)
 rw [<-HW5'.out];clear z1 z2 z3 p1 p2 p3 f1 f2 f3 HW5';obtain ⟨AZ,A6⟩ : ∃ CC:Array Bool->Value->World->Prop,CC=fun L8 x w'=>Upd (fun q=>PZ w5 gp gr R q\/q=g) w5 w'/\(Mix.one L8 10=0->Below w5.heap.size w5 w')/\(Mix.one L8 9=1->Mix.one L8 10=0->HeldE (aF .i32) (fun b=>w5.heap.size<=b) w' x l2)/\(Mix.one L8 10=1->Mix.one L8 13=0->∃ R2,PenY Yo w' B gp gg gr wd R2 LP KR AC AP au/\WAt w' g l2 true pc c2 wv ar ac false/\RowsFrom w5 R R2)/\(Mix.one L8 13=1->∃ R2,PenY Yo w' B gp gg gr wd R2 LP KR AC AP au/\WAt w' g l2 true pc c2 wv KR KC false/\RowsFrom w5 R R2):=⟨_,rfl⟩
 obtain ⟨BA,Bh,Bm,Bl⟩:=Reg.xT;obtain ⟨Bw,Bn,A2,A3,A4,A5,Bc,A9,Ba,A1,A7,Be,A0,Bg,Bk,Bj,_,_⟩:=Reg.e16 BA
  (fun xx _=>xx=.pointer (some ⟨g,0,none⟩))
  (fun xx _=>xx=.pointer (some ⟨gp,0,none⟩))
  (fun xx _=>xx=.pointer (some ⟨g,0,none⟩))
  (fun xx _=>xx=.pointer (some ⟨g,0,none⟩))
  (fun xx _=>xx=.pointer (some ⟨g,20,none⟩))
  (fun xx _=>xx=.int .i64 wv)
  (fun xx _=>xx=.pointer (some ⟨g,0,none⟩))
  (fun xx _=>xx=.pointer (some ⟨g,0,none⟩))
  (fun xx _=>xx=.pointer (some ⟨g,0,none⟩))
  (fun x w'=>True)
  (fun xx _=>xx=.agg #[.int .i64 KR,.int .i64 KC,.bool false])
  (fun xx _=>xx=.pointer (some ⟨g,0,none⟩))
  (fun xx _=>xx=.pointer (some ⟨g,21,none⟩))
  (fun xx _=>xx=undef)
  (fun _ _=>True) (fun _ _=>True)
  (s9:=fun x w w1 hx h=>by rw [Bh] at hx;exact h)
 have Bd:Hid (∀ i L {x:Value} w,(i == 9 || i == 10 || i == 13)=false ->  AZ L x w->AZ (L.setIfInBounds i true) x w):=ab (by
  intro i L x w q h;simp only [Bool.or_eq_false_iff,beq_eq_false_iff_ne] at q;rw [A6] at h ⊢;simp only [Mix.one_ne q.1.1,Mix.one_ne q.1.2,Mix.one_ne q.2];exact h)
 have Bv:Hid (∀ L {x:Value} w w1,AZ L x w->Below w.heap.size w w1->AZ L x w1):=ab (by
  intro L x w w1 h hb;rw [A6] at h ⊢
  (obtain ⟨q1,q2,q3,q4,q5⟩:=h;exact ⟨q1.trans (.ofBelow hb),fun e=>(q2 e).trans (hb.mono (q2 e).size),fun e f=>(q3 e f).below hb,fun e f=>by obtain ⟨a1,h1,h2,h3⟩:=q4 e f;exact ⟨a1,h1.below hb,h2.below hb,h3⟩,fun e=>by obtain ⟨a1,h1,h2,h3⟩:=q5 e;exact ⟨a1,h1.below hb,h2.below hb,h3⟩⟩))
 have By:=ab (show ∀ x,AZ (Array.replicate 14 false) x w5.drew from fun x=>by rw [A6];exact ⟨(Upd.refl _ _).drew,fun _=>(Below.refl _ _).drew,fun e=>absurd e (by decide),fun e=>absurd e (by decide),fun e=>absurd e (by decide)⟩);have AX:=ab (fun (i:Nat) L {x:Value} w v q (h:AZ L x w) (e:Bw i v w)=>Reg.hk (Bd.out i L w q h) e (Bm.out w));have AW:=ab A6;have Bi:=ab Bh;clear A6 Bh
 go_wp2_with fail
 refine RegC.regionF 9 Bw AZ BA Bn.out (by kernel_rfl) (by kernel_rfl) (by kernel_rfl) By.out (fun GC AV=>?_);simp only [Reg.frame,Reg.dsts,List.map_cons,List.map_nil,Mix.put_lit,Reg.put_none,List.set_cons_succ,List.set_cons_zero,Nat.zero_add,Nat.reduceAdd] at AV;refine ⟨⟨?_,?_,?_,?_,?_,?_,?_,?_,?_,?_,?_,?_,?_,?_,trivial⟩,?_⟩
 ·intro Lq wq xq hh;simp only [AV];refine Reg.go rfl ?_;have HK:=AX.out 0 _ _ _ rfl hh.cls ((A2.out _ _).mpr rfl);go_simp;exact HK.out
 ·intro Lq wq xq hh;simp only [AV];refine Reg.go rfl ?_;have HK:=AX.out 1 _ _ _ rfl hh.cls ((A3.out _ _).mpr rfl);go_simp;exact HK.out
 ·intro Lq wq xq hh;simp only [AV];refine Reg.go rfl ?_;have HK:=AX.out 2 _ _ _ rfl hh.cls ((A4.out _ _).mpr rfl);go_simp;exact HK.out
 ·intro Lq wq xq hh;simp only [AV,(A4.out _ _).mp (hh.v 2)];refine Reg.go rfl ?_;have HK:=AX.out 3 _ _ _ rfl hh.cls ((A5.out _ _).mpr rfl);go_simp;exact HK.out
 ·intro Lq wq xq hh;simp only [AV,(A5.out _ _).mp (hh.v 3)];refine Reg.go rfl ?_;have HK:=AX.out 4 _ _ _ rfl hh.cls ((Bc.out _ _).mpr rfl);go_simp;exact HK.out
 ·intro Lq wq xq hh;simp only [AV,(Bc.out _ _).mp (hh.v 4)];refine Reg.go rfl ?_;have hc:AZ Lq (xq 9) wq:=hh.cls;rw [AW.out] at hc;have hq:=DW.out.below (hc.2.1 (Mix.one_un (hh.notYet 10 (by kernel_rfl))));have q0:=hq.cells.2.2.2.2.1;clear hc;have HK:=AX.out 5 _ _ _ rfl hh.cls ((A9.out _ _).mpr rfl);go_simp;exact HK.out
 ·intro Lq wq xq hh;simp only [AV];refine Reg.go rfl ?_;have HK:=AX.out 6 _ _ _ rfl hh.cls ((Ba.out _ _).mpr rfl);go_simp;exact HK.out
 ·intro Lq wq xq hh;simp only [AV,(Ba.out _ _).mp (hh.v 6)];refine Reg.go rfl ?_;have HK:=AX.out 7 _ _ _ rfl hh.cls ((A1.out _ _).mpr rfl);go_simp;exact HK.out
 ·intro Lq wq xq hh;simp only [AV,(A1.out _ _).mp (hh.v 7)];refine Reg.go rfl ?_;have HK:=AX.out 8 _ _ _ rfl hh.cls ((A7.out _ _).mpr rfl);go_simp;exact HK.out
 ·intro Lq wq xq hh;simp only [AV,(A7.out _ _).mp (hh.v 8)];refine Reg.go rfl ?_;unfold Reg.upon;have hc:AZ Lq (xq 9) wq:=hh.cls;rw [AW.out] at hc;have hb:=hc.2.1 (Mix.one_un (hh.notYet 10 (by kernel_rfl)));have hq:=kd (DW.out.below hb);go_simp;refine hq.mono ?_;rintro e w2 ⟨v9,rfl,ho,b9⟩;have hH:HeldE (aF .i32) (fun b=>w5.heap.size<=b) w2 v9 l2:=(HeldE.ownedInts ho).zone fun b _ hz=>Nat.le_trans hb.size hz
  have hF:AZ (Lq.setIfInBounds 9 true) v9 w2:=by
   rw [AW.out];refine ⟨hc.1.trans (.ofBelow b9),fun _=>hb.trans (b9.mono hb.size),fun _ _=>hH,fun e=>?_,fun e=>?_⟩
   ·rw [Mix.one_ne (by decide),Mix.one_un (hh.notYet 10 (by kernel_rfl))] at e;exact absurd e (by decide)
   ·rw [Mix.one_ne (by decide),Mix.one_un (hh.notYet 13 (by kernel_rfl))] at e;exact absurd e (by decide)
  exact ⟨_,rfl,hF,(by rw [Be.out];trivial),(by rw [Bi.out];trivial)⟩
 ·intro Lq wq xq hh;have d9:=(Be.out _ _).mp (hh.v 9);simp only [AV,(A3.out _ _).mp (hh.v 1),(A9.out _ _).mp (hh.v 5)];refine Reg.go rfl ?_;unfold Reg.upon;have hc:AZ Lq (xq 9) wq:=hh.cls;rw [AW.out] at hc;have hb:=hc.2.1 hh.un;have ht:=hc.2.2.1 (hh.isDone 9 (by kernel_rfl)) hh.un;have hp:=OI.out.below hb;have hw:=DW.out.below hb;go_simp;refine (JY.out wq (xq 9) hp (pS OI.out ht)).mono ?_;rintro e w2 ⟨rfl,R2,k1,k2,k3⟩;have hF:AZ (Lq.setIfInBounds 10 true) (xq 9) w2:=by
   rw [AW.out];refine ⟨hc.1.trans (k2.mono fun b _ e=>.inl (PZ.from (RowsFrom.self _ _) hb.size b e)),fun e=>?_,fun _ e=>?_,fun _ _=>⟨R2,k1,⟨k2.keep.has hw.1 (sB hp hw.1),hw.2⟩,(RowsFrom.self w5 R).trans k3 hb.size⟩,fun e=>?_⟩
   ·rw [Mix.one_set (by rw [hh.size];decide)] at e;exact absurd e (by decide)
   ·rw [Mix.one_set (by rw [hh.size];decide)] at e;exact absurd e (by decide)
   ·rw [Mix.one_ne (by decide),Mix.one_un (hh.notYet 13 (by kernel_rfl))] at e;exact absurd e (by decide)
  exact ⟨_,rfl,hF,(by rw [A0.out]),(by rw [Bi.out];trivial)⟩
 ·intro Lq wq xq hh;simp only [AV,(A2.out _ _).mp (hh.v 0)];refine Reg.go rfl ?_;have HK:=AX.out 11 _ _ _ rfl hh.cls ((Bg.out _ _).mpr rfl);go_simp;exact HK.out
 ·intro Lq wq xq hh;simp only [AV,(Bg.out _ _).mp (hh.v 11)];refine Reg.go rfl ?_;have HK:=AX.out 12 _ _ _ rfl hh.cls ((Bk.out _ _).mpr rfl);go_simp;exact HK.out
 ·intro Lq wq xq hh;simp only [AV,(A0.out _ _).mp (hh.v 10),(Bk.out _ _).mp (hh.v 12)];refine Reg.go rfl ?_;unfold Reg.upon;have hc:AZ Lq (xq 9) wq:=hh.cls;rw [AW.out] at hc;obtain ⟨R2,k1,k2,k3⟩:=hc.2.2.2.1 (hh.isDone 10 (by kernel_rfl)) hh.un;obtain ⟨_,_,_,_,_,s0,s1,s2⟩:=k2.cells;have f0:=k2.1.free 21;have f1:=k2.1.free 22;have f2:=k2.1.free 23;have hpl:=k2.place KR KC false;have hF:AZ (Lq.setIfInBounds 13 true) (xq 9) (((wq.setCell ⟨g,21,none⟩ (.int .i64 KR)).setCell ⟨g,22,none⟩ (.int .i64 KC)).setCell ⟨g,23,none⟩ (.bool false)):=by
   rw [AW.out];refine ⟨hc.1.trans (hpl.2.mono fun b _ e=>.inr e),fun e=>?_,fun _ e=>?_,fun _ e=>?_,fun _=>⟨R2,k1.apart JC.out k2.1 hpl.2,hpl.1,k3⟩⟩
   ·rw [Mix.one_ne (by decide),hh.isDone 10 (by kernel_rfl)] at e;exact absurd e (by decide)
   ·rw [Mix.one_ne (by decide),hh.isDone 10 (by kernel_rfl)] at e;exact absurd e (by decide)
   ·rw [Mix.one_set (by rw [hh.size];decide)] at e;exact absurd e (by decide)
  have hE:Bw 13 undef (((wq.setCell ⟨g,21,none⟩ (.int .i64 KR)).setCell ⟨g,22,none⟩ (.int .i64 KC)).setCell ⟨g,23,none⟩ (.bool false)):=by rw [Bj.out]
  have hX:BA wq (((wq.setCell ⟨g,21,none⟩ (.int .i64 KR)).setCell ⟨g,22,none⟩ (.int .i64 KC)).setCell ⟨g,23,none⟩ (.bool false)):=by rw [Bi.out];trivial
  clear hc k1 k2 k3 hpl;go_simp;exact ⟨hF,hE,hX⟩
 intro xq DY Bp BD;rw [AW.out] at Bp;simp only [AV];clear BD AV AX Bd Bm Bn By AW Bi Bv Bl A2 A3 A4 A5 Bc A9 Ba A1 A7 Be A0 Bg Bk Bj;obtain ⟨u9,_,_,_,h9⟩:=Bp;obtain ⟨R2,k1,k2,k3⟩:=h9 (by kernel_rfl);have HF:=ab (show WDo Yo w B gp gg gr wd g R Ls au (l++[bg x]) pc (cw || dC a b (bg x) br pc ea) ar ac false DY from by
  obtain ⟨t1,t2,t3,t4,t5,t6,t7,t8⟩:=PO.out;rw [t3] at k2;rw [t4,t5,t7,t8] at k1;rw [t5,t6] at k2;rw [t1,t2] at k1 k2;exact ⟨R2,k1,k2,Gf.out.trans (u9.mono fun b _ e=>by rcases e with e | e;exact .inl (PZ.from (RowsFrom.self _ _) Gf.out.size b e);exact .inr e),(RowsFrom.self w R).trans k3 Gf.out.size⟩)
 clear u9 h9 k1 k2 k3;go_wp2;go_ret;exact ⟨af,HF.out⟩
theorem rG(g:Nat)(l:List Int)(a b cw:Bool)(wv0 ar ac:Int)(ap:Bool)(p:Option Addr)(x br:Int)(pc:Bool)(cv ea:Int)(w:World)(hw:WAt w g l a b cw wv0 ar ac ap)(hl:l.length=16):Calls Tryz.prog 16 #[.pointer (some ⟨g,0,none⟩),.pointer p,.int .i32 x,.agg #[.int .i64 br,.bool pc,.int .i64 cv,.int .i64 ea]] w (Gives w (.bool false)):=by
 obtain ⟨W1,hW1,hp,hb⟩:=m5 w br pc cv ea;have HB:=ab hb;have OQ:=ab (kc (hw.below hb) true (by simp;omega));clear hp hb hw hl
 go_enter Tryz.func16,Tryz.ntmps16
 go_upto_region 1 with (fail)
 rw [<-hW1];clear hW1
 go_wp2_with fail
 refine OQ.out.mono ?_;rintro e wz ⟨rfl,rfl⟩;go_wp2;go_ret;exact ⟨af,HB.out⟩
theorem wV(g:Nat)(l:List Int)(a b cw:Bool)(wv0 ar ac:Int)(ap:Bool)(w:World)(hw:WAt w g l a b cw wv0 ar ac ap):Calls Tryz.prog 22 #[.pointer (some ⟨g,0,none⟩)] w (j6 21 .i32 w l):=by
 have HT:=ab (kd hw);clear hw
 go_enter Tryz.func22,Tryz.ntmps22
 go_wp2_with fail
 refine HT.out.mono ?_;rintro e w1 ⟨v1,rfl,ho,hb⟩;have HF:=ab (And.intro ho hb);clear ho hb;go_wp2;go_ret;exact ⟨_,af,HF.out.1,HF.out.2⟩
theorem wW(w:World):Calls Tryz.prog 22 #[.pointer none] w (fun e w'=>e=.returned (.slice none 0 0)/\w=w'):=by
 go_enter Tryz.func22,Tryz.ntmps22
 go_wp2;go_ret;exact ⟨af,rfl⟩
def eJ(xs:List Int)(n:Nat):List Int:=(xs.take n).map bg
theorem qm(xs:List Int)(n:Nat)(h:n<=xs.length):(eJ xs n).length=n:=by unfold eJ;rw [List.length_map,List.length_take];omega
section
theorem mZ{xs ys:List Int}{ps qs:List Pr}(k:Nat)(h:∀ i,i<k->xs.getD i 0=ys.getD i 0/\ps.getD i Pr.none=qs.getD i Pr.none):iZ xs ps k=iZ ys qs k:=by
 induction k with
 |zero=>rfl
 |succ k ih =>
  show (iZ xs ps k || el xs ps k)=(iZ ys qs k || el ys qs k);rw [ih fun i hi=>h i (by omega)];have e1:=h k (by omega);have e2:gN ps k=gN qs k:=by
   cases k with
   | zero=>rfl
   | succ j=>show (ps.getD j Pr.none).pc=(qs.getD j Pr.none).pc;rw [(h j (by omega)).2]
  unfold el;rw [e1.1,e1.2,e2]
def cwW(xs:List Int)(ps:List Pr)(k:Nat):Bool:=iZ (xs.map bg) ps k
theorem ju(xs:List Int)(i:Nat)(h:i<xs.length):(xs.map bg).getD i 0=bg (xs.getD i 0):=by
 simp [List.getD,List.getElem?_eq_getElem h]
theorem lP{α:Type}(l:List α)(d:α)(n i:Nat)(h:i<n):(l.take n).getD i d=l.getD i d:=by
 simp [List.getD,List.getElem?_take,h]
theorem sA(xs:List Int)(ps:List Pr)(h:0<xs.length):cwW xs ps 1=dC false false (bg (xs.getD 0 0)) (ps.getD 0 Pr.none).br (ps.getD 0 Pr.none).pc (ps.getD 0 Pr.none).ea:=by
 show (false || el (xs.map bg) ps 0)=_;unfold el gN;rw [ju xs 0 h]
 rfl
theorem pQ(xs:List Int)(ps:List Pr)(k:Nat)(h0:0<k)(h:k<xs.length):cwW xs ps (k+1)=(cwW xs ps k || dC true (gN ps k) (bg (xs.getD k 0)) (ps.getD k Pr.none).br (ps.getD k Pr.none).pc (ps.getD k Pr.none).ea):=by
 show (iZ (xs.map bg) ps k || el (xs.map bg) ps k)=_;unfold el;rw [ju xs k h,decide_eq_true h0]
 rfl
theorem m3(xs:List Int)(k:Nat)(h:k<xs.length):eJ xs (k+1)=eJ xs k++[bg (xs.getD k 0)]:=iI xs k h
theorem pR(xs:List Int)(h:0<xs.length):eJ xs 1=[bg (xs.getD 0 0)]:=by rw [m3 xs 0 h];rfl
def GrowAt(Yo:an)(w:World)(B gp gg gr wd g:Nat)(R:List Rw)(Ls:List Ln)(r2 c2:Nat)(pd2 au:Bool)(xs:List Int)(ps:List Pr)(K:Nat):Prop :=
 PenY Yo w B gp gg gr wd R (fL Ls wd r2 c2 pd2 au (gwI (cwW xs ps K)) (eJ xs K)) (fx Ls wd r2 c2 pd2 au (gwI (cwW xs ps K)):Nat) (eE (dE wd c2 pd2 au (gwI (cwW xs ps K)):Nat) (cx wd (gwI (cwW xs ps K))) wd) (eF (dE wd c2 pd2 au (gwI (cwW xs ps K)):Nat) (cx wd (gwI (cwW xs ps K))) wd au) au /\
 WAt w g (eJ xs K) true (gN ps K) (cwW xs ps K) (gwI (cwW xs ps K)) (fx Ls wd r2 c2 pd2 au (gwI (cwW xs ps K)):Nat) (dE wd c2 pd2 au (gwI (cwW xs ps K)):Nat) false
section
variable {Yo : an} {w w' : World} {B gp gg gr wd g : Nat} {R : List Rw} {Ls : List Ln} {r2 c2 : Nat} {pd2 au : Bool} {xs : List Int} {ps : List Pr} {K : Nat}
theorem GrowAt.below(h:GrowAt Yo w B gp gg gr wd g R Ls r2 c2 pd2 au xs ps K)(hb:Below w.heap.size w w'):GrowAt Yo w' B gp gg gr wd g R Ls r2 c2 pd2 au xs ps K:=⟨h.1.below hb,h.2.below hb⟩
theorem GrowAt.first(hx:0<xs.length)(h:WDo Yo w B gp gg gr wd g R Ls au [bg (xs.getD 0 0)] (ps.getD 0 Pr.none).pc (dC false false (bg (xs.getD 0 0)) (ps.getD 0 Pr.none).br (ps.getD 0 Pr.none).pc (ps.getD 0 Pr.none).ea) r2 c2 pd2 w'):∃ R1,GrowAt Yo w' B gp gg gr wd g R1 Ls r2 c2 pd2 au xs ps 1/\Upd (fun q=>PZ w gp gr R q\/q=g) w w'/\RowsFrom w R R1:=by
 obtain ⟨R1,h1,h2,h3,h4⟩:=h;rw [<-sA xs ps hx,<-pR xs hx] at h1;rw [<-sA xs ps hx,<-pR xs hx] at h2;exact ⟨R1,⟨h1,h2⟩,h3,h4⟩
theorem wT(a b:Bool):gwI a<=gwI (a || b):=by cases a <;> cases b <;> decide
theorem GrowAt.next(hr:r2<Ls.length)(hc:c2<wd)(h0:0<K)(hx:K<xs.length)(h:WDo Yo w B gp gg gr wd g R (fL Ls wd r2 c2 pd2 au (gwI (cwW xs ps K)) (eJ xs K)) au (eJ xs K++[bg (xs.getD K 0)]) (ps.getD K Pr.none).pc (cwW xs ps K || dC true (gN ps K) (bg (xs.getD K 0)) (ps.getD K Pr.none).br (ps.getD K Pr.none).pc (ps.getD K Pr.none).ea) (fx Ls wd r2 c2 pd2 au (gwI (cwW xs ps K))) (dE wd c2 pd2 au (gwI (cwW xs ps K))) false w') :
  ∃ R1,GrowAt Yo w' B gp gg gr wd g R1 Ls r2 c2 pd2 au xs ps (K+1)/\Upd (fun q=>PZ w gp gr R q\/q=g) w w'/\RowsFrom w R R1:=by
 obtain ⟨R1,h1,h2,h3,h4⟩:=h;have hm:gwI (cwW xs ps K)<=gwI (cwW xs ps (K+1)):=by rw [pQ xs ps K h0 hx];exact wT _ _
 rw [<-pQ xs ps K h0 hx,<-m3 xs K hx] at h1 h2;obtain ⟨e1,e2,e3⟩:=uR Ls wd r2 c2 pd2 au (gwI (cwW xs ps K)) (gwI (cwW xs ps (K+1))) (eJ xs K) (eJ xs (K+1)) hr hc hm;rw [e1,e2,e3] at h1;rw [e2,e3] at h2;exact ⟨R1,⟨h1,h2⟩,h3,h4⟩
end
def LoopAt(W1:World)(BP gp gg gr wd b8:Nat)(Ls:List Ln)(r2 c2:Nat)(pd2 au:Bool)(xs:List Int)(ps:List Pr)(bx:List Value)(K g:Nat)(w:World):Prop :=
 (∃ R,GrowAt (fun b=>True/\b≠g) w BP gp gg gr wd g R Ls r2 c2 pd2 au xs ps K)/\Has w b8 bx 43/\Below W1.heap.size W1 w/\g≠b8/\BP<=g
section
variable {W1 w w' : World} {BP gp gg gr wd b8 : Nat} {Ls : List Ln} {r2 c2 : Nat} {pd2 au : Bool} {xs : List Int} {ps : List Pr} {bx : List Value} {K g : Nat}
theorem LoopAt.below(h:LoopAt W1 BP gp gg gr wd b8 Ls r2 c2 pd2 au xs ps bx K g w)(hb:Below w.heap.size w w'):LoopAt W1 BP gp gg gr wd b8 Ls r2 c2 pd2 au xs ps bx K g w':=by
 obtain ⟨⟨R,h1⟩,h2,h3,h4,h5⟩:=h;exact ⟨⟨R,h1.below hb⟩,h2.below hb h2.lt,h3.trans (hb.mono h3.size),h4,h5⟩
end
end
section
structure Pn where
 L:List Ln
 r:Int
 c:Int
 pd:Bool
 au:Bool
def Pn.r2(p:Pn):Nat:=(inI p.r (ay p.L.length)).toNat
def Pn.c2(p:Pn)(wd:Nat):Nat:=(inI p.c (ay wd)).toNat
def Pn.pd2(p:Pn)(wd:Nat):Bool:=cI p.c p.pd wd
abbrev zX(Yo:an)(w:World)(B gp gg gr wd:Nat)(R:List Rw)(p:Pn):Prop:=PenY Yo w B gp gg gr wd R p.L p.r p.c p.pd p.au
def vM(wd:Nat)(p:Pn)(n:Int)(t:List Int):Pn :=
 ⟨fL p.L wd p.r2 (p.c2 wd) (p.pd2 wd) p.au n t,(fx p.L wd p.r2 (p.c2 wd) (p.pd2 wd) p.au n:Nat),eE (dE wd (p.c2 wd) (p.pd2 wd) p.au n:Nat) (cx wd n) wd,eF (dE wd (p.c2 wd) (p.pd2 wd) p.au n:Nat) (cx wd n) wd p.au,p.au⟩
def doP(wd:Nat)(p:Pn)(k:Int):Pn:=⟨ctL p.L p.r2 k,ctR p.L p.r p.r2 k,ctC p.c (p.c2 wd) k,ctP p.pd k,p.au⟩
def clN(t:List Int):Nat:=min t.length 16
def clW(t:List Int):Int:=gwI (cwW t (aq t) (clN t))
def putC(wd:Nat)(p:Pn)(t:List Int):Pn:=if bT (t.getD 0 0)=true then t.foldl (doP wd) p else vM wd p (clW t) (eJ t (clN t))
def bP(wd:Nat)(p:Pn)(cs:List (List Int)):Pn:=cs.foldl (putC wd) p
theorem ie(wd:Nat)(p:Pn)(cs:List (List Int))(t:List Int):bP wd p (cs++[t])=putC wd (bP wd p cs) t:=by unfold bP;rw [List.foldl_append];rfl
def PnOk(wd n:Nat)(p:Pn):Prop:=p.L.length=n/\∀ i,i<p.L.length->(p.L.getD i zl).1.length=wd
theorem Pn.nat{p:Pn}{wd:Nat}(h0:0<p.L.length)(h1:p.L.length<=1024)(w0:0<wd)(w1:wd<=1024):inI p.r (ay p.L.length)=(p.r2:Int)/\inI p.c (ay wd)=(p.c2 wd:Int)/\cI p.c p.pd wd=p.pd2 wd/\p.r2<p.L.length/\p.c2 wd<wd:=by
 obtain ⟨a,ha,ha2⟩:=yc p.r h0 h1;obtain ⟨b,hb,hb2⟩:=yc p.c w0 w1;have ea:p.r2=a:=by unfold Pn.r2;rw [ha];rfl
 have eb:p.c2 wd=b:=by unfold Pn.c2;rw [hb];rfl
 rw [ea,eb];exact ⟨ha,hb,rfl,ha2,hb2⟩
section
variable {wd n : Nat} {p : Pn}
def fy(wd n:Nat):Prop:=0<n/\n<=1000/\0<wd/\wd<=1024
theorem PnOk.even(h:PnOk wd n p)(hs:fy wd n):Even p.L wd:=⟨by rw [h.1];exact hs.1,by rw [h.1];exact hs.2.1,hs.2.2.1,hs.2.2.2,h.2⟩
theorem PnOk.of(h:Even p.L wd):PnOk wd p.L.length p/\fy wd p.L.length:=⟨⟨rfl,h.2.2.2.2⟩,h.1,h.2.1,h.2.2.1,h.2.2.2.1⟩
theorem PnOk.nat(h:PnOk wd n p)(hs:fy wd n):inI p.r (ay p.L.length)=(p.r2:Int)/\inI p.c (ay wd)=(p.c2 wd:Int)/\cI p.c p.pd wd=p.pd2 wd/\p.r2<p.L.length/\p.c2 wd<wd :=
 p.nat (by rw [h.1];exact hs.1) (by rw [h.1];have:=hs.2.1;omega) hs.2.2.1 hs.2.2.2
theorem PnOk.put(h:PnOk wd n p)(hs:fy wd n)(k:Int)(t:List Int):PnOk wd n (vM wd p k t):=by
 obtain ⟨_,_,_,hr,hc⟩:=h.nat hs;have he:=xd (c:=p.c2 wd) (h.even hs) (p.pd2 wd) p.au k t hr;have hl:=(rK (Ls:=p.L) (p.pd2 wd) p.au k t hr hc).2.2.2;exact ⟨by show (fL _ _ _ _ _ _ _ _).length=n;rw [hl];exact h.1,he.2.2.2.2⟩
theorem PnOk.do_(h:PnOk wd n p)(hs:fy wd n)(k:Int):PnOk wd n (doP wd p k):=by
 refine ⟨by show (ctL _ _ _).length=n;rw [Ah];exact h.1,?_⟩;show ∀ i,i<(ctL p.L p.r2 k).length->((ctL p.L p.r2 k).getD i zl).1.length=wd;unfold ctL
 by_cases e:k=10
 ·rw [if_pos e];exact ((h.even hs).down p.r2).2.2.2.2
 ·rw [if_neg e];exact h.2
theorem PnOk.dos(hs:fy wd n):∀ (t:List Int) (p:Pn),PnOk wd n p->PnOk wd n (t.foldl (doP wd) p)
 | [],_,h=>h
 | k :: t,_,h=>PnOk.dos hs t _ (h.do_ hs k)
theorem PnOk.putC(h:PnOk wd n p)(hs:fy wd n)(t:List Int):PnOk wd n (putC wd p t):=by
 unfold Go.Proofs.YtoeggiplcaegoaaGreatDoor.putC
 split
 ·exact PnOk.dos hs t p h
 ·exact h.put hs _ _
theorem PnOk.lay(hs:fy wd n):∀ (cs:List (List Int)) (p:Pn),PnOk wd n p->PnOk wd n (bP wd p cs)
 | [],_,h=>h
 | t :: cs,_,h=>PnOk.lay hs cs _ (h.putC hs t)
end
theorem yQ(wd:Nat)(p:Pn){xs:List Int}{r:Int}(hr:bT r=true):bP wd p (bJ (xs++[r]))=doP wd (bP wd p (bJ xs)) r:=by
 rw [kQ (sx xs r),ie]
 cases hj:dL xs r with
 |false =>
  rw [(fQ hj).1,(fQ hj).2];unfold putC;rw [if_pos (show bT ([r].getD 0 0)=true from hr)]
  rfl
 |true =>
  obtain ⟨h1,_,h3⟩:=vT hr hj;rw [(ig hj).1,(ig hj).2,kQ h3,ie,h1]
  rfl
theorem yR(wd:Nat)(p:Pn){xs:List Int}{r:Int}(hj:dL xs r=false):bP wd p (dx (xs++[r]))=bP wd p (bJ xs)/\aY (xs++[r])=[r]:=by
 rw [(fQ hj).1];exact ⟨rfl,(fQ hj).2⟩
theorem vN(wd:Nat)(p:Pn){xs:List Int}(ho:cm xs=true):bP wd p (bJ xs)=vM wd (bP wd p (dx xs)) (clW (aY xs)) (eJ (aY xs) (clN (aY xs))):=by
 have h0:xs≠[]:=by rintro rfl;cases ho
 rw [kQ h0,ie]
 conv=>lhs;unfold putC
 rw [(mM _ xs rfl ho).1]
 rfl
abbrev GrowP(Yo:an)(w:World)(B gp gg gr wd g:Nat)(R:List Rw)(p:Pn)(t:List Int):Prop:=GrowAt Yo w B gp gg gr wd g R p.L p.r2 (p.c2 wd) (p.pd2 wd) p.au t (aq t) (clN t)
theorem GrowP.pen{Yo:an}{w:World}{B gp gg gr wd g:Nat}{R:List Rw}{p:Pn}{t:List Int}(h:GrowP Yo w B gp gg gr wd g R p t):zX Yo w B gp gg gr wd R (vM wd p (clW t) (eJ t (clN t))):=h.1
theorem tq(t:List Int)(r:Int)(K:Nat)(h:K<=t.length):eJ (t++[r]) K=eJ t K:=by unfold eJ;rw [List.take_append_of_le_length h]
theorem tr{α:Type}(t:List α)(r d:α)(i:Nat)(h:i<t.length):(t++[r]).getD i d=t.getD i d:=by simp [List.getD,List.getElem?_append_left h]
theorem vO{α:Type}(t:List α)(r d:α):(t++[r]).getD t.length d=r:=by simp [List.getD]
theorem vP(t:List Int)(r:Int)(K:Nat)(h:K<=t.length):cwW (t++[r]) (aq (t++[r])) K=cwW t (aq t) K:=by
 unfold cwW;refine mZ K fun i hi=>⟨?_,gl t [r] i (by omega)⟩
 rw [List.map_append,List.map_singleton];exact tr _ _ _ _ (by rw [List.length_map];omega)
theorem vQ(t:List Int)(r:Int)(K:Nat)(h:K<=t.length):gN (aq (t++[r])) K=gN (aq t) K:=by
 cases K with
 | zero=>rfl
 | succ k=>show ((aq (t++[r])).getD k Pr.none).pc=((aq t).getD k Pr.none).pc;rw [gl t [r] k (by omega)]
theorem mH{Yo:an}{w:World}{B gp gg gr wd g:Nat}{R:List Rw}{Ls:List Ln}{r2 c2:Nat}{pd2 au:Bool}{t:List Int}{r:Int}{K:Nat}(hk:K<=t.length):GrowAt Yo w B gp gg gr wd g R Ls r2 c2 pd2 au (t++[r]) (aq (t++[r])) K=GrowAt Yo w B gp gg gr wd g R Ls r2 c2 pd2 au t (aq t) K:=by
 unfold GrowAt;rw [vP t r K hk,tq t r K hk,vQ t r K hk]
theorem tw{Yo:an}{w:World}{B gp gg gr wd g:Nat}{R:List Rw}{p:Pn}{t:List Int}{r:Int}(ht:16<=t.length)(h:GrowP Yo w B gp gg gr wd g R p t):GrowP Yo w B gp gg gr wd g R p (t++[r]):=by
 have e1:clN t=16:=by unfold clN;omega
 have e2:clN (t++[r])=16:=by unfold clN;rw [List.length_append,List.length_singleton];omega
 unfold GrowP at h ⊢;rw [e2,mH ht,<-e1];exact h
end
section
variable {Xo : an}
theorem GridY.apart2{Yo:an}{w w':World}{B gg gr wd g:Nat}{Rs:List Rw}{C:List Value}(h:GridY Yo w B gg gr wd Rs)(hne:∀ b,Yo b->b≠g)(hg:Has w g C 143)(hu:Upd (fun b=>b=g) w w'):GridY Yo w' B gg gr wd Rs:=by
 have ho:=h.other hg (by decide) (by decide) (by decide) (by decide);obtain ⟨Z,cap,h1,h2,h3,h4,h5,h6,h7,h8,h9,h10,hY⟩:=h;have hk:=hu.keep;refine ⟨Z,cap,fun b hz=>⟨(h1 b hz).1,Nat.lt_of_lt_of_le (h1 b hz).2 hu.size⟩,hk.has h2 (fun e=>ho.1 e.symm),h3,?_,h5,h6,h7.upd hu (fun b hz e=>hne b (hY b (.inl hz)) e) (fun i hi=>⟨fun e=>(ho.2.2 i hi).1 e.symm,fun e=>(ho.2.2 i hi).2 e.symm⟩),h8,h9,h10,fun b hb=>hY b (hb.imp id (Nat.le_trans hu.size))⟩;exact cS (hk.own h4.ptrs fun b hb e=>by
  have:gr=b:=by simpa [Value.ownBlock] using hb
  exact ho.2.1 (by rw [this];exact e.symm))
theorem PenY.apart2{Yo:an}{w w':World}{B gp gg gr wd g:Nat}{Rs:List Rw}{Ls:List Ln}{r c:Int}{pd au:Bool}{C:List Value}(h:PenY Yo w B gp gg gr wd Rs Ls r c pd au)(hne:∀ b,Yo b->b≠g)(hg:Has w g C 143)(hu:Upd (fun b=>b=g) w w'):PenY Yo w' B gp gg gr wd Rs Ls r c pd au :=
 ⟨hu.keep.has h.1 (fun e=>by subst e;exact aH hg h.1 (by decide)),h.2.1,h.2.2.1.apart2 hne hg hu,h.2.2.2⟩
theorem su(Ls:List Ln)(wd r c:Nat)(pd au:Bool)(n:Int)(xs:List Int):(fL Ls wd r c pd au n xs).length=Ls.length:=by
 unfold fL;rw [cY];have h1:(p1L Ls r pd).length=Ls.length:=by
  unfold p1L
  split
  ·exact iR _ _
  ·rfl
 have h2:∀ (M:List Ln) (k:Int) (r c:Nat),(p2L wd k M r c au).length=M.length:=fun M k r c=>by
  unfold p2L
  repeat' split
  all_goals first | rfl | rw [iR,cY]
 rw [h2,h1]
def FPen(Xo:an)(w:World)(B gp gg gr wd gf:Nat)(R:List Rw)(p:Pn)(xs:List Int)(op:Option Nat):Prop :=
 ∃ Yo:an,(∀ x,Yo x->x≠gf/\Xo x)/\(cm xs=false->op=none/\zX Yo w B gp gg gr wd R (bP wd p (bJ xs))) /\
  (cm xs=true->∃ g,op=some g/\(∀ x,Yo x->x≠g)/\GrowP Yo w B gp gg gr wd g R (bP wd p (dx xs)) (aY xs))
def FZ(w:World)(gp gr:Nat)(R:List Rw)(op:Option Nat)(b:Nat):Prop:=PZ w gp gr R b\/op=some b
def FDo(Xo:an)(w:World)(B gp gg gr wd gf:Nat)(R:List Rw)(op:Option Nat)(p:Pn)(xs:List Int)(op':Option Nat)(w':World):Prop :=
 ∃ R',FPen Xo w' B gp gg gr wd gf R' p xs op'/\Upd (FZ w gp gr R op) w w'/\RowsFrom w R R'/\∀ g,op'=some g->op=some g\/w.heap.size<=g
theorem FZ.from{w w1:World}{gp gr:Nat}{R R1:List Rw}{op op1:Option Nat}(h:RowsFrom w R R1)(ho:∀ g,op1=some g->op=some g\/w.heap.size<=g)(hs:w.heap.size<=w1.heap.size)(b:Nat)(hb:FZ w1 gp gr R1 op1 b):FZ w gp gr R op b:=by
 rcases hb with e | e
 ·exact .inl (PZ.from h hs b e)
 ·rcases ho b e with e | e
  ·exact .inr e
  ·exact .inl (.inr (.inr (.inr e)))
section
variable {w w' : World} {B gp gg gr wd gf : Nat} {R : List Rw} {p : Pn} {xs : List Int} {op : Option Nat}
theorem FPen.pen(h:FPen Xo w B gp gg gr wd gf R p xs op):∃ Yo:an,(∀ x,Yo x->x≠gf/\Xo x)/\zX Yo w B gp gg gr wd R (bP wd p (bJ xs)):=by
 obtain ⟨Yo,h1,h2,h3⟩:=h;refine ⟨Yo,h1,?_⟩
 cases ho:cm xs with
 |false=>exact (h2 ho).2
 |true =>
  obtain ⟨g,_,_,hg⟩:=h3 ho;rw [vN wd p ho];exact hg.pen
theorem FPen.below(h:FPen Xo w B gp gg gr wd gf R p xs op)(hb:Below w.heap.size w w'):FPen Xo w' B gp gg gr wd gf R p xs op:=by
 obtain ⟨Yo,h1,h2,h3⟩:=h;exact ⟨Yo,h1,fun e=>⟨(h2 e).1,(h2 e).2.below hb⟩,fun e=>by obtain ⟨g,e1,e2,e3⟩:=h3 e;exact ⟨g,e1,e2,GrowAt.below e3 hb⟩⟩
theorem FPen.own(h:FPen Xo w B gp gg gr wd gf R p xs op){C:List Value}(hg:Has w gf C 143)(hu:Upd (fun b=>b=gf) w w'):FPen Xo w' B gp gg gr wd gf R p xs op:=by
 obtain ⟨Yo,h1,h2,h3⟩:=h;refine ⟨Yo,h1,fun e=>⟨(h2 e).1,(h2 e).2.apart2 (fun x e=>(h1 x e).1) hg hu⟩,fun e=>?_⟩;obtain ⟨g,e1,e2,e3⟩:=h3 e;exact ⟨g,e1,e2,e3.1.apart2 (fun x e=>(h1 x e).1) hg hu,hu.keep.has e3.2.1 (fun e=>by subst e;exact aH e3.2.1 hg (by decide)),e3.2.2⟩
theorem FPen.close(h:FPen Xo w B gp gg gr wd gf R p xs op):FPen Xo w B gp gg gr wd gf R (bP wd p (bJ xs)) [] none:=by
 obtain ⟨Yo,h1,h2⟩:=h.pen;exact ⟨Yo,h1,fun _=>⟨rfl,h2⟩,fun e=>by cases e⟩
theorem FPen.off(h:FPen Xo w B gp gg gr wd gf R p xs op){C:List Value}(hg:Has w gf C 143):¬ FZ w gp gr R op gf:=by
 obtain ⟨_,_,h2⟩:=h.pen;rintro (e | e)
 ·exact oV h2.any hg (by decide) (by decide) (by decide) (by decide) (by decide) e
 ·obtain ⟨Yo,h1,h2,h3⟩:=h
  cases ho:cm xs with
  |false=>rw [(h2 ho).1] at e;cases e
  |true =>
   obtain ⟨g,e1,_,e3⟩:=h3 ho;rw [e1] at e
   cases e
   exact aH e3.2.1 hg (by decide)
theorem yP(h:FPen Xo w B gp gg gr wd gf R p xs op){r:Int}(hr:bT r=true):Calls Tryz.prog 148 #[.pointer (some ⟨gp,0,none⟩),.int .i32 r] w (fun e w'=>e=.returned (.bool true)/\FDo Xo w B gp gg gr wd gf R op p (xs++[r]) none w'):=by
 obtain ⟨Yo,h1,h2⟩:=h.pen;have hs:=h2.sizes;obtain ⟨n1,n2,_,n4,n5⟩:=(bP wd p (bJ xs)).nat hs.1 hs.2.1 hs.2.2.1 hs.2.2.2.1;have hc:=yn B gp gg gr wd R _ _ _ _ _ r w h2 _ _ n1 n2 n4 n5;rw [hr] at hc;refine hc.mono ?_;rintro e w' ⟨rfl,R1,k1,k2,k3⟩;have hno:¬ cm (xs++[r])=true:=by rw [cV,hr];decide
 refine ⟨rfl,R1,⟨Yo,h1,fun _=>⟨rfl,?_⟩,fun e=>absurd e hno⟩,k2.mono fun b _ e=>.inl e,k3,fun g e=>by cases e⟩;rw [yQ wd p hr];exact k1
theorem vL(h:FPen Xo w B gp gg gr wd gf R p xs op)(Qz:gf<w.heap.size){r:Int}(hr:bT r=false)(hj:dL xs r=false):Calls Tryz.prog 15 #[.pointer (some ⟨gp,0,none⟩),.int .i32 r,.agg #[.int .i64 (bh r).br,.bool (bh r).pc,.int .i64 (bh r).cv,.int .i64 (bh r).ea]] w (fun e w'=>∃ g,e=.returned (.pointer (some ⟨g,0,none⟩))/\w.heap.size<=g/\FDo Xo w B gp gg gr wd gf R op p (xs++[r]) (some g) w'):=by
 obtain ⟨Yo,h1,h2⟩:=h.pen;have hs:=h2.sizes;obtain ⟨n1,n2,n3,n4,n5⟩:=(bP wd p (bJ xs)).nat hs.1 hs.2.1 hs.2.2.1 hs.2.2.2.1;obtain ⟨l1,l2⟩:=yR wd p hj;refine (rF B gp gg gr wd R _ _ _ _ _ r _ _ _ _ w h2 _ _ _ n1 n2 n3 n4 n5).mono ?_;rintro e w' ⟨g,rfl,K8,hd⟩;have hno:¬ cm (xs++[r])=false:=by rw [cV,hr];decide
 obtain ⟨R2,q1,q3,hR⟩:=GrowAt.first (xs:=[r]) (ps:=aq [r]) (by simp) hd;refine ⟨g,rfl,K8,R2,⟨fun b=>Yo b/\b≠g,fun x hx=>h1 x hx.1,fun e=>absurd e hno,fun _=>⟨g,rfl,fun x hx=>hx.2,?_⟩⟩,q3.mono fun b _ e=>by rcases e with e | e;exact .inl e;exact .inl (.inr (.inr (.inr (by omega)))),hR,fun g' e=>by cases e;exact .inr K8⟩;rw [l1,l2];exact q1
theorem sw(h:FPen Xo w B gp gg gr wd gf R p xs op)(ho:cm xs=true){r:Int}(hr:bT r=false)(hj:dL xs r=true):∃ g,op=some g/\Calls Tryz.prog 16 #[.pointer (some ⟨g,0,none⟩),.pointer (some ⟨gp,0,none⟩),.int .i32 r,.agg #[.int .i64 (bh r).br,.bool (bh r).pc,.int .i64 (bh r).cv,.int .i64 (bh r).ea]] w (fun e w'=>(∃ b,e=.returned (.bool b))/\FDo Xo w B gp gg gr wd gf R op p (xs++[r]) (some g) w'):=by
 obtain ⟨Yo,h1,_,h3⟩:=h;obtain ⟨g,rfl,hne,hg⟩:=h3 ho;refine ⟨g,rfl,?_⟩;obtain ⟨j1,j2⟩:=ig hj;have hno:¬ cm (xs++[r])=false:=by rw [cV,hr];decide
 have hh:=(mM _ xs rfl ho).2;have h0:0<(aY xs).length:=List.length_pos_iff.2 hh;have BC:∀ (w':World) (R':List Rw),GrowP Yo w' B gp gg gr wd g R' (bP wd p (dx xs)) (aY xs++[r])->FPen Xo w' B gp gg gr wd gf R' p (xs++[r]) (some g):=fun w' R' k =>
  ⟨Yo,h1,fun e=>absurd e hno,fun _=>⟨g,rfl,hne,by rw [j1,j2];exact k⟩⟩
 by_cases Mt:(aY xs).length<16
 ·have hK:clN (aY xs)=(aY xs).length:=by unfold clN;omega
  have hK2:clN (aY xs++[r])=(aY xs).length+1:=by unfold clN;rw [List.length_append,List.length_singleton];omega
  have hg2:GrowAt Yo w B gp gg gr wd g R (bP wd p (dx xs)).L (bP wd p (dx xs)).r2 ((bP wd p (dx xs)).c2 wd) ((bP wd p (dx xs)).pd2 wd) (bP wd p (dx xs)).au (aY xs++[r]) (aq (aY xs++[r])) (aY xs).length:=by
   rw [mH (Nat.le_refl _),<-hK];exact hg
  have hs:=hg2.1.sizes;rw [su] at hs;obtain ⟨n1,n2,n3,n4,n5⟩:=(bP wd p (dx xs)).nat hs.1 hs.2.1 hs.2.2.1 hs.2.2.2.1;have hpl:=rK (Ls:=(bP wd p (dx xs)).L) ((bP wd p (dx xs)).pd2 wd) (bP wd p (dx xs)).au (gwI (cwW (aY xs++[r]) (aq (aY xs++[r])) (aY xs).length)) (eJ (aY xs++[r]) (aY xs).length) n4 n5;have KP:(aY xs++[r]).length=(aY xs).length+1:=by simp
  have e1:(aY xs++[r]).getD (aY xs).length 0=r:=vO _ _ _;have e2:(aq (aY xs++[r])).getD (aY xs).length Pr.none=bh r:=eV _ _;have hj:=ui (Yo:=Yo) B gp gg gr wd R _ _ _ _ _ g (eJ (aY xs++[r]) (aY xs).length) true (gN (aq (aY xs++[r])) (aY xs).length) (cwW (aY xs++[r]) (aq (aY xs++[r])) (aY xs).length) _ _ _ r (bh r).br (bh r).pc (bh r).cv (bh r).ea w hg2.1 hg2.2 (by rw [qm _ _ (by omega)];exact Mt) (by rw [su];exact hpl.1) hpl.2.1 hne;refine hj.mono ?_;rintro e w' ⟨rfl,hd⟩;obtain ⟨R1,hg1,hu,hR⟩:=GrowAt.next (xs:=aY xs++[r]) (ps:=aq (aY xs++[r])) (K:=(aY xs).length) n4 n5 h0 (by omega) (by rw [e1,e2];exact hd);refine ⟨⟨_,rfl⟩,R1,BC w' R1 (by unfold GrowP;rw [hK2];exact hg1),hu.mono fun b _ e=>?_,hR,fun g' e=>.inl e⟩
  rcases e with e | e
  ·exact .inl e
  ·exact .inr (by rw [e])
 ·have hl:(eJ (aY xs) (clN (aY xs))).length=16:=by rw [qm _ _ (by unfold clN;omega)];unfold clN;omega
  refine (rG g _ _ _ _ _ _ _ _ (some ⟨gp,0,none⟩) r _ _ _ _ w hg.2 hl).mono ?_;rintro e w' ⟨rfl,hb⟩;exact ⟨⟨_,rfl⟩,R,BC w' R (tw (by omega) (GrowAt.below hg hb)),Upd.ofBelow hb |>.mono fun b _ e=>.inl (.inr (.inr (.inr e))),RowsFrom.self _ _,fun g' e=>.inl e⟩
end
end
section
variable {Xo : an}
section
theorem has_fx{w:World}{g:Nat}{X:FX}{l b h:Int}:FDec X w g l b h↔eK ⟨X.gp,l,b,h,X.op⟩ w g X.tl X.la X.cj X.pi X.od:=Iff.rfl
theorem ra(X:FY)(g:Nat)(tl:Bool)(la cj pi:Int)(od:Bool)(w:World)(h:eK X w g tl la cj pi od):Calls Tryz.prog 83 #[.pointer (some ⟨g,4,none⟩)] w (fun e w'=>e=.returned (.tuple #[])/\eK X w' g false 0 0 0 false/\But g w.heap.size w w'):=by
 have c0:=h.cell 4 _ rfl;have c1:=h.cell 5 _ rfl;have c2:=h.cell 6 _ rfl;have c3:=h.cell 7 _ rfl;have c4:=h.cell 8 _ rfl;have f0:=h.free 4;have f1:=h.free 5;have f2:=h.free 6;have f3:=h.free 7;have f4:=h.free 8;have HF:=ab (eG w g (.bool false) (.int .i64 0) (.int .u8 0) (.int .u8 0) (.bool false) h);clear h
 go_enter Tryz.func83,Tryz.ntmps83
 go_wp2;exact bodyPost_end (by kernel_rfl) rfl ⟨rfl,HF.out.1,HF.out.2⟩
theorem ls(X:FX)(g:Nat)(l b h:Int)(w:World)(hd:FDec X w g l b h):Calls Tryz.prog 26 #[.pointer (some ⟨g,0,none⟩)] w (fun e w'=>e=.returned (.tuple #[])/\FDec ⟨X.gp,false,0,0,0,false,.pointer none⟩ w' g l b h/\But g w.heap.size w w'):=by
 have c9:w.cell? ⟨g,9,none⟩=some X.op:=hd.cell 9 _ rfl;have f9:=hd.free 9;have h1:FDec ⟨X.gp,X.tl,X.la,X.cj,X.pi,X.od,.pointer none⟩ (w.setCell ⟨g,9,none⟩ (.pointer none)) g l b h:=hd.set 9 _;obtain ⟨w1,Da⟩:=ae (w.setCell ⟨g,9,none⟩ (.pointer none));have hb:But g w.heap.size w w1:=by rw [Da];exact (But.refl _ _ _).set _ _
 rw [<-Da] at h1;have HR:=ab (ra ⟨X.gp,l,b,h,.pointer none⟩ g X.tl X.la X.cj X.pi X.od w1 (has_fx.1 h1));have HB:=ab hb;have HW:=ab Da;obtain ⟨vo,NP⟩:=ae (X.op);rw [<-NP] at c9;clear hd h1 hb Da NP
 go_enter Tryz.func26,Tryz.ntmps26
 go_wp2_with fail
 rw [<-HW.out];refine HR.out.mono ?_;rintro e w2 ⟨rfl,h2,b2⟩;have HF:=ab (And.intro h2 (HB.out.trans (b2.mono HB.out.size)));clear h2 b2;go_wp2;exact bodyPost_end (by kernel_rfl) rfl ⟨rfl,HF.out.1,HF.out.2⟩
end
def fxs(gp:Nat)(xs:List Int)(op:Option Nat):FX:=⟨gp,o0 xs,pa xs,kK xs,kL xs,mv xs,cM op⟩
def FAt(Xo:an)(w:World)(B gp gg gr wd gf:Nat)(R:List Rw)(p:Pn)(xs:List Int)(s:St)(op:Option Nat):Prop:=FDec (fxs gp xs op) w gf s.1 s.2.1 s.2.2/\FPen Xo w B gp gg gr wd gf R p xs op
def FW(w:World)(gp gr gf:Nat)(R:List Rw)(op:Option Nat)(b:Nat):Prop:=FZ w gp gr R op b\/b=gf
def FGo(Xo:an)(w:World)(B gp gg gr wd gf:Nat)(R:List Rw)(op:Option Nat)(p:Pn)(xs:List Int)(s:St)(w':World):Prop :=
 ∃ R' op',FAt Xo w' B gp gg gr wd gf R' p xs s op'/\Upd (FW w gp gr gf R op) w w'/\RowsFrom w R R'/\∀ g,op'=some g->op=some g\/w.heap.size<=g
theorem FW.from{w w1:World}{gp gr gf:Nat}{R R1:List Rw}{op op1:Option Nat}(h:RowsFrom w R R1)(ho:∀ g,op1=some g->op=some g\/w.heap.size<=g)(hs:w.heap.size<=w1.heap.size)(b:Nat)(hb:FW w1 gp gr gf R1 op1 b):FW w gp gr gf R op b:=hb.imp (FZ.from h ho hs b) id
section
variable {w w1 w2 : World} {B gp gg gr wd gf : Nat} {R R1 : List Rw} {op op1 : Option Nat} {p p1 : Pn} {xs ys : List Int} {s t : St}
theorem FAt.below(h:FAt Xo w B gp gg gr wd gf R p xs s op)(hb:Below w.heap.size w w1):FAt Xo w1 B gp gg gr wd gf R p xs s op:=⟨Has.below h.1 hb h.1.lt,h.2.below hb⟩
theorem FAt.lt(h:FAt Xo w B gp gg gr wd gf R p xs s op):gf<w.heap.size:=h.1.lt
theorem FGo.self(h:FAt Xo w B gp gg gr wd gf R p xs s op)(hb:Below w.heap.size w w1):FGo Xo w B gp gg gr wd gf R op p xs s w1:=⟨R,op,h.below hb,(Upd.ofBelow hb).mono fun _ _ e=>.inl (.inl (.inr (.inr (.inr e)))),RowsFrom.self _ _,fun _ e=>.inl e⟩
theorem FGo.trans(hu:Upd (FW w gp gr gf R op) w w1)(hf:RowsFrom w R R1)(ho:∀ g,op1=some g->op=some g\/w.heap.size<=g)(k:FGo Xo w1 B gp gg gr wd gf R1 op1 p ys t w2):FGo Xo w B gp gg gr wd gf R op p ys t w2:=by
 obtain ⟨R2,op2,h1,h2,h3,h4⟩:=k;refine ⟨R2,op2,h1,hu.trans (h2.mono fun b _ e=>FW.from hf ho hu.size b e),hf.trans h3 hu.size,fun g e=>?_⟩
 rcases h4 g e with e | e
 ·exact ho g e
 ·exact .inr (Nat.le_trans hu.size e)
theorem yO{α:Type}{E:Elem α}{v:Value}{L:List α}{Z:an}(hv:HeldE E (fun b=>¬ FW w gp gr gf R op b/\Z b) w v L)(hu:Upd (FW w gp gr gf R op) w w1)(hf:RowsFrom w R R1)(ho:∀ g,op1=some g->op=some g\/w.heap.size<=g):HeldE E (fun b=>¬ FW w1 gp gr gf R1 op1 b/\Z b) w1 v L :=
 (hv.upd hu fun b hz e=>hz.1 e).zone fun b _ hz=>⟨fun e=>hz.1 (FW.from hf ho hu.size b e),hz.2⟩
end
section
variable {w w1 : World} {B gp gg gr wd gf : Nat} {R : List Rw} {op : Option Nat} {p : Pn} {xs : List Int} {s : St}
theorem FAt.cells(h:FAt Xo w B gp gg gr wd gf R p xs s op):w.cell? ⟨gf,0,none⟩=some (.pointer (some ⟨gp,0,none⟩))/\w.cell? ⟨gf,9,none⟩=some (cM op):=⟨h.1.cell 0 _ rfl,h.1.cell 9 _ rfl⟩
theorem FPen.turned(h:FPen Xo w B gp gg gr wd gf R p xs op){X:FX}{l b hh:Int}(hg:FDec X w gf l b hh)(hb:But gf w.heap.size w w1):FPen Xo w1 B gp gg gr wd gf R p xs op/\Upd (FW w gp gr gf R op) w w1/\RowsFrom w R R :=
 ⟨h.own hg (Upd.ofBut hb |>.mono fun b hb e=>e),Upd.ofBut hb |>.mono fun b _ e=>.inr e,RowsFrom.self _ _⟩
end
end
section
variable {Xo : an}
section
variable {w w1 w2 w3 w4 w5 : World} {B gp gg gr wd gf : Nat} {R : List Rw} {o o' : Option Nat} {p : Pn} {ys zs : List Int} {s : St}
theorem FDo.below(h:FDo Xo w B gp gg gr wd gf R o p zs o' w1)(hb:Below w1.heap.size w1 w2):FDo Xo w B gp gg gr wd gf R o p zs o' w2:=by
 obtain ⟨R',k1,k2,k3,k4⟩:=h;exact ⟨R',k1.below hb,k2.trans (Upd.ofBelow hb |>.mono fun b _ e=>.inl (.inr (.inr (.inr (Nat.le_trans k2.size e))))),k3,k4⟩
theorem FDo.block(hp:FPen Xo w B gp gg gr wd gf R p ys o){X:FX}{l b h:Int}(hd:FDec X w gf l b h)(k:FDo Xo w B gp gg gr wd gf R o p zs o' w1):FDec X w1 gf l b h:=by
 obtain ⟨_,_,k2,_⟩:=k;exact k2.keep.has hd (hp.off hd)
theorem nS(h:FAt Xo w B gp gg gr wd gf R p ys s o)(b1:Below w.heap.size w w1){X:FX}(h2:FDec X w2 gf s.1 s.2.1 s.2.2)(b2:But gf w1.heap.size w1 w2)(b3:Below w2.heap.size w2 w3)(k:FDo Xo w3 B gp gg gr wd gf R o p zs o' w4)(h5:FDec (fxs gp zs o') w5 gf s.1 s.2.1 s.2.2)(b5:But gf w4.heap.size w4 w5) :
  FGo Xo w B gp gg gr wd gf R o p zs s w5:=by
 obtain ⟨R',k1,k2,k3,k4⟩:=k;have hw4:FDec X w4 gf s.1 s.2.1 s.2.2:=by
  have hp3:=(((h.2.below b1).own (Has.below h.1 b1 h.1.lt) (Upd.ofBut b2)).below b3);exact k2.keep.has (Has.below h2 b3 h2.lt) (hp3.off (Has.below h2 b3 h2.lt))
 have hs3:w.heap.size<=w3.heap.size:=Nat.le_trans b1.size (Nat.le_trans b2.size b3.size);have hf:∀ b,FZ w3 gp gr R o b->FW w gp gr gf R o b:=fun b e=>.inl (FZ.from (RowsFrom.self w R) (fun _ e=>.inl e) hs3 b e)
 refine ⟨R',o',⟨h5,k1.own hw4 (Upd.ofBut b5)⟩,?_,(RowsFrom.self w R).trans k3 hs3,fun g e=>?_⟩
 ·have u1:Upd (FW w gp gr gf R o) w w1:=Upd.ofBelow b1 |>.mono fun b _ e=>.inl (.inl (.inr (.inr (.inr e))))
  have u2:Upd (FW w gp gr gf R o) w1 w2:=Upd.ofBut b2 |>.mono fun b _ e=>.inr e
  have u3:Upd (FW w gp gr gf R o) w2 w3:=Upd.ofBelow b3 |>.mono fun b _ e=>.inl (.inl (.inr (.inr (.inr (Nat.le_trans b1.size (Nat.le_trans b2.size e))))))
  have u4:Upd (FW w gp gr gf R o) w3 w4:=k2.mono fun b _ e=>hf b e
  have u5:Upd (FW w gp gr gf R o) w4 w5:=Upd.ofBut b5 |>.mono fun b _ e=>.inr e
  exact (((u1.trans u2).trans u3).trans u4).trans u5
 ·rcases k4 g e with e | e
  ·exact .inl e
  ·exact .inr (Nat.le_trans hs3 e)
theorem zW(gp:Nat)(ys:List Int){r:Int}(hr:bT r=true):fxs gp (ys++[r]) none=⟨gp,false,0,0,0,false,.pointer none⟩:=by
 obtain ⟨h1,h2,h3,h4,h5⟩:=yT (xs:=ys) hr;unfold fxs;rw [h1,h2,h3,h4,h5]
 rfl
theorem tp(h:FAt Xo w B gp gg gr wd gf R p ys s o){r:Int}(hr:bT r=false):Calls Tryz.prog 150 #[.pointer (some ⟨gf,4,none⟩),.agg #[.int .i64 (bh r).br,.bool (bh r).pc,.int .i64 (bh r).cv,.int .i64 (bh r).ea]] w (fun e w'=>e=.returned (.bool (dL ys r))/\FDec (fxs gp (ys++[r]) o) w' gf s.1 s.2.1 s.2.2/\But gf w.heap.size w w'):=by
 obtain ⟨b0,b1,b2,b3⟩:=zY ys;obtain ⟨n1,n2,n3,n4,n5⟩:=vS (xs:=ys) hr;refine (qr (X:=⟨gp,s.1,s.2.1,s.2.2,cM o⟩) gf (o0 ys) (pa ys) (kK ys) (kL ys) (mv ys) (bh r).br (bh r).pc (bh r).cv (bh r).ea w h.1 b0 b1 b2 b3).mono ?_;rintro e w' ⟨rfl,k1,k2⟩;refine ⟨by rw [<-tz hr];rfl,?_,k2⟩;have e1:fxs gp (ys++[r]) o=⟨gp,true,bQ r,dn (kK ys) (dy r),eB (kL ys) (bQ r) (aM tPict r),(bQ r == 6 && !mv ys),cM o⟩:=by
  unfold fxs;rw [n1,n2,n3,n4,n5]
 rw [e1];exact k1
end
theorem i9{Z:an}{w:World}{ao:Option Addr}{n cap:Nat}{L:List Int}(h:HeldE (aF .i32) Z w (.slice ao n cap) L):n=L.length/\n<=cap/\∀ i,i<L.length->∃ b off,ao=some ⟨b,off,none⟩/\b<w.heap.size/\w.cell? ⟨b,off+i,none⟩=some (.int .i32 (L.getD i 0)):=by
 obtain ⟨h1,h2,h3⟩:=h.spots;refine ⟨h1,h2,fun i hi=>?_⟩;obtain ⟨b,off,rfl,hb,hz,C,hC,hr⟩:=h3 i hi;have Mn:C=[.int .i32 (L.getD i 0)]:=hr;subst Mn;have h0:=hC 0 (by decide);refine ⟨b,off,rfl,hb,?_⟩
 simpa [aF] using h0
theorem mG(B gp gg gr wd gf:Nat)(R:List Rw)(p:Pn)(xs:List Int)(s:St)(op:Option Nat)(v:Value)(L:List Int)(w:World)(h:FAt Xo w B gp gg gr wd gf R p xs s op)(hv:HeldE (aF .i32) (fun b=>¬ FW w gp gr gf R op b) w v L) :
  Calls Tryz.prog 79 #[.pointer (some ⟨gf,0,none⟩),v] w (fun e w'=>e=.returned (.tuple #[])/\FGo Xo w B gp gg gr wd gf R op p (xs++L) s w'):=by
 have hmx:=hv.max;obtain ⟨ao,ca,rfl⟩:=hv.len;obtain ⟨n,hn⟩:=ae (L.length);have HN:=ab hn;have Jv:=ab hmx;rw [<-hn] at hv ⊢;have HV:=ab hv;have H:=ab h;clear h hv hn hmx
 go_enter Tryz.func79,Tryz.ntmps79
 go_wp2
 go_loopw [9] (fun iv wr=>∃ (k:Nat) (R1:List Rw) (o1:Option Nat),k<=n/\iv=.int .i64 k/\FAt Xo wr B gp gg gr wd gf R1 p (xs++L.take k) s o1/\Upd (FW w gp gr gf R op) w wr/\RowsFrom w R R1/\(∀ g,o1=some g->op=some g\/w.heap.size<=g)) (fun iv _=>n - (intOf iv).toNat)
 case atStart=>exact ⟨0,R,op,Nat.zero_le _,rfl,by rw [List.take_zero,List.append_nil];exact H.out,Upd.refl _ _,RowsFrom.self _ _,fun _ e=>.inl e⟩
 case round =>
  obtain ⟨k,R1,o1,hk,rfl,hf,hu,Ik,hop⟩:=hrel;obtain ⟨wv,C9⟩:=ae (wr);subst C9
  by_cases hlt:k<n
  ·have j1:decide ((k:Int)<(n:Int))=true:=ah (by omega);have j2:decide (k<n)=true:=ah (by omega);have OO:(k:Int)<(n:Int):=by omega
   have PW:IntKind.i64.wrap ((k:Int)+1)=(k:Int)+1:=by
    have:=Jv.out;have:=HN.out;unfold maxLen at this;rw [IntKind.wrap_i64];omega
   have JO:=i9 (HV.out.upd hu fun b hz e=>hz e);have J7:=JO.2.1;have hc:=JO.2.2;clear JO;obtain ⟨bl,ol,rfl,_,hcell⟩:=hc k (by rw [<-HN.out];exact hlt);obtain ⟨r,hr⟩:=ae (L.getD k 0);rw [<-hr] at hcell;obtain ⟨ys,FD⟩:=ae (xs++L.take k);have OW:=ab (show xs++L.take (k+1)=ys++[r] from by
    rw [FD,List.append_assoc,hr]
    congr 1
    rw [List.take_succ_eq_append_getElem (show k<L.length from by rw [<-HN.out];exact hlt)]
    simp [List.getD,List.getElem?_eq_getElem (show k<L.length from by rw [<-HN.out];exact hlt)])
   rw [<-FD] at hf;have HF:=ab hf;have JV:=ab (show ∀ w',FGo Xo wv B gp gg gr wd gf R1 o1 p (ys++[r]) s w'->∃ (R2:List Rw) (o2:Option Nat),FAt Xo w' B gp gg gr wd gf R2 p (xs++L.take (k+1)) s o2/\Upd (FW w gp gr gf R op) w w'/\RowsFrom w R R2/\(∀ g,o2=some g->op=some g\/w.heap.size<=g) from fun w' k=>by
    obtain ⟨R2,o2,q1,q2,q3,q4⟩:=FGo.trans hu Ik hop k;rw [<-OW.out] at q1;exact ⟨R2,o2,q1,q2,q3,q4⟩)
   have Mh:k<ca:=by omega
   have GA:=ab (lO r);clear hf hu Ik hop FD hr hc
   cases hs:bT r with
   |true =>
    rw [hs] at GA
    go_wp2_with fail
    refine (GA.out wv).mono ?_;rintro e w1 ⟨rfl,b1⟩;have Gh:=Has.below HF.out.1 b1 HF.out.1.lt;have Jp:=ab (ls (fxs gp ys o1) gf s.1 s.2.1 s.2.2 w1 Gh);have B1:=ab b1;have HD1:=ab Gh;clear b1 Gh hcell
    go_wp2_with fail
    refine Jp.out.mono ?_;rintro e w2 ⟨rfl,h2,b2⟩;have KY:=(HF.out.2.below B1.out).own HD1.out (Upd.ofBut b2);have q0:=h2.cell 0 _ rfl;have IM:=ab (yP KY hs);have H2:=ab (And.intro h2 (And.intro b2 KY));have E4:=ab hs;clear h2 b2 KY hs
    go_wp2_with fail
    refine IM.out.mono ?_;rintro e w3 ⟨rfl,k3⟩;obtain ⟨R2,o2,q1,q2,q3,q4⟩:=JV.out w3 (nS HF.out B1.out H2.out.1 H2.out.2.1 (Below.refl _ _) k3 (by rw [zW gp ys E4.out];exact FDo.block H2.out.2.2 H2.out.1 k3) (But.refl _ _ _));have HZ:=ab (And.intro q1 (And.intro q2 (And.intro q3 q4)));clear k3 q1 q2 q3 q4 q0;go_wp2
    go_roundw
    case rel=>exact ⟨k+1,R2,o2,by omega,by go_num,HZ.out.1,HZ.out.2.1,HZ.out.2.2.1,HZ.out.2.2.2⟩
    case measure=>simp [intOf] <;> omega
   |false =>
    rw [hs] at GA
    go_wp2_with fail
    refine (GA.out wv).mono ?_;rintro e w1 ⟨rfl,b1⟩;have B1:=ab b1;obtain ⟨q,hq⟩:=ae (bh r);have HUC:=ab (show ∀ w',Calls Tryz.prog 149 #[.int .i32 r] w' (Gives w' (.agg #[.int .i64 q.br,.bool q.pc,.int .i64 q.cv,.int .i64 q.ea])) from fun w'=>by rw [hq];exact tJ r w');have HQ:=ab hq;clear hcell
    go_wp2_with fail
    refine (HUC.out w1).mono ?_;rintro e w2 ⟨rfl,b2⟩;have Lb:=m5 w2 q.br q.pc q.cv q.ea;obtain ⟨W3,hW3,hx3,hb3⟩:=Lb;obtain ⟨gb,hgb⟩:=ae (w2.heap.size);rw [<-hgb] at hx3;have B3:=ab ((B1.out.trans (b2.mono B1.out.size)).trans (hb3.mono (Nat.le_trans B1.out.size b2.size)));have Dj:=ab hx3;have Jc:=ab hW3;have DJ:=ab hgb;have KE:=ab (HF.out.below B3.out);have HST:=ab (show ∀ w',FAt Xo w' B gp gg gr wd gf R1 p ys s o1->Calls Tryz.prog 150 #[.pointer (some ⟨gf,4,none⟩),.agg #[.int .i64 q.br,.bool q.pc,.int .i64 q.cv,.int .i64 q.ea]] w' (fun e w2=>e=.returned (.bool (dL ys r))/\FDec (fxs gp (ys++[r]) o1) w2 gf s.1 s.2.1 s.2.2/\But gf w'.heap.size w' w2) from fun w' h=>by rw [HQ.out];exact tp h hs);have E4:=ab hs;have Jn:=ab (show gb≠gf from fun e=>by subst e;exact aH hx3 KE.out.1 (by decide));clear b1 b2 hx3 hb3 hgb hq hW3 hs HUC GA
    go_upto_region 7 with (fail)
    rw [<-Jc.out];rw [<-DJ.out];clear Jc DJ
    cases hj:dL ys r with
    |true =>
     rw [hj] at HST;have M0:cm ys=true:=by
      cases h:cm ys with
      |true=>rfl
      |false=>rw [jV E4.out h] at hj;cases hj
     obtain ⟨g,hog,_⟩:=sw KE.out.2 M0 E4.out hj;have OR:=ab hog;have HJO:=ab (And.intro M0 hj);clear M0 hj hog;obtain ⟨Di,ES⟩ : ∃ CC:Array Bool->World->Prop,CC=fun L8 w'=>(Mix.one L8 4=0->Below W3.heap.size W3 w')/\(Mix.one L8 4=1->∃ wz w8,Below W3.heap.size W3 wz/\FDec (fxs gp (ys++[r]) o1) w8 gf s.1 s.2.1 s.2.2/\But gf wz.heap.size wz w8/\Below w8.heap.size w8 w'):=⟨_,rfl⟩
     obtain ⟨Xrgst,hXrgst,Hrgstx,Hrgstxb⟩:=Reg.xT;obtain ⟨Ergst,Hrgstst,FB,Fr,Fz,FG,FS,CR,Fu,Fl,FO,Fv,EQ,En⟩:=Reg.e12 Xrgst
      (fun xx _=>xx=.pointer (some ⟨gf,0,none⟩))
      (fun xx _=>xx=.pointer (some ⟨gf,0,none⟩))
      (fun xx _=>xx=.pointer (some ⟨gf,4,none⟩))
      (fun xx _=>xx=.agg #[.int .i64 q.br,.bool q.pc,.int .i64 q.cv,.int .i64 q.ea])
      (fun xx _=>xx=.bool true)
      (fun xx _=>xx=.bool true)
      (fun xx _=>xx=.pointer (some ⟨gf,0,none⟩))
      (fun xx _=>xx=.pointer (some ⟨gf,0,none⟩))
      (fun xx _=>xx=.pointer (some ⟨gf,9,none⟩))
      (fun xx _=>xx=.pointer (some ⟨g,0,none⟩))
      (fun xx _=>xx=.bool true)
      (fun xx _=>xx=.bool true)
     have Hrgstk:Hid (∀ i L w,(i == 4)=false ->  Di L w->Di (L.setIfInBounds i true) w):=ab (by
      intro i L w q h;simp only [Bool.or_eq_false_iff,beq_eq_false_iff_ne] at q;rw [ES] at h ⊢;simp only [Mix.one_ne q];exact h)
     have Hrgstb:Hid (∀ L w w1,Di L w->Below w.heap.size w w1->Di L w1):=ab (by
      intro L w w1 h hb;rw [ES] at h ⊢;exact ⟨fun e=>(h.1 e).trans (hb.mono (h.1 e).size),fun e=>by obtain ⟨wz,w8,e1,e2,e3,e4⟩:=h.2 e;exact ⟨wz,w8,e1,e2,e3,e4.trans (hb.mono e4.size)⟩⟩)
     have Hrgstc:=ab (show Di (Array.replicate 12 false) W3.drew from by rw [ES];exact ⟨fun _=>(Below.refl _ _).drew,fun e=>absurd e (by decide)⟩);have Ci:=ab (fun (i:Nat) L w v q (h:Di L w) (e:Ergst i v w)=>Reg.hk (Hrgstk.out i L w q h) e (Hrgstx.out w));have Dx:=ab ES;have HrgsthX:=ab hXrgst;clear ES hXrgst
     go_wp2_with fail
     refine Reg.regionF Ergst Di Xrgst Hrgstst.out (by kernel_rfl) (by kernel_rfl) (by kernel_rfl) Hrgstc.out (fun Frgst BQ=>?_);simp only [Reg.frame,Reg.dsts,List.map_cons,List.map_nil,Mix.put_lit,List.set_cons_succ,List.set_cons_zero,Nat.zero_add,Nat.reduceAdd] at BQ;refine ⟨⟨?_,?_,?_,?_,?_,?_,?_,?_,?_,?_,?_,?_,trivial⟩,?_⟩
     ·intro Lq wq xq hh;simp only [BQ];refine Reg.go rfl ?_;have HK:=Ci.out 0 _ _ _ rfl hh.cls ((FB.out _ _).mpr rfl);go_simp;exact HK.out
     ·intro Lq wq xq hh;simp only [BQ,(FB.out _ _).mp (hh.v 0)];refine Reg.go rfl ?_;have HK:=Ci.out 1 _ _ _ rfl hh.cls ((Fr.out _ _).mpr rfl);go_simp;exact HK.out
     ·intro Lq wq xq hh;simp only [BQ,(Fr.out _ _).mp (hh.v 1)];refine Reg.go rfl ?_;have HK:=Ci.out 2 _ _ _ rfl hh.cls ((Fz.out _ _).mpr rfl);go_simp;exact HK.out
     ·intro Lq wq xq hh;simp only [BQ];refine Reg.go rfl ?_;have hc:Di Lq wq:=hh.cls;rw [Dx.out] at hc;have hd:=Dj.out.below (hc.1 (Mix.one_un (hh.notYet 4 (by kernel_rfl)))) Dj.out.lt;have q0:=hd.cell 0 _ rfl;have q1:=hd.cell 1 _ rfl;have q2:=hd.cell 2 _ rfl;have q3:=hd.cell 3 _ rfl;clear hc;have HK:=Ci.out 3 _ _ _ rfl hh.cls ((FG.out _ _).mpr rfl);go_simp;exact HK.out
     ·intro Lq wq xq hh;simp only [BQ,(Fz.out _ _).mp (hh.v 2),(FG.out _ _).mp (hh.v 3)];refine Reg.go rfl ?_;unfold Reg.upon;have hc:Di Lq wq:=hh.cls;rw [Dx.out] at hc;have Cp:=hc.1 hh.un;have hst:=HST.out wq (KE.out.below Cp);clear hc;go_simp;refine hst.mono ?_;rintro e w9 ⟨rfl,h9,b9⟩;have hF:Di (Lq.setIfInBounds 4 true) w9:=by
       rw [Dx.out];exact ⟨fun e=>(by rw [Mix.one_set (by rw [hh.size];decide)] at e;exact absurd e (by decide)),fun _=>⟨wq,w9,Cp,h9,b9,Below.refl _ _⟩⟩
      exact ⟨_,rfl,hF,(by rw [FS.out]),(by rw [HrgsthX.out];trivial)⟩
     ·intro Lq wq xq hh;simp only [BQ,(FS.out _ _).mp (hh.v 4)];refine Reg.go rfl ?_;have HK:=Ci.out 5 _ _ _ rfl hh.cls ((CR.out _ _).mpr rfl);go_simp;exact HK.out
     ·intro Lq wq xq hh;simp only [BQ,(CR.out _ _).mp (hh.v 5)];refine Reg.go rfl ?_;have HK:=Ci.out 6 _ _ _ rfl hh.cls ((Fu.out _ _).mpr rfl);go_simp;exact HK.out
     ·intro Lq wq xq hh;simp only [BQ,(CR.out _ _).mp (hh.v 5),(Fu.out _ _).mp (hh.v 6)];refine Reg.go rfl ?_;have HK:=Ci.out 7 _ _ _ rfl hh.cls ((Fl.out _ _).mpr rfl);go_simp;exact HK.out
     ·intro Lq wq xq hh;simp only [BQ,(CR.out _ _).mp (hh.v 5),(Fl.out _ _).mp (hh.v 7)];refine Reg.go rfl ?_;have HK:=Ci.out 8 _ _ _ rfl hh.cls ((FO.out _ _).mpr rfl);go_simp;exact HK.out
     ·intro Lq wq xq hh;simp only [BQ,(CR.out _ _).mp (hh.v 5),(FO.out _ _).mp (hh.v 8)];refine Reg.go rfl ?_;have hc:Di Lq wq:=hh.cls;rw [Dx.out] at hc;obtain ⟨wz,w8,e1,e2,e3,e4⟩:=hc.2 (hh.isDone 4 (by kernel_rfl));have hd:=Has.below e2 e4 e2.lt;have q9:wq.cell? ⟨gf,9,none⟩=some (.pointer (some ⟨g,0,none⟩)):=by have h9:=hd.cell 9 _ rfl;rw [show (fxs gp (ys++[r]) o1).op=cM (some g) from by show cM o1=_;rw [OR.out]] at h9;exact h9
      clear e1 e2 e3 e4 hd;clear hc;have HK:=Ci.out 9 _ _ _ rfl hh.cls ((Fv.out _ _).mpr rfl);go_simp;exact HK.out
     ·intro Lq wq xq hh;simp only [BQ,(CR.out _ _).mp (hh.v 5),(Fv.out _ _).mp (hh.v 9)];refine Reg.go rfl ?_;have HK:=Ci.out 10 _ _ _ rfl hh.cls ((EQ.out _ _).mpr rfl);go_simp;exact HK.out
     ·intro Lq wq xq hh;simp only [BQ,(CR.out _ _).mp (hh.v 5),(EQ.out _ _).mp (hh.v 10)];refine Reg.go rfl ?_;have HK:=Ci.out 11 _ _ _ rfl hh.cls ((En.out _ _).mpr rfl);go_simp;exact HK.out
     intro xq wrgst If hvrgst;rw [Dx.out] at If;simp only [BQ];have vrgst11:=(En.out _ _).mp (hvrgst 11 (by decide));rw [vrgst11];clear hvrgst BQ Ci Hrgstk Hrgstx Hrgstst Hrgstc Dx HrgsthX Hrgstb Hrgstxb FB Fr Fz FG FS CR Fu Fl FO Fv EQ En;obtain ⟨wz,w8,e1,e2,e3,e4⟩:=If.2 (by kernel_rfl);have M4:=((KE.out.2.below e1).own (Has.below KE.out.1 e1 KE.out.1.lt) (Upd.ofBut e3)).below e4;obtain ⟨w7,MT⟩:=ae (wrgst);rw [<-MT] at e4 M4;have JP:=ab (Has.below ((Dj.out.below e1 Dj.out.lt).but e3 (Has.below Dj.out e1 Dj.out.lt).lt Jn.out) e4 (((Dj.out.below e1 Dj.out.lt).but e3 (Has.below Dj.out e1 Dj.out.lt).lt Jn.out)).lt);have H7:=ab (show FDec (fxs gp (ys++[r]) o1) w7 gf s.1 s.2.1 s.2.2/\But gf W3.heap.size W3 w7/\FPen Xo w7 B gp gg gr wd gf R1 p ys o1 from ⟨Has.below e2 e4 e2.lt,((But.ofBelow (g:=gf) e1).trans (e3.mono e1.size)).trans ((But.ofBelow (g:=gf) e4).mono (Nat.le_trans e1.size e3.size)),M4⟩);rw [<-MT];clear If e1 e2 e3 e4 M4 MT HST
     go_upto_region 8 with (fail)
     obtain ⟨Ef,Gx⟩ : ∃ CC:Array Bool->World->Prop,CC=fun L8 w'=>(Mix.one L8 10=0->Below w7.heap.size w7 w')/\(Mix.one L8 10=1->∃ wz,Below w7.heap.size w7 wz/\FDo Xo wz B gp gg gr wd gf R1 o1 p (ys++[r]) (some g) w'):=⟨_,rfl⟩
     obtain ⟨Xrgj,JR,Hrgjx,Hrgjxb⟩:=Reg.xT;obtain ⟨Ergj,Hrgjst,IB,Ia,Hy,Im,Ii,He,Ho,Iy,IE,Hv,Hrgje10,_⟩:=Reg.e12 Xrgj
      (fun xx _=>xx=.pointer (some ⟨gf,0,none⟩))
      (fun xx _=>xx=.pointer (some ⟨gf,0,none⟩))
      (fun xx _=>xx=.pointer (some ⟨gf,9,none⟩))
      (fun xx _=>xx=.pointer (some ⟨g,0,none⟩))
      (fun xx _=>xx=.pointer (some ⟨gf,0,none⟩))
      (fun xx _=>xx=.pointer (some ⟨gf,0,none⟩))
      (fun xx _=>xx=.pointer (some ⟨gf,0,none⟩))
      (fun xx _=>xx=.pointer (some ⟨gp,0,none⟩))
      (fun xx _=>xx=.int .i32 r)
      (fun xx _=>xx=.agg #[.int .i64 q.br,.bool q.pc,.int .i64 q.cv,.int .i64 q.ea])
      (fun _ _=>True)
      (fun _ _=>True)
      (s10:=fun x w w1 hx h=>by rw [JR] at hx;exact h)
     have Hrgjk:Hid (∀ i L w,(i == 10)=false ->  Ef L w->Ef (L.setIfInBounds i true) w):=ab (by
      intro i L w q h;simp only [Bool.or_eq_false_iff,beq_eq_false_iff_ne] at q;rw [Gx] at h ⊢;simp only [Mix.one_ne q];exact h)
     have Hrgjb:Hid (∀ L w w1,Ef L w->Below w.heap.size w w1->Ef L w1):=ab (by
      intro L w w1 h hb;rw [Gx] at h ⊢;exact ⟨fun e=>(h.1 e).trans (hb.mono (h.1 e).size),fun e=>by obtain ⟨wz,e1,e2⟩:=h.2 e;exact ⟨wz,e1,e2.below hb⟩⟩)
     have Hrgjc:=ab (show Ef (Array.replicate 11 false) w7.drew from by rw [Gx];exact ⟨fun _=>(Below.refl _ _).drew,fun e=>absurd e (by decide)⟩);have Dg:=ab (fun (i:Nat) L w v q (h:Ef L w) (e:Ergj i v w)=>Reg.hk (Hrgjk.out i L w q h) e (Hrgjx.out w));have DN:=ab Gx;have HrgjhX:=ab JR;clear Gx JR
     go_wp2_with fail
     refine Reg.regionF Ergj Ef Xrgj Hrgjst.out (by kernel_rfl) (by kernel_rfl) (by kernel_rfl) Hrgjc.out (fun Frgj CQ=>?_);simp only [Reg.frame,Reg.dsts,List.map_cons,List.map_nil,Mix.put_lit,List.set_cons_succ,List.set_cons_zero,Nat.zero_add,Nat.reduceAdd] at CQ;refine ⟨⟨?_,?_,?_,?_,?_,?_,?_,?_,?_,?_,?_,trivial⟩,?_⟩
     ·intro Lq wq xq hh;simp only [CQ];refine Reg.go rfl ?_;have HK:=Dg.out 0 _ _ _ rfl hh.cls ((IB.out _ _).mpr rfl);go_simp;exact HK.out
     ·intro Lq wq xq hh;simp only [CQ,(IB.out _ _).mp (hh.v 0)];refine Reg.go rfl ?_;have HK:=Dg.out 1 _ _ _ rfl hh.cls ((Ia.out _ _).mpr rfl);go_simp;exact HK.out
     ·intro Lq wq xq hh;simp only [CQ,(Ia.out _ _).mp (hh.v 1)];refine Reg.go rfl ?_;have HK:=Dg.out 2 _ _ _ rfl hh.cls ((Hy.out _ _).mpr rfl);go_simp;exact HK.out
     ·intro Lq wq xq hh;simp only [CQ,(Hy.out _ _).mp (hh.v 2)];refine Reg.go rfl ?_;have hc:Ef Lq wq:=hh.cls;rw [DN.out] at hc;have hd:=Has.below H7.out.1 (hc.1 (Mix.one_un (hh.notYet 10 (by kernel_rfl)))) H7.out.1.lt;have q9:wq.cell? ⟨gf,9,none⟩=some (.pointer (some ⟨g,0,none⟩)):=by have h9:=hd.cell 9 _ rfl;rw [show (fxs gp (ys++[r]) o1).op=cM (some g) from by show cM o1=_;rw [OR.out]] at h9;exact h9
      clear hc;have HK:=Dg.out 3 _ _ _ rfl hh.cls ((Im.out _ _).mpr rfl);go_simp;exact HK.out
     ·intro Lq wq xq hh;simp only [CQ];refine Reg.go rfl ?_;have HK:=Dg.out 4 _ _ _ rfl hh.cls ((Ii.out _ _).mpr rfl);go_simp;exact HK.out
     ·intro Lq wq xq hh;simp only [CQ,(Ii.out _ _).mp (hh.v 4)];refine Reg.go rfl ?_;have HK:=Dg.out 5 _ _ _ rfl hh.cls ((He.out _ _).mpr rfl);go_simp;exact HK.out
     ·intro Lq wq xq hh;simp only [CQ,(He.out _ _).mp (hh.v 5)];refine Reg.go rfl ?_;have HK:=Dg.out 6 _ _ _ rfl hh.cls ((Ho.out _ _).mpr rfl);go_simp;exact HK.out
     ·intro Lq wq xq hh;simp only [CQ,(Ho.out _ _).mp (hh.v 6)];refine Reg.go rfl ?_;have hc:Ef Lq wq:=hh.cls;rw [DN.out] at hc;have hd:=Has.below H7.out.1 (hc.1 (Mix.one_un (hh.notYet 10 (by kernel_rfl)))) H7.out.1.lt;have q0:=hd.cell 0 _ rfl;clear hc;have HK:=Dg.out 7 _ _ _ rfl hh.cls ((Iy.out _ _).mpr rfl);go_simp;exact HK.out
     ·intro Lq wq xq hh;simp only [CQ];refine Reg.go rfl ?_;have HK:=Dg.out 8 _ _ _ rfl hh.cls ((IE.out _ _).mpr rfl);go_simp;exact HK.out
     ·intro Lq wq xq hh;simp only [CQ];refine Reg.go rfl ?_;have hc:Ef Lq wq:=hh.cls;rw [DN.out] at hc;have hd:=JP.out.below (hc.1 (Mix.one_un (hh.notYet 10 (by kernel_rfl)))) JP.out.lt;have q0:=hd.cell 0 _ rfl;have q1:=hd.cell 1 _ rfl;have q2:=hd.cell 2 _ rfl;have q3:=hd.cell 3 _ rfl;clear hc;have HK:=Dg.out 9 _ _ _ rfl hh.cls ((Hv.out _ _).mpr rfl);go_simp;exact HK.out
     ·intro Lq wq xq hh;simp only [CQ,(Im.out _ _).mp (hh.v 3),(Iy.out _ _).mp (hh.v 7),(IE.out _ _).mp (hh.v 8),(Hv.out _ _).mp (hh.v 9)];refine Reg.go rfl ?_;unfold Reg.upon;have hc:Ef Lq wq:=hh.cls;rw [DN.out] at hc;have Cp:=hc.1 hh.un;obtain ⟨g2,e2,O8⟩:=sw (H7.out.2.2.below Cp) HJO.out.1 E4.out HJO.out.2;rw [OR.out] at e2
      cases e2
      rw [<-HQ.out] at O8;clear hc;go_simp;refine O8.mono ?_;rintro e w9 ⟨⟨bb,rfl⟩,h9⟩;have hF:Ef (Lq.setIfInBounds 10 true) w9:=by
       rw [DN.out];exact ⟨fun e=>(by rw [Mix.one_set (by rw [hh.size];decide)] at e;exact absurd e (by decide)),fun _=>⟨wq,Cp,h9⟩⟩
      exact ⟨_,rfl,hF,(by rw [Hrgje10.out];trivial),(by rw [HrgjhX.out];trivial)⟩
     intro xq wrgj Kc hvrgj;rw [DN.out] at Kc;simp only [CQ];clear hvrgj CQ Dg Hrgjk Hrgjx Hrgjst Hrgjc DN HrgjhX Hrgjb Hrgjxb IB Ia Hy Im Ii He Ho Iy IE Hv Hrgje10;obtain ⟨wz,Cp,Qd⟩:=Kc.2 (by kernel_rfl);obtain ⟨R2,o2,q1,q2,q3,q4⟩:=JV.out wrgj (nS HF.out B3.out H7.out.1 H7.out.2.1 Cp Qd (by rw [<-OR.out];exact FDo.block (H7.out.2.2.below Cp) (Has.below H7.out.1 Cp H7.out.1.lt) Qd) (But.refl _ _ _));have HZ:=ab (And.intro q1 (And.intro q2 (And.intro q3 q4)));clear Kc Cp Qd q1 q2 q3 q4;go_wp2
     go_roundw
     case rel=>exact ⟨k+1,R2,o2,by omega,by go_num,HZ.out.1,HZ.out.2.1,HZ.out.2.2.1,HZ.out.2.2.2⟩
     case measure=>simp [intOf] <;> omega
    |false =>
     rw [hj] at HST;have HJN:=ab hj;clear hj;obtain ⟨DH,Eu⟩ : ∃ CC:Array Bool->World->Prop,CC=fun L8 w'=>(Mix.one L8 4=0->Below W3.heap.size W3 w')/\(Mix.one L8 4=1->∃ wz w8,Below W3.heap.size W3 wz/\FDec (fxs gp (ys++[r]) o1) w8 gf s.1 s.2.1 s.2.2/\But gf wz.heap.size wz w8/\Below w8.heap.size w8 w'):=⟨_,rfl⟩
     obtain ⟨Xrgsf,hXrgsf,Hrgsfx,Hrgsfxb⟩:=Reg.xT;obtain ⟨Ergsf,Hrgsfst,FC,Fy,FK,Fm,FR,CU,FE,FM,Fn,FI,EG,Et⟩:=Reg.e12 Xrgsf
      (fun xx _=>xx=.pointer (some ⟨gf,0,none⟩))
      (fun xx _=>xx=.pointer (some ⟨gf,0,none⟩))
      (fun xx _=>xx=.pointer (some ⟨gf,4,none⟩))
      (fun xx _=>xx=.agg #[.int .i64 q.br,.bool q.pc,.int .i64 q.cv,.int .i64 q.ea])
      (fun xx _=>xx=.bool false)
      (fun xx _=>xx=.bool false)
      (fun xx _=>xx=undef)
      (fun xx _=>xx=undef)
      (fun xx _=>xx=undef)
      (fun xx _=>xx=undef)
      (fun xx _=>xx=undef)
      (fun xx _=>xx=.bool false)
     have DT:Hid (∀ i L w,(i == 4)=false ->  DH L w->DH (L.setIfInBounds i true) w):=ab (by
      intro i L w q h;simp only [Bool.or_eq_false_iff,beq_eq_false_iff_ne] at q;rw [Eu] at h ⊢;simp only [Mix.one_ne q];exact h)
     have Hrgsfb:Hid (∀ L w w1,DH L w->Below w.heap.size w w1->DH L w1):=ab (by
      intro L w w1 h hb;rw [Eu] at h ⊢;exact ⟨fun e=>(h.1 e).trans (hb.mono (h.1 e).size),fun e=>by obtain ⟨wz,w8,e1,e2,e3,e4⟩:=h.2 e;exact ⟨wz,w8,e1,e2,e3,e4.trans (hb.mono e4.size)⟩⟩)
     have Hrgsfc:=ab (show DH (Array.replicate 12 false) W3.drew from by rw [Eu];exact ⟨fun _=>(Below.refl _ _).drew,fun e=>absurd e (by decide)⟩);have DQ:=ab (fun (i:Nat) L w v q (h:DH L w) (e:Ergsf i v w)=>Reg.hk (DT.out i L w q h) e (Hrgsfx.out w));have D2:=ab Eu;have HrgsfhX:=ab hXrgsf;clear Eu hXrgsf
     go_wp2_with fail
     refine Reg.regionF Ergsf DH Xrgsf Hrgsfst.out (by kernel_rfl) (by kernel_rfl) (by kernel_rfl) Hrgsfc.out (fun Frgsf BR=>?_);simp only [Reg.frame,Reg.dsts,List.map_cons,List.map_nil,Mix.put_lit,List.set_cons_succ,List.set_cons_zero,Nat.zero_add,Nat.reduceAdd] at BR;refine ⟨⟨?_,?_,?_,?_,?_,?_,?_,?_,?_,?_,?_,?_,trivial⟩,?_⟩
     ·intro Lq wq xq hh;simp only [BR];refine Reg.go rfl ?_;have HK:=DQ.out 0 _ _ _ rfl hh.cls ((FC.out _ _).mpr rfl);go_simp;exact HK.out
     ·intro Lq wq xq hh;simp only [BR,(FC.out _ _).mp (hh.v 0)];refine Reg.go rfl ?_;have HK:=DQ.out 1 _ _ _ rfl hh.cls ((Fy.out _ _).mpr rfl);go_simp;exact HK.out
     ·intro Lq wq xq hh;simp only [BR,(Fy.out _ _).mp (hh.v 1)];refine Reg.go rfl ?_;have HK:=DQ.out 2 _ _ _ rfl hh.cls ((FK.out _ _).mpr rfl);go_simp;exact HK.out
     ·intro Lq wq xq hh;simp only [BR];refine Reg.go rfl ?_;have hc:DH Lq wq:=hh.cls;rw [D2.out] at hc;have hd:=Dj.out.below (hc.1 (Mix.one_un (hh.notYet 4 (by kernel_rfl)))) Dj.out.lt;have q0:=hd.cell 0 _ rfl;have q1:=hd.cell 1 _ rfl;have q2:=hd.cell 2 _ rfl;have q3:=hd.cell 3 _ rfl;clear hc;have HK:=DQ.out 3 _ _ _ rfl hh.cls ((Fm.out _ _).mpr rfl);go_simp;exact HK.out
     ·intro Lq wq xq hh;simp only [BR,(FK.out _ _).mp (hh.v 2),(Fm.out _ _).mp (hh.v 3)];refine Reg.go rfl ?_;unfold Reg.upon;have hc:DH Lq wq:=hh.cls;rw [D2.out] at hc;have Cp:=hc.1 hh.un;have hst:=HST.out wq (KE.out.below Cp);clear hc;go_simp;refine hst.mono ?_;rintro e w9 ⟨rfl,h9,b9⟩;have hF:DH (Lq.setIfInBounds 4 true) w9:=by
       rw [D2.out];exact ⟨fun e=>(by rw [Mix.one_set (by rw [hh.size];decide)] at e;exact absurd e (by decide)),fun _=>⟨wq,w9,Cp,h9,b9,Below.refl _ _⟩⟩
      exact ⟨_,rfl,hF,(by rw [FR.out]),(by rw [HrgsfhX.out];trivial)⟩
     ·intro Lq wq xq hh;simp only [BR,(FR.out _ _).mp (hh.v 4)];refine Reg.go rfl ?_;have HK:=DQ.out 5 _ _ _ rfl hh.cls ((CU.out _ _).mpr rfl);go_simp;exact HK.out
     ·intro Lq wq xq hh;simp only [BR,(CU.out _ _).mp (hh.v 5)];exact .inr ⟨rfl,DT.out 6 Lq wq rfl  hh.cls,(FE.out _ _).mpr rfl⟩
     ·intro Lq wq xq hh;simp only [BR,(CU.out _ _).mp (hh.v 5),(FE.out _ _).mp (hh.v 6)];exact .inr ⟨rfl,DT.out 7 Lq wq rfl  hh.cls,(FM.out _ _).mpr rfl⟩
     ·intro Lq wq xq hh;simp only [BR,(CU.out _ _).mp (hh.v 5),(FM.out _ _).mp (hh.v 7)];exact .inr ⟨rfl,DT.out 8 Lq wq rfl  hh.cls,(Fn.out _ _).mpr rfl⟩
     ·intro Lq wq xq hh;simp only [BR,(CU.out _ _).mp (hh.v 5),(Fn.out _ _).mp (hh.v 8)];exact .inr ⟨rfl,DT.out 9 Lq wq rfl  hh.cls,(FI.out _ _).mpr rfl⟩
     ·intro Lq wq xq hh;simp only [BR,(CU.out _ _).mp (hh.v 5),(FI.out _ _).mp (hh.v 9)];exact .inr ⟨rfl,DT.out 10 Lq wq rfl  hh.cls,(EG.out _ _).mpr rfl⟩
     ·intro Lq wq xq hh;simp only [BR,(CU.out _ _).mp (hh.v 5),(EG.out _ _).mp (hh.v 10)];refine Reg.go rfl ?_;have HK:=DQ.out 11 _ _ _ rfl hh.cls ((Et.out _ _).mpr rfl);go_simp;exact HK.out
     intro xq wrgsf G6 hvrgsf;rw [D2.out] at G6;simp only [BR];have vrgsf11:=(Et.out _ _).mp (hvrgsf 11 (by decide));rw [vrgsf11];clear hvrgsf BR DQ DT Hrgsfx Hrgsfst Hrgsfc D2 HrgsfhX Hrgsfb Hrgsfxb FC Fy FK Fm FR CU FE FM Fn FI EG Et;obtain ⟨wz,w8,e1,e2,e3,e4⟩:=G6.2 (by kernel_rfl);have M4:=((KE.out.2.below e1).own (Has.below KE.out.1 e1 KE.out.1.lt) (Upd.ofBut e3)).below e4;obtain ⟨w7,MT⟩:=ae (wrgsf);rw [<-MT] at e4 M4;have JP:=ab (Has.below ((Dj.out.below e1 Dj.out.lt).but e3 (Has.below Dj.out e1 Dj.out.lt).lt Jn.out) e4 (((Dj.out.below e1 Dj.out.lt).but e3 (Has.below Dj.out e1 Dj.out.lt).lt Jn.out)).lt);have H7:=ab (show FDec (fxs gp (ys++[r]) o1) w7 gf s.1 s.2.1 s.2.2/\But gf W3.heap.size W3 w7/\FPen Xo w7 B gp gg gr wd gf R1 p ys o1 from ⟨Has.below e2 e4 e2.lt,((But.ofBelow (g:=gf) e1).trans (e3.mono e1.size)).trans ((But.ofBelow (g:=gf) e4).mono (Nat.le_trans e1.size e3.size)),M4⟩);rw [<-MT];clear G6 e1 e2 e3 e4 M4 MT HST
     go_upto_region 9 with (fail)
     obtain ⟨Eb,Gg⟩ : ∃ CC:Array Bool->Value->World->Prop,CC=fun L8 x w'=>(Mix.one L8 7=0->Below w7.heap.size w7 w')/\(Mix.one L8 7=1->Mix.one L8 10=0->∃ g wz,x=.pointer (some ⟨g,0,none⟩)/\Below w7.heap.size w7 wz/\FDo Xo wz B gp gg gr wd gf R1 o1 p (ys++[r]) (some g) w'/\FDec (fxs gp (ys++[r]) o1) w' gf s.1 s.2.1 s.2.2)/\(Mix.one L8 10=1->FGo Xo wv B gp gg gr wd gf R1 o1 p (ys++[r]) s w'):=⟨_,rfl⟩
     obtain ⟨LX,JE,Hrgnx,Hrgnxb⟩:=Reg.xT;obtain ⟨Mf,Hrgnst,GY,Hb,Iw,Hx,It,Hp,Iz,Ir,Ie,Il,Hrgne10,_⟩:=Reg.e12 LX
      (fun xx _=>xx=.pointer (some ⟨gf,0,none⟩))
      (fun xx _=>xx=.pointer (some ⟨gf,0,none⟩))
      (fun xx _=>xx=.pointer (some ⟨gf,0,none⟩))
      (fun xx _=>xx=.pointer (some ⟨gf,0,none⟩))
      (fun xx _=>xx=.pointer (some ⟨gp,0,none⟩))
      (fun xx _=>xx=.int .i32 r)
      (fun xx _=>xx=.agg #[.int .i64 q.br,.bool q.pc,.int .i64 q.cv,.int .i64 q.ea])
      (fun x _=>∃ g:Nat,x=.pointer (some ⟨g,0,none⟩))
      (fun xx _=>xx=.pointer (some ⟨gf,0,none⟩))
      (fun xx _=>xx=.pointer (some ⟨gf,9,none⟩))
      (fun xx _=>xx=undef)
      (fun _ _=>True)
      (s7:=fun x w w1 hx h=>by rw [JE] at hx;exact h)
     have Hrgnk:Hid (∀ i L {x:Value} w,(i == 7 || i == 10)=false ->  Eb L x w->Eb (L.setIfInBounds i true) x w):=ab (by
      intro i L x w q h;simp only [Bool.or_eq_false_iff,beq_eq_false_iff_ne] at q;rw [Gg] at h ⊢;simp only [Mix.one_ne q.1,Mix.one_ne q.2];exact h)
     have Hrgnb:Hid (∀ L {x:Value} w w1,Eb L x w->Below w.heap.size w w1->Eb L x w1):=ab (by
      intro L x w w1 h hb;rw [Gg] at h ⊢;exact ⟨fun e=>(h.1 e).trans (hb.mono (h.1 e).size),fun e f=>by obtain ⟨g,wz,e1,e2,e3,e4⟩:=h.2.1 e f;exact ⟨g,wz,e1,e2,e3.below hb,Has.below e4 hb e4.lt⟩,fun e=>by obtain ⟨R2,o2,e1,e2,e3,e4⟩:=h.2.2 e;exact ⟨R2,o2,e1.below hb,e2.trans (Upd.ofBelow hb |>.mono fun b _ e=>.inl (.inl (.inr (.inr (.inr (Nat.le_trans e2.size e)))))),e3,e4⟩⟩)
     have Hrgnc:=ab (show ∀ x,Eb (Array.replicate 11 false) x w7.drew from fun x=>by rw [Gg];exact ⟨fun _=>(Below.refl _ _).drew,fun e=>absurd e (by decide),fun e=>absurd e (by decide)⟩);have DD:=ab (fun (i:Nat) L {x:Value} w v q (h:Eb L x w) (e:Mf i v w)=>Reg.hk (Hrgnk.out i L w q h) e (Hrgnx.out w));have Dw:=ab Gg;have Hq:=ab JE;clear Gg JE
     go_wp2_with fail
     refine RegC.regionF 7 Mf Eb LX Hrgnst.out (by kernel_rfl) (by kernel_rfl) (by kernel_rfl) Hrgnc.out (fun Frgn CT=>?_);simp only [Reg.frame,Reg.dsts,List.map_cons,List.map_nil,Mix.put_lit,Reg.put_none,List.set_cons_succ,List.set_cons_zero,Nat.zero_add,Nat.reduceAdd] at CT;refine ⟨⟨?_,?_,?_,?_,?_,?_,?_,?_,?_,?_,?_,trivial⟩,?_⟩
     ·intro Lq wq xq hh;simp only [CT];refine Reg.go rfl ?_;have HK:=DD.out 0 _ _ _ rfl hh.cls ((GY.out _ _).mpr rfl);go_simp;exact HK.out
     ·intro Lq wq xq hh;simp only [CT];refine Reg.go rfl ?_;have HK:=DD.out 1 _ _ _ rfl hh.cls ((Hb.out _ _).mpr rfl);go_simp;exact HK.out
     ·intro Lq wq xq hh;simp only [CT,(Hb.out _ _).mp (hh.v 1)];refine Reg.go rfl ?_;have HK:=DD.out 2 _ _ _ rfl hh.cls ((Iw.out _ _).mpr rfl);go_simp;exact HK.out
     ·intro Lq wq xq hh;simp only [CT,(Iw.out _ _).mp (hh.v 2)];refine Reg.go rfl ?_;have HK:=DD.out 3 _ _ _ rfl hh.cls ((Hx.out _ _).mpr rfl);go_simp;exact HK.out
     ·intro Lq wq xq hh;simp only [CT,(Hx.out _ _).mp (hh.v 3)];refine Reg.go rfl ?_;have hc:Eb Lq (xq 7) wq:=hh.cls;rw [Dw.out] at hc;have hd:=Has.below H7.out.1 (hc.1 (Mix.one_un (hh.notYet 7 (by kernel_rfl)))) H7.out.1.lt;have q0:=hd.cell 0 _ rfl;clear hc;have HK:=DD.out 4 _ _ _ rfl hh.cls ((It.out _ _).mpr rfl);go_simp;exact HK.out
     ·intro Lq wq xq hh;simp only [CT];refine Reg.go rfl ?_;have HK:=DD.out 5 _ _ _ rfl hh.cls ((Hp.out _ _).mpr rfl);go_simp;exact HK.out
     ·intro Lq wq xq hh;simp only [CT];refine Reg.go rfl ?_;have hc:Eb Lq (xq 7) wq:=hh.cls;rw [Dw.out] at hc;have hd:=JP.out.below (hc.1 (Mix.one_un (hh.notYet 7 (by kernel_rfl)))) JP.out.lt;have q0:=hd.cell 0 _ rfl;have q1:=hd.cell 1 _ rfl;have q2:=hd.cell 2 _ rfl;have q3:=hd.cell 3 _ rfl;clear hc;have HK:=DD.out 6 _ _ _ rfl hh.cls ((Iz.out _ _).mpr rfl);go_simp;exact HK.out
     ·intro Lq wq xq hh;simp only [CT,(It.out _ _).mp (hh.v 4),(Hp.out _ _).mp (hh.v 5),(Iz.out _ _).mp (hh.v 6)];refine Reg.go rfl ?_;unfold Reg.upon;have hc:Eb Lq (xq 7) wq:=hh.cls;rw [Dw.out] at hc;have Cp:=hc.1 hh.un;have hd:=Has.below H7.out.1 Cp H7.out.1.lt;have Iu:=vL (H7.out.2.2.below Cp) hd.lt E4.out HJN.out;rw [<-HQ.out] at Iu;have NS:=H7.out.2.2.below Cp;clear hc;go_simp;refine Iu.mono ?_;rintro e w9 ⟨g,rfl,_,h9⟩;have hF:Eb (Lq.setIfInBounds 7 true) (.pointer (some ⟨g,0,none⟩)) w9:=by
       rw [Dw.out];refine ⟨fun e=>(by rw [Mix.one_set (by rw [hh.size];decide)] at e;exact absurd e (by decide)),fun _ _=>⟨g,wq,rfl,Cp,h9,FDo.block NS hd h9⟩,fun e=>?_⟩;rw [Mix.one_ne (by decide),Mix.one_un (hh.notYet 10 (by kernel_rfl))] at e;exact absurd e (by decide)
      exact ⟨_,rfl,hF,(by rw [Ir.out];exact ⟨g,rfl⟩),(by rw [Hq.out];trivial)⟩
     ·intro Lq wq xq hh;simp only [CT,(GY.out _ _).mp (hh.v 0)];refine Reg.go rfl ?_;have HK:=DD.out 8 _ _ _ rfl hh.cls ((Ie.out _ _).mpr rfl);go_simp;exact HK.out
     ·intro Lq wq xq hh;simp only [CT,(Ie.out _ _).mp (hh.v 8)];refine Reg.go rfl ?_;have HK:=DD.out 9 _ _ _ rfl hh.cls ((Il.out _ _).mpr rfl);go_simp;exact HK.out
     ·intro Lq wq xq hh;have d7:=(Ir.out _ _).mp (hh.v 7);simp only [CT,(Il.out _ _).mp (hh.v 9)];refine Reg.go rfl ?_;unfold Reg.upon;have hc:Eb Lq (xq 7) wq:=hh.cls;rw [Dw.out] at hc;obtain ⟨g,wz,e1,e2,e3,e4⟩:=hc.2.1 (hh.isDone 7 (by kernel_rfl)) hh.un;have q9:wq.cell? ⟨gf,9,none⟩=some (cM o1):=e4.cell 9 _ rfl;have f9:=e4.free 9;obtain ⟨vo,NP⟩:=ae (cM o1);rw [<-NP] at q9;have h10:FDec (fxs gp (ys++[r]) (some g)) (wq.setCell ⟨gf,9,none⟩ (.pointer (some ⟨g,0,none⟩))) gf s.1 s.2.1 s.2.2:=e4.set 9 _;have hgo:=nS HF.out B3.out H7.out.1 H7.out.2.1 e2 e3 h10 ((But.refl _ _ _).set _ _);have hF:Eb (Lq.setIfInBounds 10 true) (xq 7) (wq.setCell ⟨gf,9,none⟩ (.pointer (some ⟨g,0,none⟩))):=by
       rw [Dw.out];refine ⟨fun e=>?_,fun _ e=>?_,fun _=>hgo⟩
       ·rw [Mix.one_ne (by decide),hh.isDone 7 (by kernel_rfl)] at e;exact absurd e (by decide)
       ·rw [Mix.one_set (by rw [hh.size];decide)] at e;exact absurd e (by decide)
      have hE:Mf 10 undef (wq.setCell ⟨gf,9,none⟩ (.pointer (some ⟨g,0,none⟩))):=by rw [Hrgne10.out]
      have hX:LX wq (wq.setCell ⟨gf,9,none⟩ (.pointer (some ⟨g,0,none⟩))):=by rw [Hq.out];trivial
      clear hc e2 e3 e4 hgo h10 NP;rw [e1];go_simp;exact ⟨hF,hE,hX⟩
     intro xq wrgn Kk hvrgn;rw [Dw.out] at Kk;simp only [CT];clear hvrgn CT DD Hrgnk Hrgnx Hrgnst Hrgnc Dw Hq Hrgnb Hrgnxb GY Hb Iw Hx It Hp Iz Ir Ie Il Hrgne10;obtain ⟨R2,o2,q1,q2,q3,q4⟩:=JV.out wrgn (Kk.2.2 (by kernel_rfl));have HZ:=ab (And.intro q1 (And.intro q2 (And.intro q3 q4)));clear Kk q1 q2 q3 q4;go_wp2
     go_roundw
     case rel=>exact ⟨k+1,R2,o2,by omega,by go_num,HZ.out.1,HZ.out.2.1,HZ.out.2.2.1,HZ.out.2.2.2⟩
     case measure=>simp [intOf] <;> omega
  ·obtain rfl:k=n:=by omega
   have HZ:=ab (show FGo Xo w B gp gg gr wd gf R op p (xs++L) s wv from ⟨R1,o1,by rw [HN.out,List.take_length] at hf;exact hf,hu,Ik,hop⟩);have j1:decide ((k:Int)<(k:Int))=false:=ai (by omega);clear hf hu Ik hop;go_wp2;exact bodyPost_end (by kernel_rfl) rfl ⟨rfl,HZ.out⟩
end
section
variable {Xo : an}
section
variable {w w1 w2 : World} {B gp gg gr wd gf : Nat} {R : List Rw} {op : Option Nat} {p : Pn} {xs : List Int} {s : St}
theorem lq(h:FAt Xo w B gp gg gr wd gf R p xs s op){b:Nat}(h1:w.heap.size<=b)(h2:b<w1.heap.size):¬ FW w1 gp gr gf R op b:=by
 obtain ⟨_,_,hp⟩:=h.2.pen;have hl:=hp.lt;have hg:=hp.2.2.1.lt;have hf:=h.lt;rintro ((e | e) | e)
 ·rcases e with e | e | ⟨i,hi,e⟩ | e
  ·omega
  ·omega
  ·have:=hg.2.2.2.2.2 i hi;rcases e with e | e <;> omega
  ·omega
 ·obtain ⟨Yo,y1,y2,y3⟩:=h.2
  cases ho:cm xs with
  |false=>rw [(y2 ho).1] at e;cases e
  |true =>
   obtain ⟨g,e1,_,e3⟩:=y3 ho;rw [e1] at e
   cases e
   have:=e3.2.lt;omega
 ·omega
theorem lr(h:FAt Xo w B gp gg gr wd gf R p xs s op){v:Value}{L:List Int}(hv:HeldE (aF .i32) (fun b=>w.heap.size<=b) w1 v L):HeldE (aF .i32) (fun b=>¬ FW w1 gp gr gf R op b) w1 v L:=hv.zone fun b hb hz=>lq h hz hb
theorem FAt.dec(h:FAt Xo w B gp gg gr wd gf R p xs s op){t:St}(h1:FDec (fxs gp xs op) w1 gf t.1 t.2.1 t.2.2)(hb:But gf w.heap.size w w1):FAt Xo w1 B gp gg gr wd gf R p xs t op/\Upd (FW w gp gr gf R op) w w1 :=
 ⟨⟨h1,(h.2.turned h.1 hb).1⟩,(h.2.turned h.1 hb).2.1⟩
theorem tj(h:FAt Xo w B gp gg gr wd gf R p xs s op)(hs:wfS s){x:Int}(x0:0<=x)(x1:x<=255):Calls Tryz.prog 80 #[.pointer (some ⟨gf,1,none⟩),.int .u8 x] w (fun e w'=>∃ v,e=.returned v/\FAt Xo w' B gp gg gr wd gf R p xs (ch s x) op/\HeldE (aF .i32) (fun b=>¬ FW w' gp gr gf R op b) w' v (db s x)/\Upd (FW w gp gr gf R op) w w'):=by
 refine (oW gf s.1 s.2.1 s.2.2 x w h.1 hs x0 x1).mono ?_;rintro e w' ⟨v,rfl,k1,k2,k3⟩;obtain ⟨q1,q2⟩:=h.dec (t:=ch s x) k2 k3;exact ⟨v,rfl,q1,lr h k1,q2⟩
theorem tm(h:FAt Xo w B gp gg gr wd gf R p xs s op):Calls Tryz.prog 26 #[.pointer (some ⟨gf,0,none⟩)] w (fun e w'=>e=.returned (.tuple #[])/\FGo Xo w B gp gg gr wd gf R op (bP wd p (bJ xs)) [] s w'):=by
 refine (ls (fxs gp xs op) gf s.1 s.2.1 s.2.2 w h.1).mono ?_;rintro e w' ⟨rfl,k1,k2⟩;obtain ⟨q1,q2,q3⟩:=h.2.turned h.1 k2;exact ⟨rfl,R,none,⟨k1,q1.close⟩,q2,q3,fun g e=>by cases e⟩
def st0:St:=(0,0,0)
theorem yM{t:St}(h:wfS t)(e:t.2.2=0):t=st0:=by
 obtain ⟨a,b,c⟩:=t
 rcases h with ⟨h1,h2,h3⟩ | ⟨_,_,h3,_⟩
 ·simp only at h1 h2 h3;subst h1;subst h2;subst h3;rfl
 ·simp only at h3 e;omega
end
section
variable {X : FX}
theorem mu(g:Nat)(l b h:Int)(w:World)(hd:FDec X w g l b h)(hh:0<h):Calls Tryz.prog 82 #[.pointer (some ⟨g,1,none⟩)] w (fun e w'=>∃ v,e=.returned v/\HeldE (aF .i32) (fun b=>w.heap.size<=b) w' v [65533]/\FDec X w' g 0 0 0/\But g w.heap.size w w'):=by
 have c0:=hd.cell 1 _ rfl;have c1:=hd.cell 2 _ rfl;have c2:=hd.cell 3 _ rfl;have f0:=hd.free 1;have f1:=hd.free 2;have f2:=hd.free 3;have hl:=hd.lt;have t1:(h == 0)=false:=by simp;omega
 have hz:=hd.zero;have hzb:=cu w g (.int .u8 0) (.int .i32 0) (.int .i64 0);obtain ⟨W,hW⟩:=ae ((((w.setCell ⟨g,1,none⟩ (.int .u8 0)).setCell ⟨g,2,none⟩ (.int .i32 0)).setCell ⟨g,3,none⟩ (.int .i64 0)));rw [<-hW] at hz hzb;have hown:=World.ownsRow_lit (base:=W.heap.size) (e:=21) (size:=1) W #[.int .i32 65533] 1 (Nat.le_refl _) (by decide) rfl;have JJ:HeldE (aF .i32) (fun b=>w.heap.size<=b) (W.alloc (.cells #[.int .i32 65533] 21)) (.slice (some ⟨W.heap.size,0,none⟩) 1 1) [65533]:=(HeldE.ownedInts (xs:=[65533]) hown).zone fun b _ h=>Nat.le_trans hzb.size h
 rw [show (Value.slice (some ⟨W.heap.size,0,none⟩) 1 1)=.slice (some ⟨w.heap.size,0,none⟩) 1 1 from by rw [hW];simp] at JJ;have HF:=ab (And.intro JJ (And.intro (Has.alloc hz (.cells #[.int .i32 65533] 21)) ((hzb.alloc (Nat.le_refl _) (.cells #[.int .i32 65533] 21)))));have HD:=ab hd;have HW:=ab hW;clear hd hz hzb hown JJ hW
 go_enter Tryz.func82,Tryz.ntmps82
 go_wp2_with fail
 refine (fF g l b h _ HD.out).mono ?_;rintro e w' ⟨rfl,rfl⟩
 go_wp2_with fail
 rw [<-HW.out];go_ret;exact ⟨_,af,HF.out.1,HF.out.2.1,HF.out.2.2⟩
end
section
variable {w : World} {B gp gg gr wd gf : Nat} {R : List Rw} {op : Option Nat} {p : Pn} {xs : List Int} {s : St}
def flT(s:St):List Int:=if 0<s.2.2 then [65533] else []
theorem qZ(h:FAt Xo w B gp gg gr wd gf R p xs s op)(hs:wfS s):Calls Tryz.prog 82 #[.pointer (some ⟨gf,1,none⟩)] w (fun e w'=>∃ v,e=.returned v/\FAt Xo w' B gp gg gr wd gf R p xs st0 op/\HeldE (aF .i32) (fun b=>¬ FW w' gp gr gf R op b) w' v (flT s)/\Upd (FW w gp gr gf R op) w w'):=by
 by_cases h0:0<s.2.2
 ·unfold flT;rw [if_pos h0];refine (mu gf s.1 s.2.1 s.2.2 w h.1 h0).mono ?_;rintro e w' ⟨v,rfl,k1,k2,k3⟩;obtain ⟨q1,q2⟩:=h.dec (t:=st0) k2 k3;exact ⟨v,rfl,q1,lr h k1,q2⟩
 ·have hz:s.2.2=0:=by
   rcases hs with ⟨_,_,h3⟩ | ⟨_,_,h3,_⟩
   ·exact h3
   ·omega
  have e0:=yM hs hz;subst e0;refine (mA gf 0 0 w h.1).mono ?_;rintro e w' ⟨rfl,rfl⟩;exact ⟨_,rfl,h,HeldE.nil _ _ _,Upd.refl _ _⟩
end
theorem yN(B gp gg gr wd gf:Nat)(R:List Rw)(p:Pn)(xs:List Int)(s:St)(op:Option Nat)(w:World)(h:FAt Xo w B gp gg gr wd gf R p xs s op)(hs:wfS s) :
  Calls Tryz.prog 25 #[.pointer (some ⟨gf,0,none⟩)] w (fun e w'=>e=.returned (.tuple #[])/\FGo Xo w B gp gg gr wd gf R op (bP wd p (bJ (xs++flT s))) [] st0 w'):=by
 have Jf:=ab (qZ h hs);have H:=ab h;clear h
 go_enter Tryz.func25,Tryz.ntmps25
 go_wp2_with fail
 refine Jf.out.mono ?_;rintro e w1 ⟨v,rfl,h1,hv,u1⟩;have HC:=ab (mG B gp gg gr wd gf R p xs st0 op v (flT s) w1 h1 hv);have U1:=ab u1;clear h1 hv u1
 go_wp2_with fail
 refine HC.out.mono ?_;rintro e w2 ⟨rfl,R2,o2,k1,k2,k3,k4⟩;have HL:=ab (tm k1);have HG:=ab (And.intro k2 (And.intro k3 k4));clear k1 k2 k3 k4
 go_wp2_with fail
 refine HL.out.mono ?_;rintro e w3 ⟨rfl,k⟩;have hk:=FGo.trans (R:=R) (op:=op) U1.out (RowsFrom.self _ _) (fun _ e=>.inl e) (FGo.trans HG.out.1 HG.out.2.1 HG.out.2.2 k);have HK:=ab hk;clear hk k;go_wp2;exact bodyPost_end (by kernel_rfl) rfl ⟨rfl,HK.out⟩
end
section
variable {Xo : an}
theorem vK{Z:an}{w:World}{ao:Option Addr}{n cap:Nat}{L:List Int}(h:HeldE (aF .u8) Z w (.slice ao n cap) L):n=L.length/\n<=cap/\∀ i,i<L.length->∃ b off,ao=some ⟨b,off,none⟩/\b<w.heap.size/\w.cell? ⟨b,off+i,none⟩=some (.int .u8 (L.getD i 0)):=by
 obtain ⟨h1,h2,h3⟩:=h.spots;refine ⟨h1,h2,fun i hi=>?_⟩;obtain ⟨b,off,rfl,hb,hz,C,hC,hr⟩:=h3 i hi;have Mn:C=[.int .u8 (L.getD i 0)]:=hr;subst Mn;have h0:=hC 0 (by decide);refine ⟨b,off,rfl,hb,?_⟩
 simpa [aF] using h0
def inBytes(L:List Int):Prop:=∀ i,i<L.length->0<=L.getD i 0/\L.getD i 0<=255
theorem inBytes.mem{L:List Int}(h:inBytes L)(k:Nat):∀ x ∈ L.take k,0<=x/\x<=255:=fun x hx=>by
 obtain ⟨i,hi,rfl⟩:=List.mem_iff_getElem.1 (List.mem_of_mem_take hx);have:=h i hi
 rwa [show L.getD i 0=L[i] from by simp [List.getD,List.getElem?_eq_getElem hi]] at this
theorem fb(B gp gg gr wd gf:Nat)(R:List Rw)(p:Pn)(xs:List Int)(s:St)(op:Option Nat)(v:Value)(L:List Int)(w:World)(h:FAt Xo w B gp gg gr wd gf R p xs s op)(hs:wfS s)(hv:HeldE (aF .u8) (fun b=>¬ FW w gp gr gf R op b) w v L)(hL:inBytes L) :
  Calls Tryz.prog 23 #[.pointer (some ⟨gf,0,none⟩),v] w (fun e w'=>e=.returned (.tuple #[])/\FGo Xo w B gp gg gr wd gf R op p (xs++aE s L) (aI s L) w'):=by
 have hmx:=hv.max;obtain ⟨ao,ca,rfl⟩:=hv.len;obtain ⟨n,hn⟩:=ae (L.length);have HN:=ab hn;have Jv:=ab hmx;rw [<-hn] at hv ⊢;have HV:=ab hv;have H:=ab h;have HS:=ab hs;have Gp:=ab hL;clear h hv hn hmx hs hL
 go_enter Tryz.func23,Tryz.ntmps23
 go_wp2
 go_loopw [10] (fun iv wr=>∃ (k:Nat) (R1:List Rw) (o1:Option Nat),k<=n/\iv=.int .i64 k/\FAt Xo wr B gp gg gr wd gf R1 p (xs++aE s (L.take k)) (aI s (L.take k)) o1/\Upd (FW w gp gr gf R op) w wr/\RowsFrom w R R1/\(∀ g,o1=some g->op=some g\/w.heap.size<=g)) (fun iv _=>n - (intOf iv).toNat)
 case atStart=>exact ⟨0,R,op,Nat.zero_le _,rfl,by rw [List.take_zero];show FAt Xo w B gp gg gr wd gf R p (xs++[]) s op;rw [List.append_nil];exact H.out,Upd.refl _ _,RowsFrom.self _ _,fun _ e=>.inl e⟩
 case round =>
  obtain ⟨k,R1,o1,hk,rfl,hf,hu,Ik,hop⟩:=hrel;obtain ⟨wv,C9⟩:=ae (wr);subst C9
  by_cases hlt:k<n
  ·have j1:decide ((k:Int)<(n:Int))=true:=ah (by omega);have j2:decide (k<n)=true:=ah (by omega);have OO:(k:Int)<(n:Int):=by omega
   have PW:IntKind.i64.wrap ((k:Int)+1)=(k:Int)+1:=by
    have:=Jv.out;have:=HN.out;unfold maxLen at this;rw [IntKind.wrap_i64];omega
   have JO:=vK (HV.out.upd hu fun b hz e=>hz e);have J7:=JO.2.1;have hc:=JO.2.2;clear JO;obtain ⟨bl,ol,rfl,_,hcell⟩:=hc k (by rw [<-HN.out];exact hlt);obtain ⟨r,hr⟩:=ae (L.getD k 0);rw [<-hr] at hcell;have Md:0<=r/\r<=255:=by rw [hr];exact Gp.out k (by rw [<-HN.out];exact hlt)
   obtain ⟨ys,FD⟩:=ae (xs++aE s (L.take k));obtain ⟨t,ht⟩:=ae (aI s (L.take k));have Fp:k<L.length:=by rw [<-HN.out];exact hlt
   have OW:=ab (show xs++aE s (L.take (k+1))=ys++db t r/\aI s (L.take (k+1))=ch t r from by
    rw [FD,ht,hr,fG s L k Fp,fH s L k Fp,List.append_assoc];exact ⟨rfl,rfl⟩)
   have HWF:=ab (show wfS t from by rw [ht];exact jF s _ HS.out (Gp.out.mem k));rw [<-FD,<-ht] at hf;have HF:=ab hf;have JV:=ab (show ∀ w',FGo Xo wv B gp gg gr wd gf R1 o1 p (ys++db t r) (ch t r) w'->∃ (R2:List Rw) (o2:Option Nat),FAt Xo w' B gp gg gr wd gf R2 p (xs++aE s (L.take (k+1))) (aI s (L.take (k+1))) o2/\Upd (FW w gp gr gf R op) w w'/\RowsFrom w R R2/\(∀ g,o2=some g->op=some g\/w.heap.size<=g) from fun w' k=>by
    obtain ⟨R2,o2,q1,q2,q3,q4⟩:=FGo.trans hu Ik hop k;rw [<-OW.out.1,<-OW.out.2] at q1;exact ⟨R2,o2,q1,q2,q3,q4⟩)
   have HST:=ab (tj hf HWF.out Md.1 Md.2);have Mh:k<ca:=by omega
   clear hf hu Ik hop FD hr hc Fp ht Md
   go_wp2_with fail
   refine HST.out.mono ?_;rintro e w1 ⟨v1,rfl,h1,Nw,u1⟩;have HC:=ab (mG B gp gg gr wd gf R1 p ys (ch t r) o1 v1 (db t r) w1 h1 Nw);have U1:=ab u1;clear h1 Nw u1 hcell
   go_wp2_with fail
   refine HC.out.mono ?_;rintro e w2 ⟨rfl,kk⟩;obtain ⟨R2,o2,q1,q2,q3,q4⟩:=JV.out w2 (FGo.trans (R:=R1) (op:=o1) U1.out (RowsFrom.self _ _) (fun _ e=>.inl e) kk);have HZ:=ab (And.intro q1 (And.intro q2 (And.intro q3 q4)));clear kk q1 q2 q3 q4;go_wp2
   go_roundw
   case rel=>exact ⟨k+1,R2,o2,by omega,by go_num,HZ.out.1,HZ.out.2.1,HZ.out.2.2.1,HZ.out.2.2.2⟩
   case measure=>simp [intOf] <;> omega
  ·obtain rfl:k=n:=by omega
   have HZ:=ab (show FGo Xo w B gp gg gr wd gf R op p (xs++aE s L) (aI s L) wv from ⟨R1,o1,by rw [HN.out,List.take_length] at hf;exact hf,hu,Ik,hop⟩);have j1:decide ((k:Int)<(k:Int))=false:=ai (by omega);clear hf hu Ik hop;go_wp2;exact bodyPost_end (by kernel_rfl) rfl ⟨rfl,HZ.out⟩
section
variable {w : World} {B gp gg gr wd gf : Nat} {R : List Rw} {op : Option Nat} {p : Pn} {xs : List Int} {s : St}
theorem jS(h:FAt Xo w B gp gg gr wd gf R p xs s op):Calls Tryz.prog 27 #[.pointer (some ⟨gf,0,none⟩)] w (fun e w'=>e=.returned (.int .i64 s.2.2)/\w=w'):=by
 have HH:=ab (fF gf s.1 s.2.1 s.2.2 w h.1);obtain ⟨x,hx⟩:=ae (s.2.2);rw [<-hx] at HH ⊢;clear h hx
 go_enter Tryz.func27,Tryz.ntmps27
 go_wp2_with fail
 refine HH.out.mono ?_;rintro e w1 ⟨rfl,rfl⟩;go_wp2;go_ret;exact ⟨af,rfl⟩
def i8(xs:List Int):List Int:=if cm xs=true then eJ (aY xs) (clN (aY xs)) else []
theorem jT(h:FAt Xo w B gp gg gr wd gf R p xs s op):Calls Tryz.prog 28 #[.pointer (some ⟨gf,0,none⟩)] w (fun e w'=>∃ v,e=.returned v/\HeldE (aF .i32) (fun b=>w.heap.size<=b) w' v (i8 xs)/\Below w.heap.size w w'):=by
 have c9:=h.cells.2;obtain ⟨Yo,y1,y2,y3⟩:=h.2
 cases ho:cm xs with
 |false =>
  have he:i8 xs=[]:=by unfold i8;rw [ho];rfl
  rw [(y2 ho).1] at c9;have c9:w.cell? ⟨gf,9,none⟩=some (.pointer none):=c9;rw [he];clear h y1 y2 y3 he ho
  go_enter Tryz.func28,Tryz.ntmps28
  go_wp2_with fail
  refine (wW w).mono ?_;rintro e w1 ⟨rfl,rfl⟩;go_wp2;go_ret;exact ⟨_,af,HeldE.nil _ _ _,Below.refl _ _⟩
 |true =>
  obtain ⟨g,e1,_,e3⟩:=y3 ho;have he:i8 xs=eJ (aY xs) (clN (aY xs)):=by unfold i8;rw [if_pos ho]
  rw [e1] at c9;have c9:w.cell? ⟨gf,9,none⟩=some (.pointer (some ⟨g,0,none⟩)):=c9;have HT:=ab (wV g _ _ _ _ _ _ _ _ w e3.2);rw [he];obtain ⟨T,hT⟩:=ae (eJ (aY xs) (clN (aY xs)));rw [<-hT] at HT ⊢;clear h y1 y2 y3 he ho e1 e3 hT
  go_enter Tryz.func28,Tryz.ntmps28
  go_wp2_with fail
  refine HT.out.mono ?_;rintro e w1 ⟨v1,rfl,ho,hb⟩;have HF:=ab (And.intro (HeldE.ownedInts ho) hb);clear ho hb;go_wp2;go_ret;exact ⟨_,af,HF.out.1,HF.out.2⟩
theorem yL(h:fX w B gp gg gr wd R p.L p.r p.c p.pd p.au):FAt (fun _=>True) (w.alloc (.cells #[.pointer (some ⟨gp,0,none⟩),.int .u8 0,.int .i32 0,.int .i64 0,.bool false,.int .i64 0,.int .u8 0,.int .u8 0,.bool false,.pointer none] 143)) B gp gg gr wd w.heap.size R p [] st0 none :=
 ⟨Has.new w (fxL (fxs gp [] none) 0 0 0) 143,fun b=>True/\b≠w.heap.size,fun _ e=>⟨e.2,trivial⟩,fun _=>⟨rfl,h.1.alloc _,h.2.1,h.2.2.1.new2 _,h.2.2.2⟩,fun e=>by cases e⟩
theorem lp(h:fX w B gp gg gr wd R p.L p.r p.c p.pd p.au):Calls Tryz.prog 29 #[.pointer (some ⟨gp,0,none⟩)] w (fun e w'=>∃ gf,e=.returned (.pointer (some ⟨gf,0,none⟩))/\w.heap.size<=gf/\FAt (fun _=>True) w' B gp gg gr wd gf R p [] st0 none/\Below w.heap.size w w'):=by
 have c0:=h.1.cell 0 _ rfl;have hb:=AU w (.cells #[.pointer (some ⟨gp,0,none⟩),.int .u8 0,.int .i32 0,.int .i64 0,.bool false,.int .i64 0,.int .u8 0,.int .u8 0,.bool false,.pointer none] 143);have HF:=ab (And.intro (Nat.le_refl w.heap.size) (And.intro (yL h) hb));clear h hb
 go_enter Tryz.func29,Tryz.ntmps29
 go_wp2;go_ret;exact ⟨_,af,HF.out.1,HF.out.2.1,HF.out.2.2⟩
end
end
section
variable {Xo : an}
section
variable {n : Nat} {w w1 : World} {gp gg gr wd gf : Nat} {R : List Rw} {op : Option Nat} {p p2 : Pn} {xs ys : List Int} {s t : St}
def FOn(Xo:an)(n:Nat)(w:World)(gp gg gr wd gf:Nat)(R:List Rw)(p:Pn)(xs:List Int)(s:St)(op:Option Nat):Prop:=FAt Xo w n gp gg gr wd gf R p xs s op/\n<=gf/\(∀ g,op=some g->n<=g)/\n<=w.heap.size
theorem ss(h:FOn Xo n w gp gg gr wd gf R p xs s op)(b:Nat)(hb:FW w gp gr gf R op b):n<=b:=by
 obtain ⟨h1,h2,h3,h4⟩:=h
 rcases hb with (e | e) | e
 ·obtain ⟨_,_,hp⟩:=h1.2.pen;exact zR hp.any h4 b e
 ·exact h3 b e
 ·rw [e];exact h2
theorem FOn.below(h:FOn Xo n w gp gg gr wd gf R p xs s op)(hb:Below w.heap.size w w1):FOn Xo n w1 gp gg gr wd gf R p xs s op:=⟨h.1.below hb,h.2.1,h.2.2.1,Nat.le_trans h.2.2.2 hb.size⟩
theorem FOn.go(h:FOn Xo n w gp gg gr wd gf R p xs s op)(k:FGo Xo w n gp gg gr wd gf R op p2 ys t w1):∃ R' op',FOn Xo n w1 gp gg gr wd gf R' p2 ys t op'/\Upd (FW w gp gr gf R op) w w1/\Below n w w1/\RowsFrom w R R'/\∀ g,op'=some g->op=some g\/w.heap.size<=g:=by
 obtain ⟨R',op',k1,k2,k3,k4⟩:=k;refine ⟨R',op',⟨k1,h.2.1,fun g e=>?_,Nat.le_trans h.2.2.2 k2.size⟩,k2,k2.below h.2.2.2 (ss h),k3,k4⟩
 rcases k4 g e with e | e
 ·exact h.2.2.1 g e
 ·exact Nat.le_trans h.2.2.2 e
theorem FOn.made{k:IntKind}(h:FOn Xo n w gp gg gr wd gf R p xs s op){v:Value}{L:List Int}(hv:HeldE (aF k) (fun b=>w.heap.size<=b) w1 v L):HeldE (aF k) (fun b=>¬ FW w1 gp gr gf R op b) w1 v L:=hv.zone fun b hb hz=>lq h.1 hz hb
end
def fk0:Pn:=⟨List.replicate 1 (List.replicate 3 zc,false),0,0,false,true⟩
def fkS(k:Nat):St:=if k=0 then st0 else if k=1 then aI st0 [101] else if k=2 then aI (aI st0 [101]) [204] else aI (aI (aI st0 [101]) [204]) [129]
def fkX:List Int:=(([]++aE st0 [101])++aE (fkS 1) [204])++aE (fkS 2) [129]
theorem fk_1:fkX=[101,769]/\(fkS 3).2.2=0:=by decide +kernel
theorem AM:i8 [101,769]=[101,769]:=by decide +kernel
theorem fk_3:((bP 3 fk0 (bJ [101,769])).L.getD 0 zl).1.getD 0 zc=(1,[101,769])/\(bP 3 fk0 (bJ [101,769])).L.length=1:=by decide +kernel
theorem vI:wfS st0:=me
theorem vJ:wfS (fkS 1):=jF _ _ vI (by decide)
theorem zU:wfS (fkS 2):=jF _ _ vJ (by decide)
theorem zV(x:Int)(h0:0<=x)(h1:x<=255):inBytes [x]:=by
 intro i hi;have:i=0:=by simpa using hi
 subst this;exact ⟨h0,h1⟩
theorem et(w:World):Calls Tryz.prog 30 #[] w (Yes w):=by
 have PP:=ab (pW 3 1 w);rw [show df 3=3 from rfl,show df 1=1 from rfl] at PP
 go_enter Tryz.func30,Tryz.ntmps30
 go_wp2_with fail
 refine PP.out.mono ?_;rintro e w1 ⟨gp,gg,gr,R0,rfl,h1,b1⟩;have KF:=ab (lp (p:=fk0) h1);have B1:=ab b1;clear h1 b1 PP
 go_wp2_with fail
 refine KF.out.mono ?_;rintro e w2 ⟨gf,rfl,hg,h2,b2⟩;have k2:FOn (fun _=>True) w.heap.size w2 gp gg gr 3 gf R0 fk0 [] st0 none:=⟨h2,Nat.le_trans B1.out.size hg,(fun g e=>by cases e),Nat.le_trans B1.out.size b2.size⟩;have B2:=ab (B1.out.trans (b2.mono B1.out.size));have hb:=AU w2 (.cells [Value.int .u8 101].toArray 5);have ht:=aT (w:=w2) (ty:=5) (E:=aF .u8) (Y:=fun _=>False) (Z:=fun b=>w2.heap.size<=b) [.int .u8 101] 101 rfl (fun _ _ h=>h.elim) (Nat.le_refl _);have HP:=ab (fb w.heap.size gp gg gr 3 gf R0 fk0 [] st0 none _ [101] _ (k2.below hb).1 vI (k2.made ht) (zV 101 (by decide) (by decide)));have H2:=ab (k2.below hb);replace B2:=ab (B2.out.trans (hb.mono B2.out.size));clear h2 b2 hb ht k2 KF B1 hg
 go_wp2_with fail
 refine HP.out.mono ?_;rintro e w3 ⟨rfl,kg⟩;obtain ⟨R3,op3,k3,_,b3,_⟩:=H2.out.go kg;have B3:=ab (B2.out.trans b3);have hb:=AU w3 (.cells [Value.int .u8 204].toArray 5);have ht:=aT (w:=w3) (ty:=5) (E:=aF .u8) (Y:=fun _=>False) (Z:=fun b=>w3.heap.size<=b) [.int .u8 204] 204 rfl (fun _ _ h=>h.elim) (Nat.le_refl _);have HP:=ab (fb w.heap.size gp gg gr 3 gf R3 fk0 _ (fkS 1) op3 _ [204] _ (k3.below hb).1 vJ (k3.made ht) (zV 204 (by decide) (by decide)));have H3:=ab (k3.below hb);replace B3:=ab (B3.out.trans (hb.mono B3.out.size));clear kg b3 hb ht k3 B2 H2
 go_wp2_with fail
 refine HP.out.mono ?_;rintro e w4 ⟨rfl,kg⟩;obtain ⟨R4,op4,k4,_,b4,_⟩:=H3.out.go kg;have B4:=ab (B3.out.trans b4);have hb:=AU w4 (.cells [Value.int .u8 129].toArray 5);have ht:=aT (w:=w4) (ty:=5) (E:=aF .u8) (Y:=fun _=>False) (Z:=fun b=>w4.heap.size<=b) [.int .u8 129] 129 rfl (fun _ _ h=>h.elim) (Nat.le_refl _);have HP:=ab (fb w.heap.size gp gg gr 3 gf R4 fk0 _ (fkS 2) op4 _ [129] _ (k4.below hb).1 zU (k4.made ht) (zV 129 (by decide) (by decide)));have H4:=ab (k4.below hb);replace B4:=ab (B4.out.trans (hb.mono B4.out.size));clear kg b4 hb ht k4 B3 H3
 go_wp2_with fail
 refine HP.out.mono ?_;rintro e w5 ⟨rfl,kg⟩;obtain ⟨R5,op5,k5,_,b5,_⟩:=H4.out.go kg;have k5:FOn (fun _=>True) w.heap.size w5 gp gg gr 3 gf R5 fk0 fkX (fkS 3) op5:=k5;rw [fk_1.1] at k5;have B5:=ab (B4.out.trans b5);obtain ⟨Yo,_,Kb⟩:=k5.1.2.pen;have z0:=Kb.1.cell 0 _ rfl;have DB:=Kb.sizes.2.2.2.2.1;have hrl2:R5.length=1:=by rw [DB];exact fk_3.2
 have hrow:=Kb.2.2.1.row (i:=0) (by omega);have DA:=(jv Kb.2.2.2 0 (by omega)).1;have hlen:(R5.getD 0 r0).L.length=3:=by rw [DA];exact Kb.sizes.2.2.2.2.2 0 (by rw [fk_3.2];decide)
 have JM:=ab (it w.heap.size gg gr 3 R5 0 _ Kb.2.2.1 (by omega));have HC:=ab (show Calls Tryz.prog 85 #[.pointer (some ⟨(R5.getD 0 r0).g,0,none⟩),.int .i64 0] w5 (fun e w'=>∃ tv,e=.returned (.tuple #[.agg #[.int .i64 1,tv],.bool true])/\HeldE (aF .i32) (fun b=>w5.heap.size<=b) w' tv [101,769]/\Below w5.heap.size w5 w') from by
  have hx:=xC _ _ _ _ _ _ 0 _ hrow (by rw [hlen];decide);rw [DA,fk_3.1] at hx;exact hx)
 have H5:=ab k5;obtain ⟨gk,I1⟩:=ae ((R5.getD 0 r0).g);rw [<-I1] at JM HC;clear kg b5 hrow DA hlen DB hrl2 Kb I1 k5 B4 H4 HP
 go_wp2_with fail
 refine JM.out.mono ?_;rintro e wz ⟨rfl,rfl⟩
 go_wp2_with fail
 refine HC.out.mono ?_;rintro e w6 ⟨tv,rfl,h6,b6⟩;obtain ⟨ta,tc,e6⟩:=h6.len;rw [show ([101,769]:List Int).length=2 from rfl] at e6;subst e6;have B6:=ab (B5.out.trans (b6.mono B5.out.size));have H6:=ab (H5.out.below b6);have HT:=ab h6.ints;clear b6 h6 B5 H5 HC JM
 go_upto_region 9 with (fail)
 obtain ⟨W7,Lv⟩:=ae (w6.alloc (.cells #[.int .i64 1,.slice ta 2 tc] 147));rw [<-Lv];have hb:Below w6.heap.size w6 W7:=by rw [Lv];exact AU w6 _
 have hit:Has W7 w6.heap.size [.int .i64 1,.slice ta 2 tc] 147:=by rw [Lv];exact Has.new w6 _ _
 have c1:=hit.cell 1 _ rfl;have LO:=AU W7 (.cells [Value.int .i32 101,Value.int .i32 769].toArray 21);have H8:=ab ((H6.out.below hb).below LO);have B8:=ab ((B6.out.trans (hb.mono B6.out.size)).trans (LO.mono (Nat.le_trans B6.out.size hb.size)));have HS:=ab (lN _ _ [101,769] [101,769] _ ((HT.out.below hb).below LO) (gQ .i32 W7 [Value.int .i32 101,Value.int .i32 769] 21 2 2 [101,769] rfl rfl) (by decide));rw [lM] at HS;have HH:=ab (fun w' (b:Below _ _ w')=>(jS (H8.out.below b).1));have HO:=ab (fun w' (b:Below _ _ w')=>(jT (H8.out.below b).1));rw [fk_1.2] at HH;rw [AM] at HO;clear Lv hb hit LO H6 B6 HT
 go_wp2_with fail
 refine HS.out.mono ?_;rintro e wa ⟨rfl,ba⟩
 go_wp2_with fail
 refine (HH.out _ ba).mono ?_;rintro e wb ⟨rfl,rfl⟩
 go_wp2_with fail
 refine (HO.out _ ba).mono ?_;rintro e wc ⟨v,rfl,hv,bc⟩;obtain ⟨va,vc,rfl⟩:=hv.len;have HB:=ab ((B8.out.trans (ba.mono B8.out.size)).trans (bc.mono (Nat.le_trans B8.out.size ba.size)));clear hv bc ba;go_wp2;go_ret;exact ⟨af,HB.out⟩
end
end Go.Proofs.YtoeggiplcaegoaaGreatDoor
