import Derived.Test.YtoeggiplcaegoaaGreatDoorZ0
import Derived.Test.YtoeggiplcaegoaaGreatDoorPlcX
import Derived.Test.YtoeggiplcaegoaaGreatDoorMg5
import Derived.Test.YtoeggiplcaegoaaGreatDoorMg3
import Derived.Test.YtoeggiplcaegoaaGreatDoorMg4
import Derived.Test.YtoeggiplcaegoaaGreatDoorMg2
import Derived.Lib.MinMax
import Derived.Test.YtoeggiplcaegoaaGreatDoorMg6
import Derived.Test.YtoeggiplcaegoaaGreatDoorFedB
import Derived.Test.YtoeggiplcaegoaaGreatDoorMg1
import Derived.StillTailTactics
set_option maxRecDepth 100000
set_option maxHeartbeats 8000000
namespace Go.Proofs.YtoeggiplcaegoaaGreatDoor
open Go.RowKit Go.ChangeShapes Go.WideShapes
theorem tS(a b:Nat)(ha:a<=1024)(hb:b<=1024)(w:World):Calls Tryz.prog 32 #[.int .i64 a,.int .i64 b] w (fun e w'=>∃ v,e=.returned (.agg #[v,.int .i64 0,.int .i64 0,.bool false,.bool true])/\HeldE lineE (fun x=>w.heap.size+1<=x) w' v (List.replicate b (List.replicate a zc,false))/\Below w.heap.size w w'):=by
 have B7:=zI w (.cells [Value.slice none 0 0,.int .i64 0,.int .i64 0,.bool false,.bool false].toArray 43);have JT:=Has.new w [Value.slice none 0 0,.int .i64 0,.int .i64 0,.bool false,.bool false] 43;obtain ⟨W,hW⟩:=ae (w.alloc (.cells [Value.slice none 0 0,.int .i64 0,.int .i64 0,.bool false,.bool false].toArray 43));rw [<-hW] at B7 JT;have hs:W.heap.size=w.heap.size+1:=by rw [hW];simp
 have JA:W=w.alloc (.cells #[Value.slice none 0 0,.int .i64 0,.int .i64 0,.bool false,.bool false] 43):=hW;have HB:=ab B7;have HN:=ab JT;have HS:=ab hs;clear B7 JT hW hs
 go_enter Tryz.func32,Tryz.ntmps32
 go_upto_region 1 with (fail)
 rw [<-JA];clear JA
 go_wp2_with fail
 refine (ym a b ha hb W).mono ?_;rintro e w1 ⟨v1,rfl,AA,b1⟩;have hh:=((AA.held (fun _ hx _=>hx)).zone (Y:=fun x=>w.heap.size+1<=x) (fun x _ hx=>by have:=HS.out;omega));obtain ⟨o1,c1,ev⟩:=hh.len;subst ev;obtain ⟨n1,hn1e⟩:=ae ((List.replicate b ((List.replicate a zc,false):Ln)).length);rw [<-hn1e] at hh ⊢;have DL:=HN.out.below b1 HN.out.lt;have Dp:=HB.out.trans (b1.mono HB.out.size);have k0:=DL.cell 0 _ rfl;have k1:=DL.cell 1 _ rfl;have k2:=DL.cell 2 _ rfl;have k3:=DL.cell 3 _ rfl;have k4:=DL.cell 4 _ rfl;have g0:=DL.free 0;have g1:=DL.free 1;have g2:=DL.free 2;have g3:=DL.free 3;have g4:=DL.free 4;have hlt:=DL.lt;have hbl:=ir (g:=w.heap.size) Dp (Nat.le_refl _) (.slice o1 n1 c1) (.int .i64 0) (.int .i64 0) (.bool false) (.bool true);have EH:=hh.upd (aT w.heap.size (.slice o1 n1 c1) (.int .i64 0) (.int .i64 0) (.bool false) (.bool true)) (fun x hx e=>by omega);have HF:=ab (And.intro EH hbl);clear hbl EH hh AA DL Dp b1 hn1e;go_wp2;exact bodyPost_ret (v:=.agg #[.slice o1 n1 c1,.int .i64 0,.int .i64 0,.bool false,.bool true]) (by simp [results,Tryz.results32,go_sem,k0,k1,k2,k3,k4]) rfl ⟨_,rfl,HF.out.1,HF.out.2⟩
theorem wL(r c:Int)(p:Bool)(w:World):(binOp .eql 24 (.agg #[.int .i64 r,.int .i64 c,.bool p]) (.agg #[.int .i64 r,.int .i64 c,.bool p])).run Tryz.prog w=.ok (.bool true) w:=by
 rw [yj]
 simp [wI]
theorem tT(B gp gg gr wd:Nat)(R1:List Rw)(Ls:List Ln)(r c:Int)(pd au:Bool)(Z:an)(v:Value)(w:World)(h:gC w B gp gg gr wd R1 Ls r c pd au)(hv:HeldE lineE Z w v Ls):Calls Tryz.prog 18 #[.pointer (some ⟨gp,0,none⟩),.agg #[v,.int .i64 r,.int .i64 c,.bool pd,.bool au]] w (Gives w (.bool true)):=by
 obtain ⟨o,k,rfl⟩:=hv.len;obtain ⟨n,hn⟩:=ae (Ls.length);rw [<-hn] at hv ⊢;have B7:=zI w (.cells [Value.slice o n k,.int .i64 r,.int .i64 c,.bool pd,.bool au].toArray 43);have JT:=Has.new w [Value.slice o n k,.int .i64 r,.int .i64 c,.bool pd,.bool au] 43;obtain ⟨W,hW⟩:=ae (w.alloc (.cells [Value.slice o n k,.int .i64 r,.int .i64 c,.bool pd,.bool au].toArray 43));rw [<-hW] at B7 JT;have JA:W=w.alloc (.cells #[Value.slice o n k,.int .i64 r,.int .i64 c,.bool pd,.bool au] 43):=hW;have HB:=ab B7;have HN:=ab JT;have H:=ab (h.below B7);have HV:=ab (hv.below B7);have AO:=ab (show ∀ (x:Value) (w':World),HeldE lineE (fun _=>True) w' x Ls->Below W.heap.size W w'->Calls Tryz.prog 78 #[x,.slice o n k] w' (Gives w' (.bool true)) from fun x w' hx hb=>by
  have h:=rg _ _ x (.slice o n k) Ls Ls w' hx (HV.out.below hb)
  rwa [rf] at h)
 clear h hv B7 JT hW hn
 go_enter Tryz.func18,Tryz.ntmps18
 go_upto_region 1 with (fail)
 rw [<-JA];clear JA;obtain ⟨zM,zU⟩ : ∃ CC:Array Bool->World->Prop,CC=fun L8 w'=>Below W.heap.size W w':=⟨_,rfl⟩
 obtain ⟨Ar,z6,Ac,Ab⟩:=Reg.xB;obtain ⟨An,Ad,zQ,zR,zT,zS,zX,zY,zW,zP,zV,z4,zO,z7,Aa,z9,Af,Ae,Ai,By,Bp,Bm,Dy,Hz,Im,Hs,Hl,GB,GY,_,_,_,_,_⟩:=Reg.e32 Ar
  (fun xx _=>xx=.pointer (some ⟨gp,0,none⟩))
  (fun xx _=>xx=.pointer (some ⟨gp,0,none⟩))
  (fun xx _=>xx=.pointer (some ⟨gp,1,none⟩))
  (fun xx _=>xx=.agg #[.int .i64 r,.int .i64 c,.bool pd])
  (fun xx _=>xx=.pointer (some ⟨w.heap.size,1,none⟩))
  (fun xx _=>xx=.agg #[.int .i64 r,.int .i64 c,.bool pd])
  (fun xx _=>xx=.bool true)
  (fun xx _=>xx=.bool true)
  (fun xx _=>xx=.pointer (some ⟨gp,0,none⟩))
  (fun xx _=>xx=.pointer (some ⟨gp,0,none⟩))
  (fun xx _=>xx=.pointer (some ⟨gp,4,none⟩))
  (fun xx _=>xx=.bool au)
  (fun xx _=>xx=.pointer (some ⟨w.heap.size,4,none⟩))
  (fun xx _=>xx=.bool au)
  (fun xx _=>xx=.bool true)
  (fun xx _=>xx=.bool true)
  (fun xx _=>xx=.bool true)
  (fun xx _=>xx=.pointer (some ⟨gp,0,none⟩))
  (fun xx _=>xx=.pointer (some ⟨gp,0,none⟩))
  (fun xx _=>xx=.pointer (some ⟨gp,0,none⟩))
  (fun xx _=>xx=.pointer (some ⟨gg,0,none⟩))
  (fun x w'=>HeldE lineE (fun _=>True) w' x Ls)
  (fun xx _=>xx=.pointer (some ⟨w.heap.size,0,none⟩))
  (fun xx _=>xx=.slice o n k)
  (fun xx _=>xx=.bool true)
  (fun xx _=>xx=.bool true)
  (fun xx _=>xx=.bool true)
  (fun _ _=>True) (fun _ _=>True) (fun _ _=>True) (fun _ _=>True) (fun _ _=>True)
  (s21:=fun x w w1 hx h=>by rw [z6] at hx;exact HeldE.below h hx)
 have zZ:Hid (∀ i L w, zM L w->zM (L.setIfInBounds i true) w):=ab (by
  intro i L w h;rw [zU] at h ⊢;exact h)
 have Al:Hid (∀ L w w1,zM L w->Below w.heap.size w w1->zM L w1):=ab (by
  intro L w w1 h hb;rw [zU] at h ⊢;exact h.trans (hb.mono h.size))
 have Ao:=ab (show zM (Array.replicate 27 false) W.drew from by rw [zU];exact (Below.refl _ _).drew);have zL:=ab (fun (i:Nat) L w v (h:zM L w) (e:An i v w)=>Reg.hk (zZ.out i L w h) e (Ac.out w));have zK:=ab zU;have z8:=ab z6;clear zU z6
 go_wp2_with fail
 refine Reg.regionF An zM Ar Ad.out (by kernel_rfl) (by kernel_rfl) (by kernel_rfl) Ao.out (fun Gq zJ=>?_);simp only [Reg.frame,Reg.dsts,List.map_cons,List.map_nil,Mix.put_lit,List.set_cons_succ,List.set_cons_zero,Nat.zero_add,Nat.reduceAdd] at zJ;refine ⟨⟨?_,?_,?_,?_,?_,?_,?_,?_,?_,?_,?_,?_,?_,?_,?_,?_,?_,?_,?_,?_,?_,?_,?_,?_,?_,?_,?_,trivial⟩,?_⟩
 ·intro Lq wq xq hh;simp only [zJ];refine Reg.go rfl ?_;have HK:=zL.out 0 _ _ _ hh.cls ((zQ.out _ _).mpr rfl);go_simp;exact HK.out
 ·intro Lq wq xq hh;simp only [zJ,(zQ.out _ _).mp (hh.v 0)];refine Reg.go rfl ?_;have HK:=zL.out 1 _ _ _ hh.cls ((zR.out _ _).mpr rfl);go_simp;exact HK.out
 ·intro Lq wq xq hh;simp only [zJ,(zR.out _ _).mp (hh.v 1)];refine Reg.go rfl ?_;have HK:=zL.out 2 _ _ _ hh.cls ((zT.out _ _).mpr rfl);go_simp;exact HK.out
 ·intro Lq wq xq hh;simp only [zJ,(zT.out _ _).mp (hh.v 2)];refine Reg.go rfl ?_;have hc:zM Lq wq:=hh.cls;rw [zK.out] at hc;have hp:=H.out.below hc;have y1:=hp.1.cell 1 _ rfl;have y2:=hp.1.cell 2 _ rfl;have y3:=hp.1.cell 3 _ rfl;clear hc;have HK:=zL.out 3 _ _ _ hh.cls ((zS.out _ _).mpr rfl);go_simp;exact HK.out
 ·intro Lq wq xq hh;simp only [zJ];refine Reg.go rfl ?_;have HK:=zL.out 4 _ _ _ hh.cls ((zX.out _ _).mpr rfl);go_simp;exact HK.out
 ·intro Lq wq xq hh;simp only [zJ,(zX.out _ _).mp (hh.v 4)];refine Reg.go rfl ?_;have hc:zM Lq wq:=hh.cls;rw [zK.out] at hc;have ID:=HN.out.below hc HN.out.lt;have y1:=ID.cell 1 _ rfl;have y2:=ID.cell 2 _ rfl;have y3:=ID.cell 3 _ rfl;clear hc;have HK:=zL.out 5 _ _ _ hh.cls ((zY.out _ _).mpr rfl);go_simp;exact HK.out
 ·intro Lq wq xq hh;simp only [zJ,(zS.out _ _).mp (hh.v 3),(zY.out _ _).mp (hh.v 5)];refine Reg.go rfl ?_;have hc:zM Lq wq:=hh.cls;rw [zK.out] at hc;have q1:=wL r c pd;clear hc;have HK:=zL.out 6 _ _ _ hh.cls ((zW.out _ _).mpr rfl);go_simp;exact HK.out
 ·intro Lq wq xq hh;simp only [zJ,(zW.out _ _).mp (hh.v 6)];refine Reg.go rfl ?_;have HK:=zL.out 7 _ _ _ hh.cls ((zP.out _ _).mpr rfl);go_simp;exact HK.out
 ·intro Lq wq xq hh;simp only [zJ,(zP.out _ _).mp (hh.v 7)];refine Reg.go rfl ?_;have HK:=zL.out 8 _ _ _ hh.cls ((zV.out _ _).mpr rfl);go_simp;exact HK.out
 ·intro Lq wq xq hh;simp only [zJ,(zP.out _ _).mp (hh.v 7),(zV.out _ _).mp (hh.v 8)];refine Reg.go rfl ?_;have HK:=zL.out 9 _ _ _ hh.cls ((z4.out _ _).mpr rfl);go_simp;exact HK.out
 ·intro Lq wq xq hh;simp only [zJ,(zP.out _ _).mp (hh.v 7),(z4.out _ _).mp (hh.v 9)];refine Reg.go rfl ?_;have HK:=zL.out 10 _ _ _ hh.cls ((zO.out _ _).mpr rfl);go_simp;exact HK.out
 ·intro Lq wq xq hh;simp only [zJ,(zP.out _ _).mp (hh.v 7),(zO.out _ _).mp (hh.v 10)];refine Reg.go rfl ?_;have hc:zM Lq wq:=hh.cls;rw [zK.out] at hc;have hp:=H.out.below hc;have y4:=hp.1.cell 4 _ rfl;clear hc;have HK:=zL.out 11 _ _ _ hh.cls ((z7.out _ _).mpr rfl);go_simp;exact HK.out
 ·intro Lq wq xq hh;simp only [zJ,(zP.out _ _).mp (hh.v 7)];refine Reg.go rfl ?_;have HK:=zL.out 12 _ _ _ hh.cls ((Aa.out _ _).mpr rfl);go_simp;exact HK.out
 ·intro Lq wq xq hh;simp only [zJ,(zP.out _ _).mp (hh.v 7),(Aa.out _ _).mp (hh.v 12)];refine Reg.go rfl ?_;have hc:zM Lq wq:=hh.cls;rw [zK.out] at hc;have ID:=HN.out.below hc HN.out.lt;have y4:=ID.cell 4 _ rfl;clear hc;have HK:=zL.out 13 _ _ _ hh.cls ((z9.out _ _).mpr rfl);go_simp;exact HK.out
 ·intro Lq wq xq hh;simp only [zJ,(zP.out _ _).mp (hh.v 7),(z7.out _ _).mp (hh.v 11),(z9.out _ _).mp (hh.v 13)];refine Reg.go rfl ?_;have HK:=zL.out 14 _ _ _ hh.cls ((Af.out _ _).mpr rfl);go_simp;exact HK.out
 ·intro Lq wq xq hh;simp only [zJ,(zP.out _ _).mp (hh.v 7),(Af.out _ _).mp (hh.v 14)];refine Reg.go rfl ?_;have HK:=zL.out 15 _ _ _ hh.cls ((Ae.out _ _).mpr rfl);go_simp;exact HK.out
 ·intro Lq wq xq hh;simp only [zJ,(Ae.out _ _).mp (hh.v 15)];refine Reg.go rfl ?_;have HK:=zL.out 16 _ _ _ hh.cls ((Ai.out _ _).mpr rfl);go_simp;exact HK.out
 ·intro Lq wq xq hh;simp only [zJ,(Ai.out _ _).mp (hh.v 16)];refine Reg.go rfl ?_;have HK:=zL.out 17 _ _ _ hh.cls ((By.out _ _).mpr rfl);go_simp;exact HK.out
 ·intro Lq wq xq hh;simp only [zJ,(Ai.out _ _).mp (hh.v 16),(By.out _ _).mp (hh.v 17)];refine Reg.go rfl ?_;have HK:=zL.out 18 _ _ _ hh.cls ((Bp.out _ _).mpr rfl);go_simp;exact HK.out
 ·intro Lq wq xq hh;simp only [zJ,(Ai.out _ _).mp (hh.v 16),(Bp.out _ _).mp (hh.v 18)];refine Reg.go rfl ?_;have HK:=zL.out 19 _ _ _ hh.cls ((Bm.out _ _).mpr rfl);go_simp;exact HK.out
 ·intro Lq wq xq hh;simp only [zJ,(Ai.out _ _).mp (hh.v 16),(Bm.out _ _).mp (hh.v 19)];refine Reg.go rfl ?_;have hc:zM Lq wq:=hh.cls;rw [zK.out] at hc;have hp:=H.out.below hc;have y0:=hp.1.cell 0 _ rfl;clear hc;have HK:=zL.out 20 _ _ _ hh.cls ((Dy.out _ _).mpr rfl);go_simp;exact HK.out
 ·intro Lq wq xq hh;simp only [zJ,(Ai.out _ _).mp (hh.v 16),(Dy.out _ _).mp (hh.v 20)];refine Reg.go rfl ?_;unfold Reg.upon;have hc:zM Lq wq:=hh.cls;rw [zK.out] at hc;go_simp;refine (qY B gg gr wd R1 wq (H.out.below hc).2.2.1).mono ?_;rintro e w2 ⟨v2,rfl,Ap,hb2⟩;refine ⟨_,rfl,zZ.out 21 Lq w2 (Al.out Lq wq w2 hh.cls hb2),?_,Ab.out wq w2 hb2⟩;rw [Hz.out];have hm:=(Ap.held (fun b hb _=>hb)).zone (Y:=fun _=>True) (fun _ _ _=>trivial);rw [H.out.2.2.2] at hm;exact hm
 ·intro Lq wq xq hh;simp only [zJ,(Ai.out _ _).mp (hh.v 16)];refine Reg.go rfl ?_;have HK:=zL.out 22 _ _ _ hh.cls ((Im.out _ _).mpr rfl);go_simp;exact HK.out
 ·intro Lq wq xq hh;simp only [zJ,(Ai.out _ _).mp (hh.v 16),(Im.out _ _).mp (hh.v 22)];refine Reg.go rfl ?_;have hc:zM Lq wq:=hh.cls;rw [zK.out] at hc;have ID:=HN.out.below hc HN.out.lt;have y0:=ID.cell 0 _ rfl;clear hc;have HK:=zL.out 23 _ _ _ hh.cls ((Hs.out _ _).mpr rfl);go_simp;exact HK.out
 ·intro Lq wq xq hh;have d21:=(Hz.out _ _).mp (hh.v 21);simp only [zJ,(Ai.out _ _).mp (hh.v 16),(Hs.out _ _).mp (hh.v 23)];refine Reg.go rfl ?_;unfold Reg.upon;have hc:zM Lq wq:=hh.cls;rw [zK.out] at hc;go_simp;refine (AO.out _ wq d21 hc).mono ?_;rintro e w2 ⟨rfl,hb2⟩;exact ⟨_,rfl,zZ.out 24 Lq w2 (Al.out Lq wq w2 hh.cls hb2),(by rw [Hl.out]),Ab.out wq w2 hb2⟩
 ·intro Lq wq xq hh;simp only [zJ,(Ai.out _ _).mp (hh.v 16),(Hl.out _ _).mp (hh.v 24)];refine Reg.go rfl ?_;have HK:=zL.out 25 _ _ _ hh.cls ((GB.out _ _).mpr rfl);go_simp;exact HK.out
 ·intro Lq wq xq hh;simp only [zJ,(GB.out _ _).mp (hh.v 25)];refine Reg.go rfl ?_;have HK:=zL.out 26 _ _ _ hh.cls ((GY.out _ _).mpr rfl);go_simp;exact HK.out
 intro xq Dj Ah Av;rw [zK.out] at Ah;simp only [zJ];have vrg26:=(GY.out _ _).mp (Av 26 (by decide));rw [vrg26];clear Av zJ zL zZ Ac Ad Ao zK z8 Al Ab zQ zR zT zS zX zY zW zP zV z4 zO z7 Aa z9 Af Ae Ai By Bp Bm Dy Hz Im Hs Hl GB GY;have HF:=ab (HB.out.trans (Ah.mono HB.out.size));clear Ah vrg26;go_wp2;go_ret;exact ⟨af,HF.out⟩
theorem yE{w:World}{B gp gg gr wd:Nat}{R:List Rw}{Ls:List Ln}{r c:Int}{pd au:Bool}(h:gC w B gp gg gr wd R Ls r c pd au)(hB:B<=w.heap.size)(b:Nat)(hb:PZ w gp gr R b):B<=b:=by
 have hl:=h.2.2.1.lt
 rcases hb with e | e | ⟨i,hi,e⟩ | e
 ·subst e;exact h.2.1
 ·omega
 ·have:=hl.2.2.2.2.2 i hi;rcases e with e | e <;> omega
 ·omega
section
section
variable {w w1 w2 : World} {B gp gg gr wd g : Nat} {R R1 R2 : List Rw} {Ls L2 : List Ln} {r c r2 c2 : Int} {pd au pd2 au2 : Bool}
theorem ow(h:gC w1 B gp gg gr wd R1 Ls r c pd au){C:List Value}{t:TypeId}(hg:Has w1 g C t)(t0:t≠42)(t1:t≠119)(t2:t≠113)(t3:t≠187)(t4:t≠147):¬ PZ w1 gp gr R1 g:=fun e=>by
 have ho:=h.2.2.1.other hg t1 t2 t3 t4;have hl:=hg.lt
 rcases e with e | e | ⟨i,hi,e⟩ | e
 ·subst e;exact aH hg h.1 t0
 ·exact ho.2.1 e
 ·rcases e with e | e
  ·exact (ho.2.2 i hi).1 e
  ·exact (ho.2.2 i hi).2 e
 ·omega
theorem PenY.beside(h:gC w1 B gp gg gr wd R1 Ls r c pd au){C:List Value}{t:TypeId}(hg:Has w1 g C t)(t0:t≠42)(t1:t≠119)(t2:t≠113)(t3:t≠187)(t4:t≠147)(hx:jo w1 g)(hu:Upd (fun b=>b=g) w1 w2):gC w2 B gp gg gr wd R1 Ls r c pd au :=
 ⟨hu.keep.has h.1 (fun e=>by subst e;exact aH hg h.1 t0),h.2.1,h.2.2.1.pen hx (h.2.2.1.other hg t1 t2 t3 t4) hu,h.2.2.2⟩
theorem r5{o:Option Addr}{n k:Nat}(h:Has w g [.slice o n k,.int .i64 r,.int .i64 c,.bool pd,.bool au] 43):jo w g:=fun q x e=>by
 rw [cell_of_row w g q _ _ (0,0) h] at e
 match q with
 | 0=>simp at e
 | 1=>simp at e
 | 2=>simp at e
 | 3=>simp at e
 | 4=>simp at e
 | q+5=>simp at e
def zu(w:World)(g:Nat):Prop:=∀ o a n k,w.cell? ⟨g,o,none⟩≠some (.slice a n k)
theorem tQ{Z:an}{w:World}{v:Value}{L:List Cl}{g:Nat}(h:HeldE cellE Z w v L)(hg:jo w g)(hs:zu w g):HeldE cellE (fun b=>Z b/\b≠g) w v L:=by
 obtain ⟨ao,cap,rfl,hl,hm,hn,hc⟩:=h;refine ⟨ao,cap,rfl,hl,hm,hn,fun i hi=>?_⟩;obtain ⟨b,off,rfl,hb,hz,C,hC,hr⟩:=hc i hi;obtain ⟨tv,rfl,ht⟩:=cell_rep.1 hr;refine ⟨b,off,rfl,hb,⟨hz,fun e=>?_⟩,_,hC,cell_rep.2 ⟨tv,rfl,pB ht hg⟩⟩;subst e;obtain ⟨a,k,rfl⟩:=ht.len;exact hs _ _ _ _ (hC 1 (by decide))
theorem yX{Z:an}{w:World}{v:Value}{L:List Ln}{g:Nat}(h:HeldE lineE Z w v L)(hg:jo w g)(hs:zu w g):HeldE lineE (fun b=>Z b/\b≠g) w v L:=by
 obtain ⟨ao,cap,rfl,hl,hm,hn,hc⟩:=h;refine ⟨ao,cap,rfl,hl,hm,hn,fun i hi=>?_⟩;obtain ⟨b,off,rfl,hb,hz,C,hC,hr⟩:=hc i hi;obtain ⟨cv,rfl,ht⟩:=line_rep.1 hr;refine ⟨b,off,rfl,hb,⟨hz,fun e=>?_⟩,_,hC,line_rep.2 ⟨cv,rfl,tQ ht hg hs⟩⟩;subst e;obtain ⟨a,k,rfl⟩:=ht.len;exact hs _ _ _ _ (hC 0 (by decide))
theorem tR{Z:an}{w:World}{g:Nat}{a b:Int}{d:Bool}{v:Value}{Ls:List Ln}(h:HeldE lineE Z w v Ls)(hg:Has w g [.int .i64 a,.int .i64 b,.bool d] 24):HeldE lineE (fun x=>Z x/\x≠g) w v Ls:=by
 refine yX h (lB hg) fun o p n k e=>?_
 rw [cell_of_row w g o _ _ (0,0) hg] at e
 match o with
 | 0=>simp at e
 | 1=>simp at e
 | 2=>simp at e
 | o+3=>simp at e
def QAt(W:World)(B gp gg gr wd b8:Nat)(R:List Rw)(L2:List Ln)(r2 c2:Int)(pd2 au2:Bool)(Ls:List Ln)(r c:Int)(pd au:Bool)(o:Option Addr)(k:Nat)(wr:World):Prop :=
 gC wr B gp gg gr wd R L2 r2 c2 pd2 au2/\Has wr b8 [.slice o Ls.length k,.int .i64 r,.int .i64 c,.bool pd,.bool au] 43/\HeldE lineE (fun b=>¬ PZ wr gp gr R b/\b≠b8) wr (.slice o Ls.length k) Ls/\Below W.heap.size W wr
end
section
variable {W w1 w2 : World} {B gp gg gr wd b8 : Nat} {R : List Rw} {L2 L3 Ls : List Ln} {r2 c2 r3 c3 r c : Int} {pd2 au2 pd3 au3 pd au : Bool} {o : Option Addr} {k : Nat}
theorem QAt.box(h:QAt W B gp gg gr wd b8 R L2 r2 c2 pd2 au2 Ls r c pd au o k w1):¬ PZ w1 gp gr R b8:=ow h.1 h.2.1 (by decide) (by decide) (by decide) (by decide) (by decide)
theorem QAt.below(h:QAt W B gp gg gr wd b8 R L2 r2 c2 pd2 au2 Ls r c pd au o k w1)(hb:Below w1.heap.size w1 w2):QAt W B gp gg gr wd b8 R L2 r2 c2 pd2 au2 Ls r c pd au o k w2 :=
 ⟨h.1.below hb,h.2.1.below hb h.2.1.lt,(h.2.2.1.below hb).zone (fun b _ hz=>⟨fun e=>hz.1 (PZ.from (RowsFrom.self _ _) hb.size b e),hz.2⟩),h.2.2.2.trans (hb.mono h.2.2.2.size)⟩
theorem QAt.go(hW:W.heap.size<=B)(hB:B<=w1.heap.size)(h:QAt W B gp gg gr wd b8 R L2 r2 c2 pd2 au2 Ls r c pd au o k w1)(hd:PDo w1 B gp gg gr wd R L3 r3 c3 pd3 au3 w2):∃ R3,QAt W B gp gg gr wd b8 R3 L3 r3 c3 pd3 au3 Ls r c pd au o k w2:=by
 have KX:=h.box;obtain ⟨R3,k1,k2,k3⟩:=hd;refine ⟨R3,k1,k2.keep.has h.2.1 KX,(h.2.2.1.upd k2 (fun b hz=>hz.1)).zone (fun b _ hz=>⟨fun e=>hz.1 (PZ.from k3 k2.size b e),hz.2⟩),h.2.2.2.trans (k2.below h.2.2.2.size (fun b e=>Nat.le_trans hW (yE h.1 hB b e)))⟩
theorem yl(h:gC w1 B gp gg gr wd R L2 r2 c2 pd2 au2)(b:Nat)(h1:w1.heap.size<=b)(h2:b<w2.heap.size):¬ PZ w2 gp gr R b:=fun e=>by
 have hl:=h.lt;have hg:=h.2.2.1.lt
 rcases e with e | e | ⟨i,hi,e⟩ | e
 ·omega
 ·omega
 ·have:=hg.2.2.2.2.2 i hi;rcases e with e | e <;> omega
 ·omega
theorem QAt.put(KX:W.heap.size<=b8)(h:QAt W B gp gg gr wd b8 R L2 r2 c2 pd2 au2 Ls r c pd au o k w1){o':Option Addr}{k' n':Nat}(hb:Below w1.heap.size w1 w2)(hv:HeldE lineE (fun b=>((¬ PZ w1 gp gr R b/\b≠b8)/\b<w1.heap.size)\/(w1.heap.size<=b/\b<w2.heap.size)) w2 (.slice o' n' k') L3):QAt W B gp gg gr wd b8 R L2 r2 c2 pd2 au2 L3 r3 c3 pd3 au3 o' k' (((((w2.setCell ⟨b8,0,none⟩ (.slice o' n' k')).setCell ⟨b8,1,none⟩ (.int .i64 r3)).setCell ⟨b8,2,none⟩ (.int .i64 c3)).setCell ⟨b8,3,none⟩ (.bool pd3)).setCell ⟨b8,4,none⟩ (.bool au3)):=by
 have hq:=h.below hb;obtain ⟨o9,k9,e9⟩:=hv.len;simp only [Value.slice.injEq] at e9;obtain ⟨rfl,rfl,rfl⟩:=e9;have hu:=aT (W:=w2) b8 (.slice o' L3.length k') (.int .i64 r3) (.int .i64 c3) (.bool pd3) (.bool au3);have hlt:=h.2.1.lt;have hz:∀ b,b<w2.heap.size->(((¬ PZ w1 gp gr R b/\b≠b8)/\b<w1.heap.size)\/(w1.heap.size<=b/\b<w2.heap.size))->(¬ PZ w2 gp gr R b/\b≠b8):=fun b _ hz=>by
  rcases hz with hz | hz
  ·exact ⟨fun e=>hz.1.1 (PZ.from (RowsFrom.self _ _) hb.size b e),hz.1.2⟩
  ·exact ⟨yl h.1 b hz.1 hz.2,by omega⟩
 have hp:=hq.1.beside hq.2.1 (by decide) (by decide) (by decide) (by decide) (by decide) (r5 hq.2.1) hu;refine ⟨hp,cH hq.2.1 _ _ _ _ _,((hv.zone hz).upd hu (fun b hz=>hz.2)).zone (fun b hlt' hz=>⟨fun e=>hz.1 ?_,hz.2⟩),hq.2.2.2.trans (hu.below hq.2.2.2.size (fun b e=>by omega))⟩
 rcases e with e | e | e | e
 ·exact .inl e
 ·exact .inr (.inl e)
 ·exact .inr (.inr (.inl e))
 ·exact .inr (.inr (.inr (by have:=hu.size;omega)))
theorem QAt.cur(KX:W.heap.size<=b8)(h:QAt W B gp gg gr wd b8 R L2 r2 c2 pd2 au2 Ls r c pd au o k w1)(r3 c3:Int)(pd3:Bool):QAt W B gp gg gr wd b8 R L2 r2 c2 pd2 au2 Ls r3 c3 pd3 au o k (((w1.setCell ⟨b8,1,none⟩ (.int .i64 r3)).setCell ⟨b8,2,none⟩ (.int .i64 c3)).setCell ⟨b8,3,none⟩ (.bool pd3)):=by
 have hu:Upd (fun b=>b=b8) w1 (((w1.setCell ⟨b8,1,none⟩ (.int .i64 r3)).setCell ⟨b8,2,none⟩ (.int .i64 c3)).setCell ⟨b8,3,none⟩ (.bool pd3)):=(((Upd.refl (fun b=>b=b8) w1).setCell (p:=⟨b8,1,none⟩) (.inl rfl) _).setCell (p:=⟨b8,2,none⟩) (.inl rfl) _).setCell (p:=⟨b8,3,none⟩) (.inl rfl) _;have hp:=h.1.beside h.2.1 (by decide) (by decide) (by decide) (by decide) (by decide) (r5 h.2.1) hu;refine ⟨hp,((h.2.1.set 1 _).set 2 _).set 3 _,(h.2.2.1.upd hu (fun b hz=>hz.2)).zone (fun b hlt' hz=>⟨fun e=>hz.1 ?_,hz.2⟩),h.2.2.2.trans (hu.below h.2.2.2.size (fun b e=>by omega))⟩
 rcases e with e | e | e | e
 ·exact .inl e
 ·exact .inr (.inl e)
 ·exact .inr (.inr (.inl e))
 ·exact .inr (.inr (.inr (by have:=hu.size;omega)))
theorem QAt.cursor{g:Nat}{a b:Int}{d:Bool}(_:W.heap.size<=b8)(h:QAt W B gp gg gr wd b8 R L2 r2 c2 pd2 au2 Ls r c pd au o k w1)(hg:Has w1 g [.int .i64 a,.int .i64 b,.bool d] 24)(hW:W.heap.size<=g)(hne:g≠b8)(hu:Upd (fun x=>x=g) w1 w2):QAt W B gp gg gr wd b8 R L2 r2 c2 pd2 au2 Ls r c pd au o k w2:=by
 have MC:=hg;have hz:HeldE lineE (fun x=>(¬ PZ w1 gp gr R x/\x≠b8)/\x≠g) w1 (.slice o Ls.length k) Ls:=tR h.2.2.1 hg;refine ⟨h.1.beside hg (by decide) (by decide) (by decide) (by decide) (by decide) (lB hg) hu,hu.keep.has h.2.1 (fun e=>hne e.symm),(hz.upd hu (fun x hx=>hx.2)).zone (fun x hlt' hx=>⟨fun e=>hx.1.1 ?_,hx.1.2⟩),h.2.2.2.trans (hu.below h.2.2.2.size (fun x e=>by omega))⟩
 rcases e with e | e | e | e
 ·exact .inl e
 ·exact .inr (.inl e)
 ·exact .inr (.inr (.inl e))
 ·exact .inr (.inr (.inr (by have:=hu.size;omega)))
end
theorem wK(r:Int){n:Nat}(h:0<n)(hn:n<=1024):∃ r2:Nat,inI r (ay n)=(r2:Int)/\r2<n:=by
 have hs:ay n=(n:Int):=by unfold ay;omega
 rw [hs];refine ⟨(inI r n).toNat,?_,?_⟩ <;> unfold inI <;> (repeat' split) <;> omega
end
def eB(xs:List Int)(n:Nat):List Int:=(xs.take n).map aS
theorem pQ(xs:List Int)(n:Nat)(h:n<=xs.length):(eB xs n).length=n:=by unfold eB;rw [List.length_map,List.length_take];omega
section
theorem mH{xs ys:List Int}{ps qs:List Pr}(k:Nat)(h:∀ i,i<k->xs.getD i 0=ys.getD i 0/\ps.getD i Pr.none=qs.getD i Pr.none):iS xs ps k=iS ys qs k:=by
 induction k with
 | zero=>rfl
 | succ k ih =>
  show (iS xs ps k || ee xs ps k)=(iS ys qs k || ee ys qs k);rw [ih fun i hi=>h i (by omega)];have e1:=h k (by omega);have e2:gE ps k=gE qs k:=by
   cases k with
   | zero=>rfl
   | succ j=>show (ps.getD j Pr.none).pc=(qs.getD j Pr.none).pc;rw [(h j (by omega)).2]
  unfold ee;rw [e1.1,e1.2,e2]
def cwW(xs:List Int)(ps:List Pr)(k:Nat):Bool:=iS (xs.map aS) ps k
theorem jl(xs:List Int)(i:Nat)(h:i<xs.length):(xs.map aS).getD i 0=aS (xs.getD i 0):=by
 simp [List.getD,List.getElem?_eq_getElem h]
theorem lA{α:Type}(l:List α)(d:α)(n i:Nat)(h:i<n):(l.take n).getD i d=l.getD i d:=by
 simp [List.getD,List.getElem?_take,h]
theorem rK(xs:List Int)(ps:List Pr)(h:0<xs.length):cwW xs ps 1=dz false false (aS (xs.getD 0 0)) (ps.getD 0 Pr.none).br (ps.getD 0 Pr.none).pc (ps.getD 0 Pr.none).ea:=by
 show (false || ee (xs.map aS) ps 0)=_;unfold ee gE;rw [jl xs 0 h]
 rfl
theorem pl(xs:List Int)(ps:List Pr)(k:Nat)(h0:0<k)(h:k<xs.length):cwW xs ps (k+1)=(cwW xs ps k || dz true (gE ps k) (aS (xs.getD k 0)) (ps.getD k Pr.none).br (ps.getD k Pr.none).pc (ps.getD k Pr.none).ea):=by
 show (iS (xs.map aS) ps k || ee (xs.map aS) ps k)=_;unfold ee;rw [jl xs k h,decide_eq_true h0]
 rfl
theorem mI(xs:List Int)(k:Nat)(h:k<xs.length):eB xs (k+1)=eB xs k++[aS (xs.getD k 0)]:=iA xs k h
theorem pm(xs:List Int)(h:0<xs.length):eB xs 1=[aS (xs.getD 0 0)]:=by rw [mI xs 0 h];rfl
def GrowAt(Yo:an)(w:World)(B gp gg gr wd g:Nat)(R:List Rw)(Ls:List Ln)(r2 c2:Nat)(pd2 au:Bool)(xs:List Int)(ps:List Pr)(K:Nat):Prop :=
 PenY Yo w B gp gg gr wd R (fF Ls wd r2 c2 pd2 au (gwI (cwW xs ps K)) (eB xs K)) (fq Ls wd r2 c2 pd2 au (gwI (cwW xs ps K)):Nat) (ez (dB wd c2 pd2 au (gwI (cwW xs ps K)):Nat) (cn wd (gwI (cwW xs ps K))) wd) (eA (dB wd c2 pd2 au (gwI (cwW xs ps K)):Nat) (cn wd (gwI (cwW xs ps K))) wd au) au /\
 WAt w g (eB xs K) true (gE ps K) (cwW xs ps K) (gwI (cwW xs ps K)) (fq Ls wd r2 c2 pd2 au (gwI (cwW xs ps K)):Nat) (dB wd c2 pd2 au (gwI (cwW xs ps K)):Nat) false
section
variable {Yo : an} {w w' : World} {B gp gg gr wd g : Nat} {R : List Rw} {Ls : List Ln} {r2 c2 : Nat} {pd2 au : Bool} {xs : List Int} {ps : List Pr} {K : Nat}
theorem GrowAt.below(h:GrowAt Yo w B gp gg gr wd g R Ls r2 c2 pd2 au xs ps K)(hb:Below w.heap.size w w'):GrowAt Yo w' B gp gg gr wd g R Ls r2 c2 pd2 au xs ps K:=⟨h.1.below hb,h.2.below hb⟩
theorem GrowAt.first(hx:0<xs.length)(h:WDo Yo w B gp gg gr wd g R Ls au [aS (xs.getD 0 0)] (ps.getD 0 Pr.none).pc (dz false false (aS (xs.getD 0 0)) (ps.getD 0 Pr.none).br (ps.getD 0 Pr.none).pc (ps.getD 0 Pr.none).ea) r2 c2 pd2 w'):∃ R1,GrowAt Yo w' B gp gg gr wd g R1 Ls r2 c2 pd2 au xs ps 1/\Upd (fun q=>PZ w gp gr R q\/q=g) w w'/\RowsFrom w R R1:=by
 obtain ⟨R1,h1,h2,h3,h4⟩:=h;rw [<-rK xs ps hx,<-pm xs hx] at h1;rw [<-rK xs ps hx,<-pm xs hx] at h2;exact ⟨R1,⟨h1,h2⟩,h3,h4⟩
theorem vg(a b:Bool):gwI a<=gwI (a || b):=by cases a <;> cases b <;> decide
theorem GrowAt.next(hr:r2<Ls.length)(hc:c2<wd)(h0:0<K)(hx:K<xs.length)(h:WDo Yo w B gp gg gr wd g R (fF Ls wd r2 c2 pd2 au (gwI (cwW xs ps K)) (eB xs K)) au (eB xs K++[aS (xs.getD K 0)]) (ps.getD K Pr.none).pc (cwW xs ps K || dz true (gE ps K) (aS (xs.getD K 0)) (ps.getD K Pr.none).br (ps.getD K Pr.none).pc (ps.getD K Pr.none).ea) (fq Ls wd r2 c2 pd2 au (gwI (cwW xs ps K))) (dB wd c2 pd2 au (gwI (cwW xs ps K))) false w') :
  ∃ R1,GrowAt Yo w' B gp gg gr wd g R1 Ls r2 c2 pd2 au xs ps (K+1)/\Upd (fun q=>PZ w gp gr R q\/q=g) w w'/\RowsFrom w R R1:=by
 obtain ⟨R1,h1,h2,h3,h4⟩:=h;have hm:gwI (cwW xs ps K)<=gwI (cwW xs ps (K+1)):=by rw [pl xs ps K h0 hx];exact vg _ _
 rw [<-pl xs ps K h0 hx,<-mI xs K hx] at h1 h2;obtain ⟨e1,e2,e3⟩:=tN Ls wd r2 c2 pd2 au (gwI (cwW xs ps K)) (gwI (cwW xs ps (K+1))) (eB xs K) (eB xs (K+1)) hr hc hm;rw [e1,e2,e3] at h1;rw [e2,e3] at h2;exact ⟨R1,⟨h1,h2⟩,h3,h4⟩
end
def LoopAt(W1:World)(BP gp gg gr wd b8:Nat)(Ls:List Ln)(r2 c2:Nat)(pd2 au:Bool)(xs:List Int)(ps:List Pr)(bx:List Value)(K g:Nat)(w:World):Prop :=
 (∃ R,GrowAt (fun b=>True/\b≠g) w BP gp gg gr wd g R Ls r2 c2 pd2 au xs ps K)/\Has w b8 bx 43/\Below W1.heap.size W1 w/\g≠b8/\BP<=g
section
variable {W1 w w' : World} {BP gp gg gr wd b8 : Nat} {Ls : List Ln} {r2 c2 : Nat} {pd2 au : Bool} {xs : List Int} {ps : List Pr} {bx : List Value} {K g : Nat}
theorem LoopAt.below(h:LoopAt W1 BP gp gg gr wd b8 Ls r2 c2 pd2 au xs ps bx K g w)(hb:Below w.heap.size w w'):LoopAt W1 BP gp gg gr wd b8 Ls r2 c2 pd2 au xs ps bx K g w':=by
 obtain ⟨⟨R,h1⟩,h2,h3,h4,h5⟩:=h;exact ⟨⟨R,h1.below hb⟩,h2.below hb h2.lt,h3.trans (hb.mono h3.size),h4,h5⟩
end
end
section
structure Pn where
 L:List Ln
 r:Int
 c:Int
 pd:Bool
 au:Bool
def Pn.r2(p:Pn):Nat:=(inI p.r (ay p.L.length)).toNat
def Pn.c2(p:Pn)(wd:Nat):Nat:=(inI p.c (ay wd)).toNat
def Pn.pd2(p:Pn)(wd:Nat):Bool:=cG p.c p.pd wd
abbrev xH(Yo:an)(w:World)(B gp gg gr wd:Nat)(R:List Rw)(p:Pn):Prop:=PenY Yo w B gp gg gr wd R p.L p.r p.c p.pd p.au
def uw(wd:Nat)(p:Pn)(n:Int)(t:List Int):Pn :=
 ⟨fF p.L wd p.r2 (p.c2 wd) (p.pd2 wd) p.au n t,(fq p.L wd p.r2 (p.c2 wd) (p.pd2 wd) p.au n:Nat),ez (dB wd (p.c2 wd) (p.pd2 wd) p.au n:Nat) (cn wd n) wd,eA (dB wd (p.c2 wd) (p.pd2 wd) p.au n:Nat) (cn wd n) wd p.au,p.au⟩
def doP(wd:Nat)(p:Pn)(k:Int):Pn:=⟨ctL p.L p.r2 k,ctR p.L p.r p.r2 k,ctC p.c (p.c2 wd) k,ctP p.pd k,p.au⟩
def clN(t:List Int):Nat:=min t.length 16
def clW(t:List Int):Int:=gwI (cwW t (aq t) (clN t))
def putC(wd:Nat)(p:Pn)(t:List Int):Pn:=if bL (t.getD 0 0)=true then t.foldl (doP wd) p else uw wd p (clW t) (eB t (clN t))
def bH(wd:Nat)(p:Pn)(cs:List (List Int)):Pn:=cs.foldl (putC wd) p
theorem gX(wd:Nat)(p:Pn)(cs:List (List Int))(t:List Int):bH wd p (cs++[t])=putC wd (bH wd p cs) t:=by unfold bH;rw [List.foldl_append];rfl
def PnOk(wd n:Nat)(p:Pn):Prop:=p.L.length=n/\∀ i,i<p.L.length->(p.L.getD i zl).1.length=wd
theorem Pn.nat{p:Pn}{wd:Nat}(h0:0<p.L.length)(h1:p.L.length<=1024)(w0:0<wd)(w1:wd<=1024):inI p.r (ay p.L.length)=(p.r2:Int)/\inI p.c (ay wd)=(p.c2 wd:Int)/\cG p.c p.pd wd=p.pd2 wd/\p.r2<p.L.length/\p.c2 wd<wd:=by
 obtain ⟨a,ha,ha2⟩:=wK p.r h0 h1;obtain ⟨b,hb,hb2⟩:=wK p.c w0 w1;have ea:p.r2=a:=by unfold Pn.r2;rw [ha];rfl
 have eb:p.c2 wd=b:=by unfold Pn.c2;rw [hb];rfl
 rw [ea,eb];exact ⟨ha,hb,rfl,ha2,hb2⟩
section
variable {wd n : Nat} {p : Pn}
def eJ(wd n:Nat):Prop:=0<n/\n<=1000/\0<wd/\wd<=1024
theorem PnOk.even(h:PnOk wd n p)(hs:eJ wd n):Even p.L wd:=⟨by rw [h.1];exact hs.1,by rw [h.1];exact hs.2.1,hs.2.2.1,hs.2.2.2,h.2⟩
theorem PnOk.of(h:Even p.L wd):PnOk wd p.L.length p/\eJ wd p.L.length:=⟨⟨rfl,h.2.2.2.2⟩,h.1,h.2.1,h.2.2.1,h.2.2.2.1⟩
theorem PnOk.nat(h:PnOk wd n p)(hs:eJ wd n):inI p.r (ay p.L.length)=(p.r2:Int)/\inI p.c (ay wd)=(p.c2 wd:Int)/\cG p.c p.pd wd=p.pd2 wd/\p.r2<p.L.length/\p.c2 wd<wd :=
 p.nat (by rw [h.1];exact hs.1) (by rw [h.1];have:=hs.2.1;omega) hs.2.2.1 hs.2.2.2
theorem PnOk.put(h:PnOk wd n p)(hs:eJ wd n)(k:Int)(t:List Int):PnOk wd n (uw wd p k t):=by
 obtain ⟨_,_,_,hr,hc⟩:=h.nat hs;have he:=vx (c:=p.c2 wd) (h.even hs) (p.pd2 wd) p.au k t hr;have hl:=(qU (Ls:=p.L) (p.pd2 wd) p.au k t hr hc).2.2.2;exact ⟨by show (fF _ _ _ _ _ _ _ _).length=n;rw [hl];exact h.1,he.2.2.2.2⟩
theorem PnOk.do_(h:PnOk wd n p)(hs:eJ wd n)(k:Int):PnOk wd n (doP wd p k):=by
 refine ⟨by show (ctL _ _ _).length=n;rw [yY];exact h.1,?_⟩;show ∀ i,i<(ctL p.L p.r2 k).length->((ctL p.L p.r2 k).getD i zl).1.length=wd;unfold ctL
 by_cases e:k=10
 ·rw [if_pos e];exact ((h.even hs).down p.r2).2.2.2.2
 ·rw [if_neg e];exact h.2
theorem PnOk.dos(hs:eJ wd n):∀ (t:List Int) (p:Pn),PnOk wd n p->PnOk wd n (t.foldl (doP wd) p)
 | [],_,h=>h
 | k :: t,_,h=>PnOk.dos hs t _ (h.do_ hs k)
theorem PnOk.putC(h:PnOk wd n p)(hs:eJ wd n)(t:List Int):PnOk wd n (putC wd p t):=by
 unfold Go.Proofs.YtoeggiplcaegoaaGreatDoor.putC
 split
 ·exact PnOk.dos hs t p h
 ·exact h.put hs _ _
theorem PnOk.lay(hs:eJ wd n):∀ (cs:List (List Int)) (p:Pn),PnOk wd n p->PnOk wd n (bH wd p cs)
 | [],_,h=>h
 | t :: cs,_,h=>PnOk.lay hs cs _ (h.putC hs t)
end
theorem xI(wd:Nat)(p:Pn){xs:List Int}{r:Int}(hr:bL r=true):bH wd p (bj (xs++[r]))=doP wd (bH wd p (bj xs)) r:=by
 rw [gY (rH xs r),gX]
 cases hj:dw xs r with
 | false =>
  rw [(eZ hj).1,(eZ hj).2];unfold putC;rw [if_pos (show bL ([r].getD 0 0)=true from hr)]
  rfl
 | true =>
  obtain ⟨h1,_,h3⟩:=oE hr hj;rw [(fH hj).1,(fH hj).2,gY h3,gX,h1]
  rfl
theorem xJ(wd:Nat)(p:Pn){xs:List Int}{r:Int}(hj:dw xs r=false):bH wd p (dt (xs++[r]))=bH wd p (bj xs)/\aU (xs++[r])=[r]:=by
 rw [(eZ hj).1];exact ⟨rfl,(eZ hj).2⟩
theorem ux(wd:Nat)(p:Pn){xs:List Int}(ho:bT xs=true):bH wd p (bj xs)=uw wd (bH wd p (dt xs)) (clW (aU xs)) (eB (aU xs) (clN (aU xs))):=by
 have h0:xs≠[]:=by rintro rfl;cases ho
 rw [gY h0,gX]
 conv=>lhs;unfold putC
 rw [(jL _ xs rfl ho).1]
 rfl
abbrev GrowP(Yo:an)(w:World)(B gp gg gr wd g:Nat)(R:List Rw)(p:Pn)(t:List Int):Prop:=GrowAt Yo w B gp gg gr wd g R p.L p.r2 (p.c2 wd) (p.pd2 wd) p.au t (aq t) (clN t)
theorem GrowP.pen{Yo:an}{w:World}{B gp gg gr wd g:Nat}{R:List Rw}{p:Pn}{t:List Int}(h:GrowP Yo w B gp gg gr wd g R p t):xH Yo w B gp gg gr wd R (uw wd p (clW t) (eB t (clN t))):=h.1
theorem sh(t:List Int)(r:Int)(K:Nat)(h:K<=t.length):eB (t++[r]) K=eB t K:=by unfold eB;rw [List.take_append_of_le_length h]
theorem mo{α:Type}(t:List α)(r d:α)(i:Nat)(h:i<t.length):(t++[r]).getD i d=t.getD i d:=by simp [List.getD,List.getElem?_append_left h]
theorem kV{α:Type}(t:List α)(r d:α):(t++[r]).getD t.length d=r:=by simp [List.getD]
theorem uy(t:List Int)(r:Int)(K:Nat)(h:K<=t.length):cwW (t++[r]) (aq (t++[r])) K=cwW t (aq t) K:=by
 unfold cwW;refine mH K fun i hi=>⟨?_,fW t [r] i (by omega)⟩
 rw [List.map_append,List.map_singleton];exact mo _ _ _ _ (by rw [List.length_map];omega)
theorem uz(t:List Int)(r:Int)(K:Nat)(h:K<=t.length):gE (aq (t++[r])) K=gE (aq t) K:=by
 cases K with
 | zero=>rfl
 | succ k=>show ((aq (t++[r])).getD k Pr.none).pc=((aq t).getD k Pr.none).pc;rw [fW t [r] k (by omega)]
theorem mq{Yo:an}{w:World}{B gp gg gr wd g:Nat}{R:List Rw}{Ls:List Ln}{r2 c2:Nat}{pd2 au:Bool}{t:List Int}{r:Int}{K:Nat}(hk:K<=t.length):GrowAt Yo w B gp gg gr wd g R Ls r2 c2 pd2 au (t++[r]) (aq (t++[r])) K=GrowAt Yo w B gp gg gr wd g R Ls r2 c2 pd2 au t (aq t) K:=by
 unfold GrowAt;rw [uy t r K hk,sh t r K hk,uz t r K hk]
theorem si{Yo:an}{w:World}{B gp gg gr wd g:Nat}{R:List Rw}{p:Pn}{t:List Int}{r:Int}(ht:16<=t.length)(h:GrowP Yo w B gp gg gr wd g R p t):GrowP Yo w B gp gg gr wd g R p (t++[r]):=by
 have e1:clN t=16:=by unfold clN;omega
 have e2:clN (t++[r])=16:=by unfold clN;rw [List.length_append,List.length_singleton];omega
 unfold GrowP at h ⊢;rw [e2,mq ht,<-e1];exact h
end
section
variable {Xo : an}
theorem GridY.apart2{Yo:an}{w w':World}{B gg gr wd g:Nat}{Rs:List Rw}{C:List Value}(h:GridY Yo w B gg gr wd Rs)(hne:∀ b,Yo b->b≠g)(hg:Has w g C 143)(hu:Upd (fun b=>b=g) w w'):GridY Yo w' B gg gr wd Rs:=by
 have ho:=h.other hg (by decide) (by decide) (by decide) (by decide);obtain ⟨Z,cap,h1,h2,h3,h4,h5,h6,h7,h8,h9,h10,hY⟩:=h;have hk:=hu.keep;refine ⟨Z,cap,fun b hz=>⟨(h1 b hz).1,Nat.lt_of_lt_of_le (h1 b hz).2 hu.size⟩,hk.has h2 (fun e=>ho.1 e.symm),h3,?_,h5,h6,h7.upd hu (fun b hz e=>hne b (hY b (.inl hz)) e) (fun i hi=>⟨fun e=>(ho.2.2 i hi).1 e.symm,fun e=>(ho.2.2 i hi).2 e.symm⟩),h8,h9,h10,fun b hb=>hY b (hb.imp id (Nat.le_trans hu.size))⟩;exact di (hk.own h4.ptrs fun b hb e=>by
  have:gr=b:=by simpa [Value.ownBlock] using hb
  exact ho.2.1 (by rw [this];exact e.symm))
theorem PenY.apart2{Yo:an}{w w':World}{B gp gg gr wd g:Nat}{Rs:List Rw}{Ls:List Ln}{r c:Int}{pd au:Bool}{C:List Value}(h:PenY Yo w B gp gg gr wd Rs Ls r c pd au)(hne:∀ b,Yo b->b≠g)(hg:Has w g C 143)(hu:Upd (fun b=>b=g) w w'):PenY Yo w' B gp gg gr wd Rs Ls r c pd au :=
 ⟨hu.keep.has h.1 (fun e=>by subst e;exact aH hg h.1 (by decide)),h.2.1,h.2.2.1.apart2 hne hg hu,h.2.2.2⟩
theorem rF(Ls:List Ln)(wd r c:Nat)(pd au:Bool)(n:Int)(xs:List Int):(fF Ls wd r c pd au n xs).length=Ls.length:=by
 unfold fF;rw [cT];have h1:(p1L Ls r pd).length=Ls.length:=by
  unfold p1L
  split
  ·exact iL _ _
  ·rfl
 have h2:∀ (M:List Ln) (k:Int) (r c:Nat),(p2L wd k M r c au).length=M.length:=fun M k r c=>by
  unfold p2L
  repeat' split
  all_goals first | rfl | rw [iL,cT]
 rw [h2,h1]
def FPen(Xo:an)(w:World)(B gp gg gr wd gf:Nat)(R:List Rw)(p:Pn)(xs:List Int)(op:Option Nat):Prop :=
 ∃ Yo:an,(∀ x,Yo x->x≠gf/\Xo x)/\(bT xs=false->op=none/\xH Yo w B gp gg gr wd R (bH wd p (bj xs))) /\
  (bT xs=true->∃ g,op=some g/\(∀ x,Yo x->x≠g)/\GrowP Yo w B gp gg gr wd g R (bH wd p (dt xs)) (aU xs))
def FZ(w:World)(gp gr:Nat)(R:List Rw)(op:Option Nat)(b:Nat):Prop:=PZ w gp gr R b\/op=some b
def FDo(Xo:an)(w:World)(B gp gg gr wd gf:Nat)(R:List Rw)(op:Option Nat)(p:Pn)(xs:List Int)(op':Option Nat)(w':World):Prop :=
 ∃ R',FPen Xo w' B gp gg gr wd gf R' p xs op'/\Upd (FZ w gp gr R op) w w'/\RowsFrom w R R'/\∀ g,op'=some g->op=some g\/w.heap.size<=g
theorem FZ.from{w w1:World}{gp gr:Nat}{R R1:List Rw}{op op1:Option Nat}(h:RowsFrom w R R1)(ho:∀ g,op1=some g->op=some g\/w.heap.size<=g)(hs:w.heap.size<=w1.heap.size)(b:Nat)(hb:FZ w1 gp gr R1 op1 b):FZ w gp gr R op b:=by
 rcases hb with e | e
 ·exact .inl (PZ.from h hs b e)
 ·rcases ho b e with e | e
  ·exact .inr e
  ·exact .inl (.inr (.inr (.inr e)))
section
variable {w w' : World} {B gp gg gr wd gf : Nat} {R : List Rw} {p : Pn} {xs : List Int} {op : Option Nat}
theorem FPen.pen(h:FPen Xo w B gp gg gr wd gf R p xs op):∃ Yo:an,(∀ x,Yo x->x≠gf/\Xo x)/\xH Yo w B gp gg gr wd R (bH wd p (bj xs)):=by
 obtain ⟨Yo,h1,h2,h3⟩:=h;refine ⟨Yo,h1,?_⟩
 cases ho:bT xs with
 | false=>exact (h2 ho).2
 | true =>
  obtain ⟨g,_,_,hg⟩:=h3 ho;rw [ux wd p ho];exact hg.pen
theorem FPen.below(h:FPen Xo w B gp gg gr wd gf R p xs op)(hb:Below w.heap.size w w'):FPen Xo w' B gp gg gr wd gf R p xs op:=by
 obtain ⟨Yo,h1,h2,h3⟩:=h;exact ⟨Yo,h1,fun e=>⟨(h2 e).1,(h2 e).2.below hb⟩,fun e=>by obtain ⟨g,e1,e2,e3⟩:=h3 e;exact ⟨g,e1,e2,GrowAt.below e3 hb⟩⟩
theorem FPen.own(h:FPen Xo w B gp gg gr wd gf R p xs op){C:List Value}(hg:Has w gf C 143)(hu:Upd (fun b=>b=gf) w w'):FPen Xo w' B gp gg gr wd gf R p xs op:=by
 obtain ⟨Yo,h1,h2,h3⟩:=h;refine ⟨Yo,h1,fun e=>⟨(h2 e).1,(h2 e).2.apart2 (fun x e=>(h1 x e).1) hg hu⟩,fun e=>?_⟩;obtain ⟨g,e1,e2,e3⟩:=h3 e;exact ⟨g,e1,e2,e3.1.apart2 (fun x e=>(h1 x e).1) hg hu,hu.keep.has e3.2.1 (fun e=>by subst e;exact aH e3.2.1 hg (by decide)),e3.2.2⟩
theorem FPen.close(h:FPen Xo w B gp gg gr wd gf R p xs op):FPen Xo w B gp gg gr wd gf R (bH wd p (bj xs)) [] none:=by
 obtain ⟨Yo,h1,h2⟩:=h.pen;exact ⟨Yo,h1,fun _=>⟨rfl,h2⟩,fun e=>by cases e⟩
theorem FPen.off(h:FPen Xo w B gp gg gr wd gf R p xs op){C:List Value}(hg:Has w gf C 143):¬ FZ w gp gr R op gf:=by
 obtain ⟨_,_,h2⟩:=h.pen;rintro (e | e)
 ·exact ow h2.any hg (by decide) (by decide) (by decide) (by decide) (by decide) e
 ·obtain ⟨Yo,h1,h2,h3⟩:=h
  cases ho:bT xs with
  | false=>rw [(h2 ho).1] at e;cases e
  | true =>
   obtain ⟨g,e1,_,e3⟩:=h3 ho;rw [e1] at e
   cases e
   exact aH e3.2.1 hg (by decide)
theorem FPen.gp_lt(h:FPen Xo w B gp gg gr wd gf R p xs op):B<=gp/\gp<w.heap.size:=by
 obtain ⟨_,_,h2⟩:=h.pen;exact ⟨h2.2.1,h2.lt⟩
theorem xG(h:FPen Xo w B gp gg gr wd gf R p xs op){r:Int}(hr:bL r=true):Calls Tryz.prog 148 #[.pointer (some ⟨gp,0,none⟩),.int .i32 r] w (fun e w'=>e=.returned (.bool true)/\FDo Xo w B gp gg gr wd gf R op p (xs++[r]) none w'):=by
 obtain ⟨Yo,h1,h2⟩:=h.pen;have hs:=h2.sizes;obtain ⟨n1,n2,_,n4,n5⟩:=(bH wd p (bj xs)).nat hs.1 hs.2.1 hs.2.2.1 hs.2.2.2.1;have hc:=wV B gp gg gr wd R _ _ _ _ _ r w h2 _ _ n1 n2 n4 n5;rw [hr] at hc;refine hc.mono ?_;rintro e w' ⟨rfl,R1,k1,k2,k3⟩;have hno:¬ bT (xs++[r])=true:=by rw [cI,hr];decide
 refine ⟨rfl,R1,⟨Yo,h1,fun _=>⟨rfl,?_⟩,fun e=>absurd e hno⟩,k2.mono fun b _ e=>.inl e,k3,fun g e=>by cases e⟩;rw [xI wd p hr];exact k1
theorem uv(h:FPen Xo w B gp gg gr wd gf R p xs op)(PH:gf<w.heap.size){r:Int}(hr:bL r=false)(hj:dw xs r=false):Calls Tryz.prog 15 #[.pointer (some ⟨gp,0,none⟩),.int .i32 r,.agg #[.int .i64 (bh r).br,.bool (bh r).pc,.int .i64 (bh r).cv,.int .i64 (bh r).ea]] w (fun e w'=>∃ g,e=.returned (.pointer (some ⟨g,0,none⟩))/\w.heap.size<=g/\FDo Xo w B gp gg gr wd gf R op p (xs++[r]) (some g) w'):=by
 obtain ⟨Yo,h1,h2⟩:=h.pen;have hs:=h2.sizes;obtain ⟨n1,n2,n3,n4,n5⟩:=(bH wd p (bj xs)).nat hs.1 hs.2.1 hs.2.2.1 hs.2.2.2.1;obtain ⟨l1,l2⟩:=xJ wd p hj;refine (qP B gp gg gr wd R _ _ _ _ _ r _ _ _ _ w h2 _ _ _ n1 n2 n3 n4 n5).mono ?_;rintro e w' ⟨g,rfl,Kh,hd⟩;have hno:¬ bT (xs++[r])=false:=by rw [cI,hr];decide
 obtain ⟨R2,q1,q3,hR⟩:=GrowAt.first (xs:=[r]) (ps:=aq [r]) (by simp) hd;refine ⟨g,rfl,Kh,R2,⟨fun b=>Yo b/\b≠g,fun x hx=>h1 x hx.1,fun e=>absurd e hno,fun _=>⟨g,rfl,fun x hx=>hx.2,?_⟩⟩,q3.mono fun b _ e=>by rcases e with e | e;exact .inl e;exact .inl (.inr (.inr (.inr (by omega)))),hR,fun g' e=>by cases e;exact .inr Kh⟩;rw [l1,l2];exact q1
theorem rG(h:FPen Xo w B gp gg gr wd gf R p xs op)(ho:bT xs=true){r:Int}(hr:bL r=false)(hj:dw xs r=true):∃ g,op=some g/\Calls Tryz.prog 16 #[.pointer (some ⟨g,0,none⟩),.pointer (some ⟨gp,0,none⟩),.int .i32 r,.agg #[.int .i64 (bh r).br,.bool (bh r).pc,.int .i64 (bh r).cv,.int .i64 (bh r).ea]] w (fun e w'=>(∃ b,e=.returned (.bool b))/\FDo Xo w B gp gg gr wd gf R op p (xs++[r]) (some g) w'):=by
 obtain ⟨Yo,h1,_,h3⟩:=h;obtain ⟨g,rfl,hne,hg⟩:=h3 ho;refine ⟨g,rfl,?_⟩;obtain ⟨j1,j2⟩:=fH hj;have hno:¬ bT (xs++[r])=false:=by rw [cI,hr];decide
 have hh:=(jL _ xs rfl ho).2;have h0:0<(aU xs).length:=List.length_pos_iff.2 hh;have Ax:∀ (w':World) (R':List Rw),GrowP Yo w' B gp gg gr wd g R' (bH wd p (dt xs)) (aU xs++[r])->FPen Xo w' B gp gg gr wd gf R' p (xs++[r]) (some g):=fun w' R' k =>
  ⟨Yo,h1,fun e=>absurd e hno,fun _=>⟨g,rfl,hne,by rw [j1,j2];exact k⟩⟩
 by_cases Md:(aU xs).length<16
 ·have hK:clN (aU xs)=(aU xs).length:=by unfold clN;omega
  have hK2:clN (aU xs++[r])=(aU xs).length+1:=by unfold clN;rw [List.length_append,List.length_singleton];omega
  have hg2:GrowAt Yo w B gp gg gr wd g R (bH wd p (dt xs)).L (bH wd p (dt xs)).r2 ((bH wd p (dt xs)).c2 wd) ((bH wd p (dt xs)).pd2 wd) (bH wd p (dt xs)).au (aU xs++[r]) (aq (aU xs++[r])) (aU xs).length:=by
   rw [mq (Nat.le_refl _),<-hK];exact hg
  have hs:=hg2.1.sizes;rw [rF] at hs;obtain ⟨n1,n2,n3,n4,n5⟩:=(bH wd p (dt xs)).nat hs.1 hs.2.1 hs.2.2.1 hs.2.2.2.1;have hpl:=qU (Ls:=(bH wd p (dt xs)).L) ((bH wd p (dt xs)).pd2 wd) (bH wd p (dt xs)).au (gwI (cwW (aU xs++[r]) (aq (aU xs++[r])) (aU xs).length)) (eB (aU xs++[r]) (aU xs).length) n4 n5;have Ng:(aU xs++[r]).length=(aU xs).length+1:=by simp
  have e1:(aU xs++[r]).getD (aU xs).length 0=r:=kV _ _ _;have e2:(aq (aU xs++[r])).getD (aU xs).length Pr.none=bh r:=eU _ _;have hj:=sX (Yo:=Yo) B gp gg gr wd R _ _ _ _ _ g (eB (aU xs++[r]) (aU xs).length) true (gE (aq (aU xs++[r])) (aU xs).length) (cwW (aU xs++[r]) (aq (aU xs++[r])) (aU xs).length) _ _ _ r (bh r).br (bh r).pc (bh r).cv (bh r).ea w hg2.1 hg2.2 (by rw [pQ _ _ (by omega)];exact Md) (by rw [rF];exact hpl.1) hpl.2.1 hne;refine hj.mono ?_;rintro e w' ⟨rfl,hd⟩;obtain ⟨R1,hg1,hu,hR⟩:=GrowAt.next (xs:=aU xs++[r]) (ps:=aq (aU xs++[r])) (K:=(aU xs).length) n4 n5 h0 (by omega) (by rw [e1,e2];exact hd);refine ⟨⟨_,rfl⟩,R1,Ax w' R1 (by unfold GrowP;rw [hK2];exact hg1),hu.mono fun b _ e=>?_,hR,fun g' e=>.inl e⟩
  rcases e with e | e
  ·exact .inl e
  ·exact .inr (by rw [e])
 ·have hl:(eB (aU xs) (clN (aU xs))).length=16:=by rw [pQ _ _ (by unfold clN;omega)];unfold clN;omega
  refine (qQ g _ _ _ _ _ _ _ _ (some ⟨gp,0,none⟩) r _ _ _ _ w hg.2 hl).mono ?_;rintro e w' ⟨rfl,hb⟩;exact ⟨⟨_,rfl⟩,R,Ax w' R (si (by omega) (GrowAt.below hg hb)),Upd.ofBelow hb |>.mono fun b _ e=>.inl (.inr (.inr (.inr e))),RowsFrom.self _ _,fun g' e=>.inl e⟩
end
end
section
variable {Xo : an}
section
theorem has_fx{w:World}{g:Nat}{X:FX}{l b h:Int}:FDec X w g l b h↔eH ⟨X.gp,l,b,h,X.op⟩ w g X.tl X.la X.cj X.pi X.od:=Iff.rfl
theorem qo(X:FY)(g:Nat)(tl:Bool)(la cj pi:Int)(od:Bool)(w:World)(h:eH X w g tl la cj pi od):Calls Tryz.prog 83 #[.pointer (some ⟨g,4,none⟩)] w (fun e w'=>e=.returned (.tuple #[])/\eH X w' g false 0 0 0 false/\But g w.heap.size w w'):=by
 have c0:=h.cell 4 _ rfl;have c1:=h.cell 5 _ rfl;have c2:=h.cell 6 _ rfl;have c3:=h.cell 7 _ rfl;have c4:=h.cell 8 _ rfl;have f0:=h.free 4;have f1:=h.free 5;have f2:=h.free 6;have f3:=h.free 7;have f4:=h.free 8;have HF:=ab (eC w g (.bool false) (.int .i64 0) (.int .u8 0) (.int .u8 0) (.bool false) h);clear h
 go_enter Tryz.func83,Tryz.ntmps83
 go_wp2;exact bodyPost_end (by kernel_rfl) rfl ⟨rfl,HF.out.1,HF.out.2⟩
theorem kU(X:FX)(g:Nat)(l b h:Int)(w:World)(hd:FDec X w g l b h):Calls Tryz.prog 26 #[.pointer (some ⟨g,0,none⟩)] w (fun e w'=>e=.returned (.tuple #[])/\FDec ⟨X.gp,false,0,0,0,false,.pointer none⟩ w' g l b h/\But g w.heap.size w w'):=by
 have c9:w.cell? ⟨g,9,none⟩=some X.op:=hd.cell 9 _ rfl;have f9:=hd.free 9;have h1:FDec ⟨X.gp,X.tl,X.la,X.cj,X.pi,X.od,.pointer none⟩ (w.setCell ⟨g,9,none⟩ (.pointer none)) g l b h:=hd.set 9 _;obtain ⟨w1,Ce⟩:=ae (w.setCell ⟨g,9,none⟩ (.pointer none));have hb:But g w.heap.size w w1:=by rw [Ce];exact (But.refl _ _ _).set _ _
 rw [<-Ce] at h1;have HR:=ab (qo ⟨X.gp,l,b,h,.pointer none⟩ g X.tl X.la X.cj X.pi X.od w1 (has_fx.1 h1));have HB:=ab hb;have HW:=ab Ce;obtain ⟨vo,MS⟩:=ae (X.op);rw [<-MS] at c9;clear hd h1 hb Ce MS
 go_enter Tryz.func26,Tryz.ntmps26
 go_wp2_with fail
 rw [<-HW.out];refine HR.out.mono ?_;rintro e w2 ⟨rfl,h2,b2⟩;have HF:=ab (And.intro h2 (HB.out.trans (b2.mono HB.out.size)));clear h2 b2;go_wp2;exact bodyPost_end (by kernel_rfl) rfl ⟨rfl,HF.out.1,HF.out.2⟩
end
def fxs(gp:Nat)(xs:List Int)(op:Option Nat):FX:=⟨gp,oC xs,oD xs,kD xs,kE xs,lZ xs,cL op⟩
def FAt(Xo:an)(w:World)(B gp gg gr wd gf:Nat)(R:List Rw)(p:Pn)(xs:List Int)(s:St)(op:Option Nat):Prop:=FDec (fxs gp xs op) w gf s.1 s.2.1 s.2.2/\FPen Xo w B gp gg gr wd gf R p xs op
def FW(w:World)(gp gr gf:Nat)(R:List Rw)(op:Option Nat)(b:Nat):Prop:=FZ w gp gr R op b\/b=gf
def FGo(Xo:an)(w:World)(B gp gg gr wd gf:Nat)(R:List Rw)(op:Option Nat)(p:Pn)(xs:List Int)(s:St)(w':World):Prop :=
 ∃ R' op',FAt Xo w' B gp gg gr wd gf R' p xs s op'/\Upd (FW w gp gr gf R op) w w'/\RowsFrom w R R'/\∀ g,op'=some g->op=some g\/w.heap.size<=g
theorem FW.from{w w1:World}{gp gr gf:Nat}{R R1:List Rw}{op op1:Option Nat}(h:RowsFrom w R R1)(ho:∀ g,op1=some g->op=some g\/w.heap.size<=g)(hs:w.heap.size<=w1.heap.size)(b:Nat)(hb:FW w1 gp gr gf R1 op1 b):FW w gp gr gf R op b:=hb.imp (FZ.from h ho hs b) id
section
variable {w w1 w2 : World} {B gp gg gr wd gf : Nat} {R R1 : List Rw} {op op1 : Option Nat} {p p1 : Pn} {xs ys : List Int} {s t : St}
theorem FAt.below(h:FAt Xo w B gp gg gr wd gf R p xs s op)(hb:Below w.heap.size w w1):FAt Xo w1 B gp gg gr wd gf R p xs s op:=⟨Has.below h.1 hb h.1.lt,h.2.below hb⟩
theorem FAt.lt(h:FAt Xo w B gp gg gr wd gf R p xs s op):gf<w.heap.size:=h.1.lt
theorem FGo.self(h:FAt Xo w B gp gg gr wd gf R p xs s op)(hb:Below w.heap.size w w1):FGo Xo w B gp gg gr wd gf R op p xs s w1:=⟨R,op,h.below hb,(Upd.ofBelow hb).mono fun _ _ e=>.inl (.inl (.inr (.inr (.inr e)))),RowsFrom.self _ _,fun _ e=>.inl e⟩
theorem FGo.trans(hu:Upd (FW w gp gr gf R op) w w1)(hf:RowsFrom w R R1)(ho:∀ g,op1=some g->op=some g\/w.heap.size<=g)(k:FGo Xo w1 B gp gg gr wd gf R1 op1 p ys t w2):FGo Xo w B gp gg gr wd gf R op p ys t w2:=by
 obtain ⟨R2,op2,h1,h2,h3,h4⟩:=k;refine ⟨R2,op2,h1,hu.trans (h2.mono fun b _ e=>FW.from hf ho hu.size b e),hf.trans h3 hu.size,fun g e=>?_⟩
 rcases h4 g e with e | e
 ·exact ho g e
 ·exact .inr (Nat.le_trans hu.size e)
end
section
variable {w w1 : World} {B gp gg gr wd gf : Nat} {R : List Rw} {op : Option Nat} {p : Pn} {xs : List Int} {s : St}
theorem FAt.cells(h:FAt Xo w B gp gg gr wd gf R p xs s op):w.cell? ⟨gf,0,none⟩=some (.pointer (some ⟨gp,0,none⟩))/\w.cell? ⟨gf,9,none⟩=some (cL op):=⟨h.1.cell 0 _ rfl,h.1.cell 9 _ rfl⟩
theorem FPen.turned(h:FPen Xo w B gp gg gr wd gf R p xs op){X:FX}{l b hh:Int}(hg:FDec X w gf l b hh)(hb:But gf w.heap.size w w1):FPen Xo w1 B gp gg gr wd gf R p xs op/\Upd (FW w gp gr gf R op) w w1/\RowsFrom w R R :=
 ⟨h.own hg (Upd.ofBut hb |>.mono fun b hb e=>e),Upd.ofBut hb |>.mono fun b _ e=>.inr e,RowsFrom.self _ _⟩
end
end
section
variable {Xo : an}
section
variable {w w1 w2 w3 w4 w5 : World} {B gp gg gr wd gf : Nat} {R : List Rw} {o o' : Option Nat} {p : Pn} {ys zs : List Int} {s : St}
theorem FDo.below(h:FDo Xo w B gp gg gr wd gf R o p zs o' w1)(hb:Below w1.heap.size w1 w2):FDo Xo w B gp gg gr wd gf R o p zs o' w2:=by
 obtain ⟨R',k1,k2,k3,k4⟩:=h;exact ⟨R',k1.below hb,k2.trans (Upd.ofBelow hb |>.mono fun b _ e=>.inl (.inr (.inr (.inr (Nat.le_trans k2.size e))))),k3,k4⟩
theorem FDo.block(hp:FPen Xo w B gp gg gr wd gf R p ys o){X:FX}{l b h:Int}(hd:FDec X w gf l b h)(k:FDo Xo w B gp gg gr wd gf R o p zs o' w1):FDec X w1 gf l b h:=by
 obtain ⟨_,_,k2,_⟩:=k;exact k2.keep.has hd (hp.off hd)
theorem nm(h:FAt Xo w B gp gg gr wd gf R p ys s o)(b1:Below w.heap.size w w1){X:FX}(h2:FDec X w2 gf s.1 s.2.1 s.2.2)(b2:But gf w1.heap.size w1 w2)(b3:Below w2.heap.size w2 w3)(k:FDo Xo w3 B gp gg gr wd gf R o p zs o' w4)(h5:FDec (fxs gp zs o') w5 gf s.1 s.2.1 s.2.2)(b5:But gf w4.heap.size w4 w5) :
  FGo Xo w B gp gg gr wd gf R o p zs s w5:=by
 obtain ⟨R',k1,k2,k3,k4⟩:=k;have hw4:FDec X w4 gf s.1 s.2.1 s.2.2:=by
  have hp3:=(((h.2.below b1).own (Has.below h.1 b1 h.1.lt) (Upd.ofBut b2)).below b3);exact k2.keep.has (Has.below h2 b3 h2.lt) (hp3.off (Has.below h2 b3 h2.lt))
 have hs3:w.heap.size<=w3.heap.size:=Nat.le_trans b1.size (Nat.le_trans b2.size b3.size);have hf:∀ b,FZ w3 gp gr R o b->FW w gp gr gf R o b:=fun b e=>.inl (FZ.from (RowsFrom.self w R) (fun _ e=>.inl e) hs3 b e)
 refine ⟨R',o',⟨h5,k1.own hw4 (Upd.ofBut b5)⟩,?_,(RowsFrom.self w R).trans k3 hs3,fun g e=>?_⟩
 ·have u1:Upd (FW w gp gr gf R o) w w1:=Upd.ofBelow b1 |>.mono fun b _ e=>.inl (.inl (.inr (.inr (.inr e))))
  have u2:Upd (FW w gp gr gf R o) w1 w2:=Upd.ofBut b2 |>.mono fun b _ e=>.inr e
  have u3:Upd (FW w gp gr gf R o) w2 w3:=Upd.ofBelow b3 |>.mono fun b _ e=>.inl (.inl (.inr (.inr (.inr (Nat.le_trans b1.size (Nat.le_trans b2.size e))))))
  have u4:Upd (FW w gp gr gf R o) w3 w4:=k2.mono fun b _ e=>hf b e
  have u5:Upd (FW w gp gr gf R o) w4 w5:=Upd.ofBut b5 |>.mono fun b _ e=>.inr e
  exact (((u1.trans u2).trans u3).trans u4).trans u5
 ·rcases k4 g e with e | e
  ·exact .inl e
  ·exact .inr (Nat.le_trans hs3 e)
theorem yL(gp:Nat)(ys:List Int){r:Int}(hr:bL r=true):fxs gp (ys++[r]) none=⟨gp,false,0,0,0,false,.pointer none⟩:=by
 obtain ⟨h1,h2,h3,h4,h5⟩:=xL (xs:=ys) hr;unfold fxs;rw [h1,h2,h3,h4,h5]
 rfl
theorem sg(h:FAt Xo w B gp gg gr wd gf R p ys s o){r:Int}(hr:bL r=false):Calls Tryz.prog 150 #[.pointer (some ⟨gf,4,none⟩),.agg #[.int .i64 (bh r).br,.bool (bh r).pc,.int .i64 (bh r).cv,.int .i64 (bh r).ea]] w (fun e w'=>e=.returned (.bool (dw ys r))/\FDec (fxs gp (ys++[r]) o) w' gf s.1 s.2.1 s.2.2/\But gf w.heap.size w w'):=by
 obtain ⟨b0,b1,b2,b3⟩:=yM ys;obtain ⟨n1,n2,n3,n4,n5⟩:=uA (xs:=ys) hr;refine (pU (X:=⟨gp,s.1,s.2.1,s.2.2,cL o⟩) gf (oC ys) (oD ys) (kD ys) (kE ys) (lZ ys) (bh r).br (bh r).pc (bh r).cv (bh r).ea w h.1 b0 b1 b2 b3).mono ?_;rintro e w' ⟨rfl,k1,k2⟩;refine ⟨by rw [<-sl hr];rfl,?_,k2⟩;have e1:fxs gp (ys++[r]) o=⟨gp,true,bQ r,dg (kD ys) (du r),eu (kE ys) (bQ r) (aL tPict r),(bQ r == 6 && !lZ ys),cL o⟩:=by
  unfold fxs;rw [n1,n2,n3,n4,n5]
 rw [e1];exact k1
end
theorem eY{Z:an}{w:World}{ao:Option Addr}{n cap:Nat}{L:List Int}(h:HeldE (aE .i32) Z w (.slice ao n cap) L):n=L.length/\n<=cap/\∀ i,i<L.length->∃ b off,ao=some ⟨b,off,none⟩/\b<w.heap.size/\w.cell? ⟨b,off+i,none⟩=some (.int .i32 (L.getD i 0)):=by
 obtain ⟨h1,h2,h3⟩:=h.spots;refine ⟨h1,h2,fun i hi=>?_⟩;obtain ⟨b,off,rfl,hb,hz,C,hC,hr⟩:=h3 i hi;have LH:C=[.int .i32 (L.getD i 0)]:=hr;subst LH;have h0:=hC 0 (by decide);refine ⟨b,off,rfl,hb,?_⟩
 simpa [aE] using h0
theorem jI(B gp gg gr wd gf:Nat)(R:List Rw)(p:Pn)(xs:List Int)(s:St)(op:Option Nat)(v:Value)(L:List Int)(w:World)(h:FAt Xo w B gp gg gr wd gf R p xs s op)(hv:HeldE (aE .i32) (fun b=>¬ FW w gp gr gf R op b) w v L) :
  Calls Tryz.prog 79 #[.pointer (some ⟨gf,0,none⟩),v] w (fun e w'=>e=.returned (.tuple #[])/\FGo Xo w B gp gg gr wd gf R op p (xs++L) s w'):=by
 have hmx:=hv.max;obtain ⟨ao,ca,rfl⟩:=hv.len;obtain ⟨n,hn⟩:=ae (L.length);have HN:=ab hn;have Jg:=ab hmx;rw [<-hn] at hv ⊢;have HV:=ab hv;have H:=ab h;clear h hv hn hmx
 go_enter Tryz.func79,Tryz.ntmps79
 go_wp2
 go_loopw [9] (fun iv wr=>∃ (k:Nat) (R1:List Rw) (o1:Option Nat),k<=n/\iv=.int .i64 k/\FAt Xo wr B gp gg gr wd gf R1 p (xs++L.take k) s o1/\Upd (FW w gp gr gf R op) w wr/\RowsFrom w R R1/\(∀ g,o1=some g->op=some g\/w.heap.size<=g)) (fun iv _=>n - (intOf iv).toNat)
 case atStart=>exact ⟨0,R,op,Nat.zero_le _,rfl,by rw [List.take_zero,List.append_nil];exact H.out,Upd.refl _ _,RowsFrom.self _ _,fun _ e=>.inl e⟩
 case round =>
  obtain ⟨k,R1,o1,hk,rfl,hf,hu,Cd,hop⟩:=hrel;obtain ⟨wv,B9⟩:=ae (wr);subst B9
  by_cases hlt:k<n
  ·have j1:decide ((k:Int)<(n:Int))=true:=ah (by omega);have j2:decide (k<n)=true:=ah (by omega);have Pq:(k:Int)<(n:Int):=by omega
   have OB:IntKind.i64.wrap ((k:Int)+1)=(k:Int)+1:=by
    have:=Jg.out;have:=HN.out;unfold maxLen at this;rw [IntKind.wrap_i64];omega
   have Gk:=eY (HV.out.upd hu fun b hz e=>hz e);have KP:=Gk.2.1;have hc:=Gk.2.2;clear Gk;obtain ⟨bl,ol,rfl,_,hcell⟩:=hc k (by rw [<-HN.out];exact hlt);obtain ⟨r,hr⟩:=ae (L.getD k 0);rw [<-hr] at hcell;obtain ⟨ys,Fs⟩:=ae (xs++L.take k);have NI:=ab (show xs++L.take (k+1)=ys++[r] from by
    rw [Fs,List.append_assoc,hr]
    congr 1
    rw [List.take_succ_eq_append_getElem (show k<L.length from by rw [<-HN.out];exact hlt)]
    simp [List.getD,List.getElem?_eq_getElem (show k<L.length from by rw [<-HN.out];exact hlt)])
   rw [<-Fs] at hf;have HF:=ab hf;have JS:=ab (show ∀ w',FGo Xo wv B gp gg gr wd gf R1 o1 p (ys++[r]) s w'->∃ (R2:List Rw) (o2:Option Nat),FAt Xo w' B gp gg gr wd gf R2 p (xs++L.take (k+1)) s o2/\Upd (FW w gp gr gf R op) w w'/\RowsFrom w R R2/\(∀ g,o2=some g->op=some g\/w.heap.size<=g) from fun w' k=>by
    obtain ⟨R2,o2,q1,q2,q3,q4⟩:=FGo.trans hu Cd hop k;rw [<-NI.out] at q1;exact ⟨R2,o2,q1,q2,q3,q4⟩)
   have MR:k<ca:=by omega
   have ED:=ab (lz r);clear hf hu Cd hop Fs hr hc
   cases hs:bL r with
   | true =>
    rw [hs] at ED
    go_wp2_with fail
    refine (ED.out wv).mono ?_;rintro e w1 ⟨rfl,b1⟩;have Ig:=Has.below HF.out.1 b1 HF.out.1.lt;have Gj:=ab (kU (fxs gp ys o1) gf s.1 s.2.1 s.2.2 w1 Ig);have B1:=ab b1;have HD1:=ab Ig;clear b1 Ig hcell
    go_wp2_with fail
    refine Gj.out.mono ?_;rintro e w2 ⟨rfl,h2,b2⟩;have Kw:=(HF.out.2.below B1.out).own HD1.out (Upd.ofBut b2);have q0:=h2.cell 0 _ rfl;have Km:=ab (xG Kw hs);have H2:=ab (And.intro h2 (And.intro b2 Kw));have EI:=ab hs;clear h2 b2 Kw hs
    go_wp2_with fail
    refine Km.out.mono ?_;rintro e w3 ⟨rfl,k3⟩;obtain ⟨R2,o2,q1,q2,q3,q4⟩:=JS.out w3 (nm HF.out B1.out H2.out.1 H2.out.2.1 (Below.refl _ _) k3 (by rw [yL gp ys EI.out];exact FDo.block H2.out.2.2 H2.out.1 k3) (But.refl _ _ _));have HZ:=ab (And.intro q1 (And.intro q2 (And.intro q3 q4)));clear k3 q1 q2 q3 q4 q0;go_wp2
    go_roundw
    case rel=>exact ⟨k+1,R2,o2,by omega,by go_num,HZ.out.1,HZ.out.2.1,HZ.out.2.2.1,HZ.out.2.2.2⟩
    case measure=>simp [intOf] <;> omega
   | false =>
    rw [hs] at ED
    go_wp2_with fail
    refine (ED.out wv).mono ?_;rintro e w1 ⟨rfl,b1⟩;have B1:=ab b1;obtain ⟨q,hq⟩:=ae (bh r);have HUC:=ab (show ∀ w',Calls Tryz.prog 149 #[.int .i32 r] w' (Gives w' (.agg #[.int .i64 q.br,.bool q.pc,.int .i64 q.cv,.int .i64 q.ea])) from fun w'=>by rw [hq];exact sy r w');have HQ:=ab hq;clear hcell
    go_wp2_with fail
    refine (HUC.out w1).mono ?_;rintro e w2 ⟨rfl,b2⟩;have Kt:=mK w2 q.br q.pc q.cv q.ea;obtain ⟨W3,hW3,hx3,hb3⟩:=Kt;obtain ⟨gb,hgb⟩:=ae (w2.heap.size);rw [<-hgb] at hx3;have B3:=ab ((B1.out.trans (b2.mono B1.out.size)).trans (hb3.mono (Nat.le_trans B1.out.size b2.size)));have Ck:=ab hx3;have IX:=ab hW3;have CI:=ab hgb;have J7:=ab (HF.out.below B3.out);have HST:=ab (show ∀ w',FAt Xo w' B gp gg gr wd gf R1 p ys s o1->Calls Tryz.prog 150 #[.pointer (some ⟨gf,4,none⟩),.agg #[.int .i64 q.br,.bool q.pc,.int .i64 q.cv,.int .i64 q.ea]] w' (fun e w2=>e=.returned (.bool (dw ys r))/\FDec (fxs gp (ys++[r]) o1) w2 gf s.1 s.2.1 s.2.2/\But gf w'.heap.size w' w2) from fun w' h=>by rw [HQ.out];exact sg h hs);have EI:=ab hs;have EG:=ab (show gb≠gf from fun e=>by subst e;exact aH hx3 J7.out.1 (by decide));clear b1 b2 hx3 hb3 hgb hq hW3 hs HUC ED
    go_upto_region 7 with (fail)
    rw [<-IX.out];rw [<-CI.out];clear IX CI
    cases hj:dw ys r with
    | true =>
     rw [hj] at HST;have OF:bT ys=true:=by
      cases h:bT ys with
      | true=>rfl
      | false=>rw [jK EI.out h] at hj;cases hj
     obtain ⟨g,hog,_⟩:=rG J7.out.2 OF EI.out hj;have NS:=ab hog;have HJO:=ab (And.intro OF hj);clear OF hj hog;obtain ⟨Cy,D7⟩ : ∃ CC:Array Bool->World->Prop,CC=fun L8 w'=>(Mix.one L8 4=0->Below W3.heap.size W3 w')/\(Mix.one L8 4=1->∃ wz w8,Below W3.heap.size W3 wz/\FDec (fxs gp (ys++[r]) o1) w8 gf s.1 s.2.1 s.2.2/\But gf wz.heap.size wz w8/\Below w8.heap.size w8 w'):=⟨_,rfl⟩
     obtain ⟨Xrgst,hXrgst,Hrgstx,Hrgstxb⟩:=Reg.xT;obtain ⟨Ergst,Hrgstst,Fl,Fj,E2,Fr,E9,BG,Fw,Fb,ES,Fh,Eb,Eg⟩:=Reg.e12 Xrgst
      (fun xx _=>xx=.pointer (some ⟨gf,0,none⟩))
      (fun xx _=>xx=.pointer (some ⟨gf,0,none⟩))
      (fun xx _=>xx=.pointer (some ⟨gf,4,none⟩))
      (fun xx _=>xx=.agg #[.int .i64 q.br,.bool q.pc,.int .i64 q.cv,.int .i64 q.ea])
      (fun xx _=>xx=.bool true)
      (fun xx _=>xx=.bool true)
      (fun xx _=>xx=.pointer (some ⟨gf,0,none⟩))
      (fun xx _=>xx=.pointer (some ⟨gf,0,none⟩))
      (fun xx _=>xx=.pointer (some ⟨gf,9,none⟩))
      (fun xx _=>xx=.pointer (some ⟨g,0,none⟩))
      (fun xx _=>xx=.bool true)
      (fun xx _=>xx=.bool true)
     have Hrgstk:Hid (∀ i L w,(i == 4)=false ->  Cy L w->Cy (L.setIfInBounds i true) w):=ab (by
      intro i L w q h;simp only [Bool.or_eq_false_iff,beq_eq_false_iff_ne] at q;rw [D7] at h ⊢;simp only [Mix.one_ne q];exact h)
     have Hrgstb:Hid (∀ L w w1,Cy L w->Below w.heap.size w w1->Cy L w1):=ab (by
      intro L w w1 h hb;rw [D7] at h ⊢;exact ⟨fun e=>(h.1 e).trans (hb.mono (h.1 e).size),fun e=>by obtain ⟨wz,w8,e1,e2,e3,e4⟩:=h.2 e;exact ⟨wz,w8,e1,e2,e3,e4.trans (hb.mono e4.size)⟩⟩)
     have Hrgstc:=ab (show Cy (Array.replicate 12 false) W3.drew from by rw [D7];exact ⟨fun _=>(Below.refl _ _).drew,fun e=>absurd e (by decide)⟩);have Bb:=ab (fun (i:Nat) L w v q (h:Cy L w) (e:Ergst i v w)=>Reg.hk (Hrgstk.out i L w q h) e (Hrgstx.out w));have CG:=ab D7;have HrgsthX:=ab hXrgst;clear D7 hXrgst
     go_wp2_with fail
     refine Reg.regionF Ergst Cy Xrgst Hrgstst.out (by kernel_rfl) (by kernel_rfl) (by kernel_rfl) Hrgstc.out (fun Frgst AU=>?_);simp only [Reg.frame,Reg.dsts,List.map_cons,List.map_nil,Mix.put_lit,List.set_cons_succ,List.set_cons_zero,Nat.zero_add,Nat.reduceAdd] at AU;refine ⟨⟨?_,?_,?_,?_,?_,?_,?_,?_,?_,?_,?_,?_,trivial⟩,?_⟩
     ·intro Lq wq xq hh;simp only [AU];refine Reg.go rfl ?_;have HK:=Bb.out 0 _ _ _ rfl hh.cls ((Fl.out _ _).mpr rfl);go_simp;exact HK.out
     ·intro Lq wq xq hh;simp only [AU,(Fl.out _ _).mp (hh.v 0)];refine Reg.go rfl ?_;have HK:=Bb.out 1 _ _ _ rfl hh.cls ((Fj.out _ _).mpr rfl);go_simp;exact HK.out
     ·intro Lq wq xq hh;simp only [AU,(Fj.out _ _).mp (hh.v 1)];refine Reg.go rfl ?_;have HK:=Bb.out 2 _ _ _ rfl hh.cls ((E2.out _ _).mpr rfl);go_simp;exact HK.out
     ·intro Lq wq xq hh;simp only [AU];refine Reg.go rfl ?_;have hc:Cy Lq wq:=hh.cls;rw [CG.out] at hc;have hd:=Ck.out.below (hc.1 (Mix.one_un (hh.notYet 4 (by kernel_rfl)))) Ck.out.lt;have q0:=hd.cell 0 _ rfl;have q1:=hd.cell 1 _ rfl;have q2:=hd.cell 2 _ rfl;have q3:=hd.cell 3 _ rfl;clear hc;have HK:=Bb.out 3 _ _ _ rfl hh.cls ((Fr.out _ _).mpr rfl);go_simp;exact HK.out
     ·intro Lq wq xq hh;simp only [AU,(E2.out _ _).mp (hh.v 2),(Fr.out _ _).mp (hh.v 3)];refine Reg.go rfl ?_;unfold Reg.upon;have hc:Cy Lq wq:=hh.cls;rw [CG.out] at hc;have Bj:=hc.1 hh.un;have hst:=HST.out wq (J7.out.below Bj);clear hc;go_simp;refine hst.mono ?_;rintro e w9 ⟨rfl,h9,b9⟩;have hF:Cy (Lq.setIfInBounds 4 true) w9:=by
       rw [CG.out];exact ⟨fun e=>(by rw [Mix.one_set (by rw [hh.size];decide)] at e;exact absurd e (by decide)),fun _=>⟨wq,w9,Bj,h9,b9,Below.refl _ _⟩⟩
      exact ⟨_,rfl,hF,(by rw [E9.out]),(by rw [HrgsthX.out];trivial)⟩
     ·intro Lq wq xq hh;simp only [AU,(E9.out _ _).mp (hh.v 4)];refine Reg.go rfl ?_;have HK:=Bb.out 5 _ _ _ rfl hh.cls ((BG.out _ _).mpr rfl);go_simp;exact HK.out
     ·intro Lq wq xq hh;simp only [AU,(BG.out _ _).mp (hh.v 5)];refine Reg.go rfl ?_;have HK:=Bb.out 6 _ _ _ rfl hh.cls ((Fw.out _ _).mpr rfl);go_simp;exact HK.out
     ·intro Lq wq xq hh;simp only [AU,(BG.out _ _).mp (hh.v 5),(Fw.out _ _).mp (hh.v 6)];refine Reg.go rfl ?_;have HK:=Bb.out 7 _ _ _ rfl hh.cls ((Fb.out _ _).mpr rfl);go_simp;exact HK.out
     ·intro Lq wq xq hh;simp only [AU,(BG.out _ _).mp (hh.v 5),(Fb.out _ _).mp (hh.v 7)];refine Reg.go rfl ?_;have HK:=Bb.out 8 _ _ _ rfl hh.cls ((ES.out _ _).mpr rfl);go_simp;exact HK.out
     ·intro Lq wq xq hh;simp only [AU,(BG.out _ _).mp (hh.v 5),(ES.out _ _).mp (hh.v 8)];refine Reg.go rfl ?_;have hc:Cy Lq wq:=hh.cls;rw [CG.out] at hc;obtain ⟨wz,w8,e1,e2,e3,e4⟩:=hc.2 (hh.isDone 4 (by kernel_rfl));have hd:=Has.below e2 e4 e2.lt;have q9:wq.cell? ⟨gf,9,none⟩=some (.pointer (some ⟨g,0,none⟩)):=by have h9:=hd.cell 9 _ rfl;rw [show (fxs gp (ys++[r]) o1).op=cL (some g) from by show cL o1=_;rw [NS.out]] at h9;exact h9
      clear e1 e2 e3 e4 hd;clear hc;have HK:=Bb.out 9 _ _ _ rfl hh.cls ((Fh.out _ _).mpr rfl);go_simp;exact HK.out
     ·intro Lq wq xq hh;simp only [AU,(BG.out _ _).mp (hh.v 5),(Fh.out _ _).mp (hh.v 9)];refine Reg.go rfl ?_;have HK:=Bb.out 10 _ _ _ rfl hh.cls ((Eb.out _ _).mpr rfl);go_simp;exact HK.out
     ·intro Lq wq xq hh;simp only [AU,(BG.out _ _).mp (hh.v 5),(Eb.out _ _).mp (hh.v 10)];refine Reg.go rfl ?_;have HK:=Bb.out 11 _ _ _ rfl hh.cls ((Eg.out _ _).mpr rfl);go_simp;exact HK.out
     intro xq wrgst GS hvrgst;rw [CG.out] at GS;simp only [AU];have vrgst11:=(Eg.out _ _).mp (hvrgst 11 (by decide));rw [vrgst11];clear hvrgst AU Bb Hrgstk Hrgstx Hrgstst Hrgstc CG HrgsthX Hrgstb Hrgstxb Fl Fj E2 Fr E9 BG Fw Fb ES Fh Eb Eg;obtain ⟨wz,w8,e1,e2,e3,e4⟩:=GS.2 (by kernel_rfl);have Me:=((J7.out.2.below e1).own (Has.below J7.out.1 e1 J7.out.1.lt) (Upd.ofBut e3)).below e4;obtain ⟨w7,Mk⟩:=ae (wrgst);rw [<-Mk] at e4 Me;have JD:=ab (Has.below ((Ck.out.below e1 Ck.out.lt).but e3 (Has.below Ck.out e1 Ck.out.lt).lt EG.out) e4 (((Ck.out.below e1 Ck.out.lt).but e3 (Has.below Ck.out e1 Ck.out.lt).lt EG.out)).lt);have H7:=ab (show FDec (fxs gp (ys++[r]) o1) w7 gf s.1 s.2.1 s.2.2/\But gf W3.heap.size W3 w7/\FPen Xo w7 B gp gg gr wd gf R1 p ys o1 from ⟨Has.below e2 e4 e2.lt,((But.ofBelow (g:=gf) e1).trans (e3.mono e1.size)).trans ((But.ofBelow (g:=gf) e4).mono (Nat.le_trans e1.size e3.size)),Me⟩);rw [<-Mk];clear GS e1 e2 e3 e4 Me Mk HST
     go_upto_region 8 with (fail)
     obtain ⟨DM,F4⟩ : ∃ CC:Array Bool->World->Prop,CC=fun L8 w'=>(Mix.one L8 10=0->Below w7.heap.size w7 w')/\(Mix.one L8 10=1->∃ wz,Below w7.heap.size w7 wz/\FDo Xo wz B gp gg gr wd gf R1 o1 p (ys++[r]) (some g) w'):=⟨_,rfl⟩
     obtain ⟨Xrgj,Js,Hrgjx,Hrgjxb⟩:=Reg.xT;obtain ⟨Ergj,Hrgjst,GM,Ie,Gs,Ii,GD,Hw,Hp,GQ,G0,Ir,Hrgje10,_⟩:=Reg.e12 Xrgj
      (fun xx _=>xx=.pointer (some ⟨gf,0,none⟩))
      (fun xx _=>xx=.pointer (some ⟨gf,0,none⟩))
      (fun xx _=>xx=.pointer (some ⟨gf,9,none⟩))
      (fun xx _=>xx=.pointer (some ⟨g,0,none⟩))
      (fun xx _=>xx=.pointer (some ⟨gf,0,none⟩))
      (fun xx _=>xx=.pointer (some ⟨gf,0,none⟩))
      (fun xx _=>xx=.pointer (some ⟨gf,0,none⟩))
      (fun xx _=>xx=.pointer (some ⟨gp,0,none⟩))
      (fun xx _=>xx=.int .i32 r)
      (fun xx _=>xx=.agg #[.int .i64 q.br,.bool q.pc,.int .i64 q.cv,.int .i64 q.ea])
      (fun _ _=>True)
      (fun _ _=>True)
      (s10:=fun x w w1 hx h=>by rw [Js] at hx;exact h)
     have Hrgjk:Hid (∀ i L w,(i == 10)=false ->  DM L w->DM (L.setIfInBounds i true) w):=ab (by
      intro i L w q h;simp only [Bool.or_eq_false_iff,beq_eq_false_iff_ne] at q;rw [F4] at h ⊢;simp only [Mix.one_ne q];exact h)
     have Hrgjb:Hid (∀ L w w1,DM L w->Below w.heap.size w w1->DM L w1):=ab (by
      intro L w w1 h hb;rw [F4] at h ⊢;exact ⟨fun e=>(h.1 e).trans (hb.mono (h.1 e).size),fun e=>by obtain ⟨wz,e1,e2⟩:=h.2 e;exact ⟨wz,e1,e2.below hb⟩⟩)
     have Hrgjc:=ab (show DM (Array.replicate 11 false) w7.drew from by rw [F4];exact ⟨fun _=>(Below.refl _ _).drew,fun e=>absurd e (by decide)⟩);have Cr:=ab (fun (i:Nat) L w v q (h:DM L w) (e:Ergj i v w)=>Reg.hk (Hrgjk.out i L w q h) e (Hrgjx.out w));have Da:=ab F4;have HrgjhX:=ab Js;clear F4 Js
     go_wp2_with fail
     refine Reg.regionF Ergj DM Xrgj Hrgjst.out (by kernel_rfl) (by kernel_rfl) (by kernel_rfl) Hrgjc.out (fun Frgj BJ=>?_);simp only [Reg.frame,Reg.dsts,List.map_cons,List.map_nil,Mix.put_lit,List.set_cons_succ,List.set_cons_zero,Nat.zero_add,Nat.reduceAdd] at BJ;refine ⟨⟨?_,?_,?_,?_,?_,?_,?_,?_,?_,?_,?_,trivial⟩,?_⟩
     ·intro Lq wq xq hh;simp only [BJ];refine Reg.go rfl ?_;have HK:=Cr.out 0 _ _ _ rfl hh.cls ((GM.out _ _).mpr rfl);go_simp;exact HK.out
     ·intro Lq wq xq hh;simp only [BJ,(GM.out _ _).mp (hh.v 0)];refine Reg.go rfl ?_;have HK:=Cr.out 1 _ _ _ rfl hh.cls ((Ie.out _ _).mpr rfl);go_simp;exact HK.out
     ·intro Lq wq xq hh;simp only [BJ,(Ie.out _ _).mp (hh.v 1)];refine Reg.go rfl ?_;have HK:=Cr.out 2 _ _ _ rfl hh.cls ((Gs.out _ _).mpr rfl);go_simp;exact HK.out
     ·intro Lq wq xq hh;simp only [BJ,(Gs.out _ _).mp (hh.v 2)];refine Reg.go rfl ?_;have hc:DM Lq wq:=hh.cls;rw [Da.out] at hc;have hd:=Has.below H7.out.1 (hc.1 (Mix.one_un (hh.notYet 10 (by kernel_rfl)))) H7.out.1.lt;have q9:wq.cell? ⟨gf,9,none⟩=some (.pointer (some ⟨g,0,none⟩)):=by have h9:=hd.cell 9 _ rfl;rw [show (fxs gp (ys++[r]) o1).op=cL (some g) from by show cL o1=_;rw [NS.out]] at h9;exact h9
      clear hc;have HK:=Cr.out 3 _ _ _ rfl hh.cls ((Ii.out _ _).mpr rfl);go_simp;exact HK.out
     ·intro Lq wq xq hh;simp only [BJ];refine Reg.go rfl ?_;have HK:=Cr.out 4 _ _ _ rfl hh.cls ((GD.out _ _).mpr rfl);go_simp;exact HK.out
     ·intro Lq wq xq hh;simp only [BJ,(GD.out _ _).mp (hh.v 4)];refine Reg.go rfl ?_;have HK:=Cr.out 5 _ _ _ rfl hh.cls ((Hw.out _ _).mpr rfl);go_simp;exact HK.out
     ·intro Lq wq xq hh;simp only [BJ,(Hw.out _ _).mp (hh.v 5)];refine Reg.go rfl ?_;have HK:=Cr.out 6 _ _ _ rfl hh.cls ((Hp.out _ _).mpr rfl);go_simp;exact HK.out
     ·intro Lq wq xq hh;simp only [BJ,(Hp.out _ _).mp (hh.v 6)];refine Reg.go rfl ?_;have hc:DM Lq wq:=hh.cls;rw [Da.out] at hc;have hd:=Has.below H7.out.1 (hc.1 (Mix.one_un (hh.notYet 10 (by kernel_rfl)))) H7.out.1.lt;have q0:=hd.cell 0 _ rfl;clear hc;have HK:=Cr.out 7 _ _ _ rfl hh.cls ((GQ.out _ _).mpr rfl);go_simp;exact HK.out
     ·intro Lq wq xq hh;simp only [BJ];refine Reg.go rfl ?_;have HK:=Cr.out 8 _ _ _ rfl hh.cls ((G0.out _ _).mpr rfl);go_simp;exact HK.out
     ·intro Lq wq xq hh;simp only [BJ];refine Reg.go rfl ?_;have hc:DM Lq wq:=hh.cls;rw [Da.out] at hc;have hd:=JD.out.below (hc.1 (Mix.one_un (hh.notYet 10 (by kernel_rfl)))) JD.out.lt;have q0:=hd.cell 0 _ rfl;have q1:=hd.cell 1 _ rfl;have q2:=hd.cell 2 _ rfl;have q3:=hd.cell 3 _ rfl;clear hc;have HK:=Cr.out 9 _ _ _ rfl hh.cls ((Ir.out _ _).mpr rfl);go_simp;exact HK.out
     ·intro Lq wq xq hh;simp only [BJ,(Ii.out _ _).mp (hh.v 3),(GQ.out _ _).mp (hh.v 7),(G0.out _ _).mp (hh.v 8),(Ir.out _ _).mp (hh.v 9)];refine Reg.go rfl ?_;unfold Reg.upon;have hc:DM Lq wq:=hh.cls;rw [Da.out] at hc;have Bj:=hc.1 hh.un;obtain ⟨g2,e2,NF⟩:=rG (H7.out.2.2.below Bj) HJO.out.1 EI.out HJO.out.2;rw [NS.out] at e2
      cases e2
      rw [<-HQ.out] at NF;clear hc;go_simp;refine NF.mono ?_;rintro e w9 ⟨⟨bb,rfl⟩,h9⟩;have hF:DM (Lq.setIfInBounds 10 true) w9:=by
       rw [Da.out];exact ⟨fun e=>(by rw [Mix.one_set (by rw [hh.size];decide)] at e;exact absurd e (by decide)),fun _=>⟨wq,Bj,h9⟩⟩
      exact ⟨_,rfl,hF,(by rw [Hrgje10.out];trivial),(by rw [HrgjhX.out];trivial)⟩
     intro xq wrgj JC hvrgj;rw [Da.out] at JC;simp only [BJ];clear hvrgj BJ Cr Hrgjk Hrgjx Hrgjst Hrgjc Da HrgjhX Hrgjb Hrgjxb GM Ie Gs Ii GD Hw Hp GQ G0 Ir Hrgje10;obtain ⟨wz,Bj,OS⟩:=JC.2 (by kernel_rfl);obtain ⟨R2,o2,q1,q2,q3,q4⟩:=JS.out wrgj (nm HF.out B3.out H7.out.1 H7.out.2.1 Bj OS (by rw [<-NS.out];exact FDo.block (H7.out.2.2.below Bj) (Has.below H7.out.1 Bj H7.out.1.lt) OS) (But.refl _ _ _));have HZ:=ab (And.intro q1 (And.intro q2 (And.intro q3 q4)));clear JC Bj OS q1 q2 q3 q4;go_wp2
     go_roundw
     case rel=>exact ⟨k+1,R2,o2,by omega,by go_num,HZ.out.1,HZ.out.2.1,HZ.out.2.2.1,HZ.out.2.2.2⟩
     case measure=>simp [intOf] <;> omega
    | false =>
     rw [hj] at HST;have HJN:=ab hj;clear hj;obtain ⟨CT,Ef⟩ : ∃ CC:Array Bool->World->Prop,CC=fun L8 w'=>(Mix.one L8 4=0->Below W3.heap.size W3 w')/\(Mix.one L8 4=1->∃ wz w8,Below W3.heap.size W3 wz/\FDec (fxs gp (ys++[r]) o1) w8 gf s.1 s.2.1 s.2.2/\But gf wz.heap.size wz w8/\Below w8.heap.size w8 w'):=⟨_,rfl⟩
     obtain ⟨Xrgsf,hXrgsf,Hrgsfx,Hrgsfxb⟩:=Reg.xT;obtain ⟨Ergsf,Hrgsfst,FA,E3,Fd,Fe,Fv,BF,Fm,Fo,Fz,Fy,Ek,En⟩:=Reg.e12 Xrgsf
      (fun xx _=>xx=.pointer (some ⟨gf,0,none⟩))
      (fun xx _=>xx=.pointer (some ⟨gf,0,none⟩))
      (fun xx _=>xx=.pointer (some ⟨gf,4,none⟩))
      (fun xx _=>xx=.agg #[.int .i64 q.br,.bool q.pc,.int .i64 q.cv,.int .i64 q.ea])
      (fun xx _=>xx=.bool false)
      (fun xx _=>xx=.bool false)
      (fun xx _=>xx=undef)
      (fun xx _=>xx=undef)
      (fun xx _=>xx=undef)
      (fun xx _=>xx=undef)
      (fun xx _=>xx=undef)
      (fun xx _=>xx=.bool false)
     have Dc:Hid (∀ i L w,(i == 4)=false ->  CT L w->CT (L.setIfInBounds i true) w):=ab (by
      intro i L w q h;simp only [Bool.or_eq_false_iff,beq_eq_false_iff_ne] at q;rw [Ef] at h ⊢;simp only [Mix.one_ne q];exact h)
     have Hrgsfb:Hid (∀ L w w1,CT L w->Below w.heap.size w w1->CT L w1):=ab (by
      intro L w w1 h hb;rw [Ef] at h ⊢;exact ⟨fun e=>(h.1 e).trans (hb.mono (h.1 e).size),fun e=>by obtain ⟨wz,w8,e1,e2,e3,e4⟩:=h.2 e;exact ⟨wz,w8,e1,e2,e3,e4.trans (hb.mono e4.size)⟩⟩)
     have Hrgsfc:=ab (show CT (Array.replicate 12 false) W3.drew from by rw [Ef];exact ⟨fun _=>(Below.refl _ _).drew,fun e=>absurd e (by decide)⟩);have CX:=ab (fun (i:Nat) L w v q (h:CT L w) (e:Ergsf i v w)=>Reg.hk (Dc.out i L w q h) e (Hrgsfx.out w));have Dr:=ab Ef;have HrgsfhX:=ab hXrgsf;clear Ef hXrgsf
     go_wp2_with fail
     refine Reg.regionF Ergsf CT Xrgsf Hrgsfst.out (by kernel_rfl) (by kernel_rfl) (by kernel_rfl) Hrgsfc.out (fun Frgsf AS=>?_);simp only [Reg.frame,Reg.dsts,List.map_cons,List.map_nil,Mix.put_lit,List.set_cons_succ,List.set_cons_zero,Nat.zero_add,Nat.reduceAdd] at AS;refine ⟨⟨?_,?_,?_,?_,?_,?_,?_,?_,?_,?_,?_,?_,trivial⟩,?_⟩
     ·intro Lq wq xq hh;simp only [AS];refine Reg.go rfl ?_;have HK:=CX.out 0 _ _ _ rfl hh.cls ((FA.out _ _).mpr rfl);go_simp;exact HK.out
     ·intro Lq wq xq hh;simp only [AS,(FA.out _ _).mp (hh.v 0)];refine Reg.go rfl ?_;have HK:=CX.out 1 _ _ _ rfl hh.cls ((E3.out _ _).mpr rfl);go_simp;exact HK.out
     ·intro Lq wq xq hh;simp only [AS,(E3.out _ _).mp (hh.v 1)];refine Reg.go rfl ?_;have HK:=CX.out 2 _ _ _ rfl hh.cls ((Fd.out _ _).mpr rfl);go_simp;exact HK.out
     ·intro Lq wq xq hh;simp only [AS];refine Reg.go rfl ?_;have hc:CT Lq wq:=hh.cls;rw [Dr.out] at hc;have hd:=Ck.out.below (hc.1 (Mix.one_un (hh.notYet 4 (by kernel_rfl)))) Ck.out.lt;have q0:=hd.cell 0 _ rfl;have q1:=hd.cell 1 _ rfl;have q2:=hd.cell 2 _ rfl;have q3:=hd.cell 3 _ rfl;clear hc;have HK:=CX.out 3 _ _ _ rfl hh.cls ((Fe.out _ _).mpr rfl);go_simp;exact HK.out
     ·intro Lq wq xq hh;simp only [AS,(Fd.out _ _).mp (hh.v 2),(Fe.out _ _).mp (hh.v 3)];refine Reg.go rfl ?_;unfold Reg.upon;have hc:CT Lq wq:=hh.cls;rw [Dr.out] at hc;have Bj:=hc.1 hh.un;have hst:=HST.out wq (J7.out.below Bj);clear hc;go_simp;refine hst.mono ?_;rintro e w9 ⟨rfl,h9,b9⟩;have hF:CT (Lq.setIfInBounds 4 true) w9:=by
       rw [Dr.out];exact ⟨fun e=>(by rw [Mix.one_set (by rw [hh.size];decide)] at e;exact absurd e (by decide)),fun _=>⟨wq,w9,Bj,h9,b9,Below.refl _ _⟩⟩
      exact ⟨_,rfl,hF,(by rw [Fv.out]),(by rw [HrgsfhX.out];trivial)⟩
     ·intro Lq wq xq hh;simp only [AS,(Fv.out _ _).mp (hh.v 4)];refine Reg.go rfl ?_;have HK:=CX.out 5 _ _ _ rfl hh.cls ((BF.out _ _).mpr rfl);go_simp;exact HK.out
     ·intro Lq wq xq hh;simp only [AS,(BF.out _ _).mp (hh.v 5)];exact .inr ⟨rfl,Dc.out 6 Lq wq rfl  hh.cls,(Fm.out _ _).mpr rfl⟩
     ·intro Lq wq xq hh;simp only [AS,(BF.out _ _).mp (hh.v 5),(Fm.out _ _).mp (hh.v 6)];exact .inr ⟨rfl,Dc.out 7 Lq wq rfl  hh.cls,(Fo.out _ _).mpr rfl⟩
     ·intro Lq wq xq hh;simp only [AS,(BF.out _ _).mp (hh.v 5),(Fo.out _ _).mp (hh.v 7)];exact .inr ⟨rfl,Dc.out 8 Lq wq rfl  hh.cls,(Fz.out _ _).mpr rfl⟩
     ·intro Lq wq xq hh;simp only [AS,(BF.out _ _).mp (hh.v 5),(Fz.out _ _).mp (hh.v 8)];exact .inr ⟨rfl,Dc.out 9 Lq wq rfl  hh.cls,(Fy.out _ _).mpr rfl⟩
     ·intro Lq wq xq hh;simp only [AS,(BF.out _ _).mp (hh.v 5),(Fy.out _ _).mp (hh.v 9)];exact .inr ⟨rfl,Dc.out 10 Lq wq rfl  hh.cls,(Ek.out _ _).mpr rfl⟩
     ·intro Lq wq xq hh;simp only [AS,(BF.out _ _).mp (hh.v 5),(Ek.out _ _).mp (hh.v 10)];refine Reg.go rfl ?_;have HK:=CX.out 11 _ _ _ rfl hh.cls ((En.out _ _).mpr rfl);go_simp;exact HK.out
     intro xq wrgsf Hr hvrgsf;rw [Dr.out] at Hr;simp only [AS];have vrgsf11:=(En.out _ _).mp (hvrgsf 11 (by decide));rw [vrgsf11];clear hvrgsf AS CX Dc Hrgsfx Hrgsfst Hrgsfc Dr HrgsfhX Hrgsfb Hrgsfxb FA E3 Fd Fe Fv BF Fm Fo Fz Fy Ek En;obtain ⟨wz,w8,e1,e2,e3,e4⟩:=Hr.2 (by kernel_rfl);have Me:=((J7.out.2.below e1).own (Has.below J7.out.1 e1 J7.out.1.lt) (Upd.ofBut e3)).below e4;obtain ⟨w7,Mk⟩:=ae (wrgsf);rw [<-Mk] at e4 Me;have JD:=ab (Has.below ((Ck.out.below e1 Ck.out.lt).but e3 (Has.below Ck.out e1 Ck.out.lt).lt EG.out) e4 (((Ck.out.below e1 Ck.out.lt).but e3 (Has.below Ck.out e1 Ck.out.lt).lt EG.out)).lt);have H7:=ab (show FDec (fxs gp (ys++[r]) o1) w7 gf s.1 s.2.1 s.2.2/\But gf W3.heap.size W3 w7/\FPen Xo w7 B gp gg gr wd gf R1 p ys o1 from ⟨Has.below e2 e4 e2.lt,((But.ofBelow (g:=gf) e1).trans (e3.mono e1.size)).trans ((But.ofBelow (g:=gf) e4).mono (Nat.le_trans e1.size e3.size)),Me⟩);rw [<-Mk];clear Hr e1 e2 e3 e4 Me Mk HST
     go_upto_region 9 with (fail)
     obtain ⟨DA,F5⟩ : ∃ CC:Array Bool->Value->World->Prop,CC=fun L8 x w'=>(Mix.one L8 7=0->Below w7.heap.size w7 w')/\(Mix.one L8 7=1->Mix.one L8 10=0->∃ g wz,x=.pointer (some ⟨g,0,none⟩)/\Below w7.heap.size w7 wz/\FDo Xo wz B gp gg gr wd gf R1 o1 p (ys++[r]) (some g) w'/\FDec (fxs gp (ys++[r]) o1) w' gf s.1 s.2.1 s.2.2)/\(Mix.one L8 10=1->FGo Xo wv B gp gg gr wd gf R1 o1 p (ys++[r]) s w'):=⟨_,rfl⟩
     obtain ⟨Ll,JM,Hrgnx,Hrgnxb⟩:=Reg.xT;obtain ⟨LR,Hrgnst,Id,GP,GU,Ik,Hy,GE,Ht,Hn,Gw,Ia,Hrgne10,_⟩:=Reg.e12 Ll
      (fun xx _=>xx=.pointer (some ⟨gf,0,none⟩))
      (fun xx _=>xx=.pointer (some ⟨gf,0,none⟩))
      (fun xx _=>xx=.pointer (some ⟨gf,0,none⟩))
      (fun xx _=>xx=.pointer (some ⟨gf,0,none⟩))
      (fun xx _=>xx=.pointer (some ⟨gp,0,none⟩))
      (fun xx _=>xx=.int .i32 r)
      (fun xx _=>xx=.agg #[.int .i64 q.br,.bool q.pc,.int .i64 q.cv,.int .i64 q.ea])
      (fun x _=>∃ g:Nat,x=.pointer (some ⟨g,0,none⟩))
      (fun xx _=>xx=.pointer (some ⟨gf,0,none⟩))
      (fun xx _=>xx=.pointer (some ⟨gf,9,none⟩))
      (fun xx _=>xx=undef)
      (fun _ _=>True)
      (s7:=fun x w w1 hx h=>by rw [JM] at hx;exact h)
     have Hrgnk:Hid (∀ i L {x:Value} w,(i == 7 || i == 10)=false ->  DA L x w->DA (L.setIfInBounds i true) x w):=ab (by
      intro i L x w q h;simp only [Bool.or_eq_false_iff,beq_eq_false_iff_ne] at q;rw [F5] at h ⊢;simp only [Mix.one_ne q.1,Mix.one_ne q.2];exact h)
     have Hrgnb:Hid (∀ L {x:Value} w w1,DA L x w->Below w.heap.size w w1->DA L x w1):=ab (by
      intro L x w w1 h hb;rw [F5] at h ⊢;exact ⟨fun e=>(h.1 e).trans (hb.mono (h.1 e).size),fun e f=>by obtain ⟨g,wz,e1,e2,e3,e4⟩:=h.2.1 e f;exact ⟨g,wz,e1,e2,e3.below hb,Has.below e4 hb e4.lt⟩,fun e=>by obtain ⟨R2,o2,e1,e2,e3,e4⟩:=h.2.2 e;exact ⟨R2,o2,e1.below hb,e2.trans (Upd.ofBelow hb |>.mono fun b _ e=>.inl (.inl (.inr (.inr (.inr (Nat.le_trans e2.size e)))))),e3,e4⟩⟩)
     have Hrgnc:=ab (show ∀ x,DA (Array.replicate 11 false) x w7.drew from fun x=>by rw [F5];exact ⟨fun _=>(Below.refl _ _).drew,fun e=>absurd e (by decide),fun e=>absurd e (by decide)⟩);have CQ:=ab (fun (i:Nat) L {x:Value} w v q (h:DA L x w) (e:LR i v w)=>Reg.hk (Hrgnk.out i L w q h) e (Hrgnx.out w));have CD:=ab F5;have Ib:=ab JM;clear F5 JM
     go_wp2_with fail
     refine RegC.regionF 7 LR DA Ll Hrgnst.out (by kernel_rfl) (by kernel_rfl) (by kernel_rfl) Hrgnc.out (fun Frgn BE=>?_);simp only [Reg.frame,Reg.dsts,List.map_cons,List.map_nil,Mix.put_lit,Reg.put_none,List.set_cons_succ,List.set_cons_zero,Nat.zero_add,Nat.reduceAdd] at BE;refine ⟨⟨?_,?_,?_,?_,?_,?_,?_,?_,?_,?_,?_,trivial⟩,?_⟩
     ·intro Lq wq xq hh;simp only [BE];refine Reg.go rfl ?_;have HK:=CQ.out 0 _ _ _ rfl hh.cls ((Id.out _ _).mpr rfl);go_simp;exact HK.out
     ·intro Lq wq xq hh;simp only [BE];refine Reg.go rfl ?_;have HK:=CQ.out 1 _ _ _ rfl hh.cls ((GP.out _ _).mpr rfl);go_simp;exact HK.out
     ·intro Lq wq xq hh;simp only [BE,(GP.out _ _).mp (hh.v 1)];refine Reg.go rfl ?_;have HK:=CQ.out 2 _ _ _ rfl hh.cls ((GU.out _ _).mpr rfl);go_simp;exact HK.out
     ·intro Lq wq xq hh;simp only [BE,(GU.out _ _).mp (hh.v 2)];refine Reg.go rfl ?_;have HK:=CQ.out 3 _ _ _ rfl hh.cls ((Ik.out _ _).mpr rfl);go_simp;exact HK.out
     ·intro Lq wq xq hh;simp only [BE,(Ik.out _ _).mp (hh.v 3)];refine Reg.go rfl ?_;have hc:DA Lq (xq 7) wq:=hh.cls;rw [CD.out] at hc;have hd:=Has.below H7.out.1 (hc.1 (Mix.one_un (hh.notYet 7 (by kernel_rfl)))) H7.out.1.lt;have q0:=hd.cell 0 _ rfl;clear hc;have HK:=CQ.out 4 _ _ _ rfl hh.cls ((Hy.out _ _).mpr rfl);go_simp;exact HK.out
     ·intro Lq wq xq hh;simp only [BE];refine Reg.go rfl ?_;have HK:=CQ.out 5 _ _ _ rfl hh.cls ((GE.out _ _).mpr rfl);go_simp;exact HK.out
     ·intro Lq wq xq hh;simp only [BE];refine Reg.go rfl ?_;have hc:DA Lq (xq 7) wq:=hh.cls;rw [CD.out] at hc;have hd:=JD.out.below (hc.1 (Mix.one_un (hh.notYet 7 (by kernel_rfl)))) JD.out.lt;have q0:=hd.cell 0 _ rfl;have q1:=hd.cell 1 _ rfl;have q2:=hd.cell 2 _ rfl;have q3:=hd.cell 3 _ rfl;clear hc;have HK:=CQ.out 6 _ _ _ rfl hh.cls ((Ht.out _ _).mpr rfl);go_simp;exact HK.out
     ·intro Lq wq xq hh;simp only [BE,(Hy.out _ _).mp (hh.v 4),(GE.out _ _).mp (hh.v 5),(Ht.out _ _).mp (hh.v 6)];refine Reg.go rfl ?_;unfold Reg.upon;have hc:DA Lq (xq 7) wq:=hh.cls;rw [CD.out] at hc;have Bj:=hc.1 hh.un;have hd:=Has.below H7.out.1 Bj H7.out.1.lt;have FV:=uv (H7.out.2.2.below Bj) hd.lt EI.out HJN.out;rw [<-HQ.out] at FV;have hpz:=H7.out.2.2.below Bj;clear hc;go_simp;refine FV.mono ?_;rintro e w9 ⟨g,rfl,_,h9⟩;have hF:DA (Lq.setIfInBounds 7 true) (.pointer (some ⟨g,0,none⟩)) w9:=by
       rw [CD.out];refine ⟨fun e=>(by rw [Mix.one_set (by rw [hh.size];decide)] at e;exact absurd e (by decide)),fun _ _=>⟨g,wq,rfl,Bj,h9,FDo.block hpz hd h9⟩,fun e=>?_⟩;rw [Mix.one_ne (by decide),Mix.one_un (hh.notYet 10 (by kernel_rfl))] at e;exact absurd e (by decide)
      exact ⟨_,rfl,hF,(by rw [Hn.out];exact ⟨g,rfl⟩),(by rw [Ib.out];trivial)⟩
     ·intro Lq wq xq hh;simp only [BE,(Id.out _ _).mp (hh.v 0)];refine Reg.go rfl ?_;have HK:=CQ.out 8 _ _ _ rfl hh.cls ((Gw.out _ _).mpr rfl);go_simp;exact HK.out
     ·intro Lq wq xq hh;simp only [BE,(Gw.out _ _).mp (hh.v 8)];refine Reg.go rfl ?_;have HK:=CQ.out 9 _ _ _ rfl hh.cls ((Ia.out _ _).mpr rfl);go_simp;exact HK.out
     ·intro Lq wq xq hh;have d7:=(Hn.out _ _).mp (hh.v 7);simp only [BE,(Ia.out _ _).mp (hh.v 9)];refine Reg.go rfl ?_;unfold Reg.upon;have hc:DA Lq (xq 7) wq:=hh.cls;rw [CD.out] at hc;obtain ⟨g,wz,e1,e2,e3,e4⟩:=hc.2.1 (hh.isDone 7 (by kernel_rfl)) hh.un;have q9:wq.cell? ⟨gf,9,none⟩=some (cL o1):=e4.cell 9 _ rfl;have f9:=e4.free 9;obtain ⟨vo,MS⟩:=ae (cL o1);rw [<-MS] at q9;have h10:FDec (fxs gp (ys++[r]) (some g)) (wq.setCell ⟨gf,9,none⟩ (.pointer (some ⟨g,0,none⟩))) gf s.1 s.2.1 s.2.2:=e4.set 9 _;have hgo:=nm HF.out B3.out H7.out.1 H7.out.2.1 e2 e3 h10 ((But.refl _ _ _).set _ _);have hF:DA (Lq.setIfInBounds 10 true) (xq 7) (wq.setCell ⟨gf,9,none⟩ (.pointer (some ⟨g,0,none⟩))):=by
       rw [CD.out];refine ⟨fun e=>?_,fun _ e=>?_,fun _=>hgo⟩
       ·rw [Mix.one_ne (by decide),hh.isDone 7 (by kernel_rfl)] at e;exact absurd e (by decide)
       ·rw [Mix.one_set (by rw [hh.size];decide)] at e;exact absurd e (by decide)
      have hE:LR 10 undef (wq.setCell ⟨gf,9,none⟩ (.pointer (some ⟨g,0,none⟩))):=by rw [Hrgne10.out]
      have hX:Ll wq (wq.setCell ⟨gf,9,none⟩ (.pointer (some ⟨g,0,none⟩))):=by rw [Ib.out];trivial
      clear hc e2 e3 e4 hgo h10 MS;rw [e1];go_simp;exact ⟨hF,hE,hX⟩
     intro xq wrgn JB hvrgn;rw [CD.out] at JB;simp only [BE];clear hvrgn BE CQ Hrgnk Hrgnx Hrgnst Hrgnc CD Ib Hrgnb Hrgnxb Id GP GU Ik Hy GE Ht Hn Gw Ia Hrgne10;obtain ⟨R2,o2,q1,q2,q3,q4⟩:=JS.out wrgn (JB.2.2 (by kernel_rfl));have HZ:=ab (And.intro q1 (And.intro q2 (And.intro q3 q4)));clear JB q1 q2 q3 q4;go_wp2
     go_roundw
     case rel=>exact ⟨k+1,R2,o2,by omega,by go_num,HZ.out.1,HZ.out.2.1,HZ.out.2.2.1,HZ.out.2.2.2⟩
     case measure=>simp [intOf] <;> omega
  ·obtain rfl:k=n:=by omega
   have HZ:=ab (show FGo Xo w B gp gg gr wd gf R op p (xs++L) s wv from ⟨R1,o1,by rw [HN.out,List.take_length] at hf;exact hf,hu,Cd,hop⟩);have j1:decide ((k:Int)<(k:Int))=false:=ai (by omega);clear hf hu Cd hop;go_wp2;exact bodyPost_end (by kernel_rfl) rfl ⟨rfl,HZ.out⟩
end
section
variable {Xo : an}
section
variable {w w1 w2 : World} {B gp gg gr wd gf : Nat} {R : List Rw} {op : Option Nat} {p : Pn} {xs : List Int} {s : St}
theorem iX(h:FAt Xo w B gp gg gr wd gf R p xs s op){b:Nat}(h1:w.heap.size<=b)(h2:b<w1.heap.size):¬ FW w1 gp gr gf R op b:=by
 obtain ⟨_,_,hp⟩:=h.2.pen;have hl:=hp.lt;have hg:=hp.2.2.1.lt;have hf:=h.lt;rintro ((e | e) | e)
 ·rcases e with e | e | ⟨i,hi,e⟩ | e
  ·omega
  ·omega
  ·have:=hg.2.2.2.2.2 i hi;rcases e with e | e <;> omega
  ·omega
 ·obtain ⟨Yo,y1,y2,y3⟩:=h.2
  cases ho:bT xs with
  | false=>rw [(y2 ho).1] at e;cases e
  | true =>
   obtain ⟨g,e1,_,e3⟩:=y3 ho;rw [e1] at e
   cases e
   have:=e3.2.lt;omega
 ·omega
theorem iD(h:FAt Xo w B gp gg gr wd gf R p xs s op){v:Value}{L:List Int}(hv:HeldE (aE .i32) (fun b=>w.heap.size<=b) w1 v L):HeldE (aE .i32) (fun b=>¬ FW w1 gp gr gf R op b) w1 v L:=hv.zone fun b hb hz=>iX h hz hb
theorem FAt.dec(h:FAt Xo w B gp gg gr wd gf R p xs s op){t:St}(h1:FDec (fxs gp xs op) w1 gf t.1 t.2.1 t.2.2)(hb:But gf w.heap.size w w1):FAt Xo w1 B gp gg gr wd gf R p xs t op/\Upd (FW w gp gr gf R op) w w1 :=
 ⟨⟨h1,(h.2.turned h.1 hb).1⟩,(h.2.turned h.1 hb).2.1⟩
theorem se(h:FAt Xo w B gp gg gr wd gf R p xs s op)(hs:wfS s){x:Int}(x0:0<=x)(x1:x<=255):Calls Tryz.prog 80 #[.pointer (some ⟨gf,1,none⟩),.int .u8 x] w (fun e w'=>∃ v,e=.returned v/\FAt Xo w' B gp gg gr wd gf R p xs (ch s x) op/\HeldE (aE .i32) (fun b=>¬ FW w' gp gr gf R op b) w' v (cW s x)/\Upd (FW w gp gr gf R op) w w'):=by
 refine (oy gf s.1 s.2.1 s.2.2 x w h.1 hs x0 x1).mono ?_;rintro e w' ⟨v,rfl,k1,k2,k3⟩;obtain ⟨q1,q2⟩:=h.dec (t:=ch s x) k2 k3;exact ⟨v,rfl,q1,iD h k1,q2⟩
theorem mn(h:FAt Xo w B gp gg gr wd gf R p xs s op):Calls Tryz.prog 26 #[.pointer (some ⟨gf,0,none⟩)] w (fun e w'=>e=.returned (.tuple #[])/\FGo Xo w B gp gg gr wd gf R op (bH wd p (bj xs)) [] s w'):=by
 refine (kU (fxs gp xs op) gf s.1 s.2.1 s.2.2 w h.1).mono ?_;rintro e w' ⟨rfl,k1,k2⟩;obtain ⟨q1,q2,q3⟩:=h.2.turned h.1 k2;exact ⟨rfl,R,none,⟨k1,q1.close⟩,q2,q3,fun g e=>by cases e⟩
def st0:St:=(0,0,0)
theorem xE{t:St}(h:wfS t)(e:t.2.2=0):t=st0:=by
 obtain ⟨a,b,c⟩:=t
 rcases h with ⟨h1,h2,h3⟩ | ⟨_,_,h3,_⟩
 ·simp only at h1 h2 h3;subst h1;subst h2;subst h3;rfl
 ·simp only at h3 e;omega
end
section
variable {X : FX}
theorem lY(g:Nat)(l b h:Int)(w:World)(hd:FDec X w g l b h)(hh:0<h):Calls Tryz.prog 82 #[.pointer (some ⟨g,1,none⟩)] w (fun e w'=>∃ v,e=.returned v/\HeldE (aE .i32) (fun b=>w.heap.size<=b) w' v [65533]/\FDec X w' g 0 0 0/\But g w.heap.size w w'):=by
 have c0:=hd.cell 1 _ rfl;have c1:=hd.cell 2 _ rfl;have c2:=hd.cell 3 _ rfl;have f0:=hd.free 1;have f1:=hd.free 2;have f2:=hd.free 3;have hl:=hd.lt;have t1:(h == 0)=false:=by simp;omega
 have hz:=hd.zero;have hzb:=cm w g (.int .u8 0) (.int .i32 0) (.int .i64 0);obtain ⟨W,hW⟩:=ae ((((w.setCell ⟨g,1,none⟩ (.int .u8 0)).setCell ⟨g,2,none⟩ (.int .i32 0)).setCell ⟨g,3,none⟩ (.int .i64 0)));rw [<-hW] at hz hzb;have hown:=World.ownsRow_lit (base:=W.heap.size) (e:=21) (size:=1) W #[.int .i32 65533] 1 (Nat.le_refl _) (by decide) rfl;have Jo:HeldE (aE .i32) (fun b=>w.heap.size<=b) (W.alloc (.cells #[.int .i32 65533] 21)) (.slice (some ⟨W.heap.size,0,none⟩) 1 1) [65533]:=(HeldE.ownedInts (xs:=[65533]) hown).zone fun b _ h=>Nat.le_trans hzb.size h
 rw [show (Value.slice (some ⟨W.heap.size,0,none⟩) 1 1)=.slice (some ⟨w.heap.size,0,none⟩) 1 1 from by rw [hW];simp] at Jo;have HF:=ab (And.intro Jo (And.intro (Has.alloc hz (.cells #[.int .i32 65533] 21)) ((hzb.alloc (Nat.le_refl _) (.cells #[.int .i32 65533] 21)))));have HD:=ab hd;have HW:=ab hW;clear hd hz hzb hown Jo hW
 go_enter Tryz.func82,Tryz.ntmps82
 go_wp2_with fail
 refine (fz g l b h _ HD.out).mono ?_;rintro e w' ⟨rfl,rfl⟩
 go_wp2_with fail
 rw [<-HW.out];go_ret;exact ⟨_,af,HF.out.1,HF.out.2.1,HF.out.2.2⟩
end
section
variable {w : World} {B gp gg gr wd gf : Nat} {R : List Rw} {op : Option Nat} {p : Pn} {xs : List Int} {s : St}
def flT(s:St):List Int:=if 0<s.2.2 then [65533] else []
theorem qn(h:FAt Xo w B gp gg gr wd gf R p xs s op)(hs:wfS s):Calls Tryz.prog 82 #[.pointer (some ⟨gf,1,none⟩)] w (fun e w'=>∃ v,e=.returned v/\FAt Xo w' B gp gg gr wd gf R p xs st0 op/\HeldE (aE .i32) (fun b=>¬ FW w' gp gr gf R op b) w' v (flT s)/\Upd (FW w gp gr gf R op) w w'):=by
 by_cases h0:0<s.2.2
 ·unfold flT;rw [if_pos h0];refine (lY gf s.1 s.2.1 s.2.2 w h.1 h0).mono ?_;rintro e w' ⟨v,rfl,k1,k2,k3⟩;obtain ⟨q1,q2⟩:=h.dec (t:=st0) k2 k3;exact ⟨v,rfl,q1,iD h k1,q2⟩
 ·have hz:s.2.2=0:=by
   rcases hs with ⟨_,_,h3⟩ | ⟨_,_,h3,_⟩
   ·exact h3
   ·omega
  have e0:=xE hs hz;subst e0;refine (mb gf 0 0 w h.1).mono ?_;rintro e w' ⟨rfl,rfl⟩;exact ⟨_,rfl,h,HeldE.nil _ _ _,Upd.refl _ _⟩
end
theorem xF(B gp gg gr wd gf:Nat)(R:List Rw)(p:Pn)(xs:List Int)(s:St)(op:Option Nat)(w:World)(h:FAt Xo w B gp gg gr wd gf R p xs s op)(hs:wfS s) :
  Calls Tryz.prog 25 #[.pointer (some ⟨gf,0,none⟩)] w (fun e w'=>e=.returned (.tuple #[])/\FGo Xo w B gp gg gr wd gf R op (bH wd p (bj (xs++flT s))) [] st0 w'):=by
 have IU:=ab (qn h hs);have H:=ab h;clear h
 go_enter Tryz.func25,Tryz.ntmps25
 go_wp2_with fail
 refine IU.out.mono ?_;rintro e w1 ⟨v,rfl,h1,hv,u1⟩;have HC:=ab (jI B gp gg gr wd gf R p xs st0 op v (flT s) w1 h1 hv);have U1:=ab u1;clear h1 hv u1
 go_wp2_with fail
 refine HC.out.mono ?_;rintro e w2 ⟨rfl,R2,o2,k1,k2,k3,k4⟩;have HL:=ab (mn k1);have HG:=ab (And.intro k2 (And.intro k3 k4));clear k1 k2 k3 k4
 go_wp2_with fail
 refine HL.out.mono ?_;rintro e w3 ⟨rfl,k⟩;have hk:=FGo.trans (R:=R) (op:=op) U1.out (RowsFrom.self _ _) (fun _ e=>.inl e) (FGo.trans HG.out.1 HG.out.2.1 HG.out.2.2 k);have HK:=ab hk;clear hk k;go_wp2;exact bodyPost_end (by kernel_rfl) rfl ⟨rfl,HK.out⟩
theorem sf(B gp gg gr wd gf:Nat)(R:List Rw)(p:Pn)(xs:List Int)(s:St)(op:Option Nat)(r:Int)(w:World)(h:FAt Xo w B gp gg gr wd gf R p xs s op) :
  Calls Tryz.prog 24 #[.pointer (some ⟨gf,0,none⟩),.int .i32 r] w (fun e w'=>e=.returned (.tuple #[])/\FGo Xo w B gp gg gr wd gf R op p (xs++[aS r]) s w'):=by
 have ht:=fJ .i32 w [Value.int .i32 r] 21 1 1 [r] rfl rfl;have LT:=ab (gP _ [r] _ ht (by simp));have hb:=zI w (.cells [Value.int .i32 r].toArray 21);have H1:=ab (h.below hb);have HB:=ab hb;have H:=ab h;clear ht hb h
 go_enter Tryz.func24,Tryz.ntmps24
 go_wp2_with fail
 refine LT.out.mono ?_;rintro e w2 ⟨v2,rfl,Ap,b2⟩;have h2:=H1.out.below b2;have hv:HeldE (aE .i32) (fun b=>¬ FW w2 gp gr gf R op b) w2 v2 [aS r]:=iD H1.out (HeldE.ownedInts (xs:=[aS r]) Ap);have HC:=ab (jI B gp gg gr wd gf R p xs s op v2 [aS r] w2 h2 hv);have B2:=ab (HB.out.trans (b2.mono HB.out.size));clear h2 hv Ap b2
 go_wp2_with fail
 refine HC.out.mono ?_;rintro e w3 ⟨rfl,k⟩;have HK:=ab (FGo.trans (R:=R) (op:=op) (Upd.ofBelow B2.out |>.mono fun b _ e=>.inl (.inl (.inr (.inr (.inr e))))) (RowsFrom.self _ _) (fun _ e=>.inl e) k);clear k;go_wp2;exact bodyPost_end (by kernel_rfl) rfl ⟨rfl,HK.out⟩
end
section
variable {Xo : an}
theorem uu{Z:an}{w:World}{ao:Option Addr}{n cap:Nat}{L:List Int}(h:HeldE (aE .u8) Z w (.slice ao n cap) L):n=L.length/\n<=cap/\∀ i,i<L.length->∃ b off,ao=some ⟨b,off,none⟩/\b<w.heap.size/\w.cell? ⟨b,off+i,none⟩=some (.int .u8 (L.getD i 0)):=by
 obtain ⟨h1,h2,h3⟩:=h.spots;refine ⟨h1,h2,fun i hi=>?_⟩;obtain ⟨b,off,rfl,hb,hz,C,hC,hr⟩:=h3 i hi;have LH:C=[.int .u8 (L.getD i 0)]:=hr;subst LH;have h0:=hC 0 (by decide);refine ⟨b,off,rfl,hb,?_⟩
 simpa [aE] using h0
def inBytes(L:List Int):Prop:=∀ i,i<L.length->0<=L.getD i 0/\L.getD i 0<=255
theorem inBytes.mem{L:List Int}(h:inBytes L)(k:Nat):∀ x ∈ L.take k,0<=x/\x<=255:=fun x hx=>by
 obtain ⟨i,hi,rfl⟩:=List.mem_iff_getElem.1 (List.mem_of_mem_take hx);have:=h i hi
 rwa [show L.getD i 0=L[i] from by simp [List.getD,List.getElem?_eq_getElem hi]] at this
theorem fV(B gp gg gr wd gf:Nat)(R:List Rw)(p:Pn)(xs:List Int)(s:St)(op:Option Nat)(v:Value)(L:List Int)(w:World)(h:FAt Xo w B gp gg gr wd gf R p xs s op)(hs:wfS s)(hv:HeldE (aE .u8) (fun b=>¬ FW w gp gr gf R op b) w v L)(hL:inBytes L) :
  Calls Tryz.prog 23 #[.pointer (some ⟨gf,0,none⟩),v] w (fun e w'=>e=.returned (.tuple #[])/\FGo Xo w B gp gg gr wd gf R op p (xs++aA s L) (aF s L) w'):=by
 have hmx:=hv.max;obtain ⟨ao,ca,rfl⟩:=hv.len;obtain ⟨n,hn⟩:=ae (L.length);have HN:=ab hn;have Jg:=ab hmx;rw [<-hn] at hv ⊢;have HV:=ab hv;have H:=ab h;have HS:=ab hs;have II:=ab hL;clear h hv hn hmx hs hL
 go_enter Tryz.func23,Tryz.ntmps23
 go_wp2
 go_loopw [10] (fun iv wr=>∃ (k:Nat) (R1:List Rw) (o1:Option Nat),k<=n/\iv=.int .i64 k/\FAt Xo wr B gp gg gr wd gf R1 p (xs++aA s (L.take k)) (aF s (L.take k)) o1/\Upd (FW w gp gr gf R op) w wr/\RowsFrom w R R1/\(∀ g,o1=some g->op=some g\/w.heap.size<=g)) (fun iv _=>n - (intOf iv).toNat)
 case atStart=>exact ⟨0,R,op,Nat.zero_le _,rfl,by rw [List.take_zero];show FAt Xo w B gp gg gr wd gf R p (xs++[]) s op;rw [List.append_nil];exact H.out,Upd.refl _ _,RowsFrom.self _ _,fun _ e=>.inl e⟩
 case round =>
  obtain ⟨k,R1,o1,hk,rfl,hf,hu,Cd,hop⟩:=hrel;obtain ⟨wv,B9⟩:=ae (wr);subst B9
  by_cases hlt:k<n
  ·have j1:decide ((k:Int)<(n:Int))=true:=ah (by omega);have j2:decide (k<n)=true:=ah (by omega);have Pq:(k:Int)<(n:Int):=by omega
   have OB:IntKind.i64.wrap ((k:Int)+1)=(k:Int)+1:=by
    have:=Jg.out;have:=HN.out;unfold maxLen at this;rw [IntKind.wrap_i64];omega
   have Gk:=uu (HV.out.upd hu fun b hz e=>hz e);have KP:=Gk.2.1;have hc:=Gk.2.2;clear Gk;obtain ⟨bl,ol,rfl,_,hcell⟩:=hc k (by rw [<-HN.out];exact hlt);obtain ⟨r,hr⟩:=ae (L.getD k 0);rw [<-hr] at hcell;have LD:0<=r/\r<=255:=by rw [hr];exact II.out k (by rw [<-HN.out];exact hlt)
   obtain ⟨ys,Fs⟩:=ae (xs++aA s (L.take k));obtain ⟨t,ht⟩:=ae (aF s (L.take k));have Ho:k<L.length:=by rw [<-HN.out];exact hlt
   have NI:=ab (show xs++aA s (L.take (k+1))=ys++cW t r/\aF s (L.take (k+1))=ch t r from by
    rw [Fs,ht,hr,fA s L k Ho,fB s L k Ho,List.append_assoc];exact ⟨rfl,rfl⟩)
   have HWF:=ab (show wfS t from by rw [ht];exact jx s _ HS.out (II.out.mem k));rw [<-Fs,<-ht] at hf;have HF:=ab hf;have JS:=ab (show ∀ w',FGo Xo wv B gp gg gr wd gf R1 o1 p (ys++cW t r) (ch t r) w'->∃ (R2:List Rw) (o2:Option Nat),FAt Xo w' B gp gg gr wd gf R2 p (xs++aA s (L.take (k+1))) (aF s (L.take (k+1))) o2/\Upd (FW w gp gr gf R op) w w'/\RowsFrom w R R2/\(∀ g,o2=some g->op=some g\/w.heap.size<=g) from fun w' k=>by
    obtain ⟨R2,o2,q1,q2,q3,q4⟩:=FGo.trans hu Cd hop k;rw [<-NI.out.1,<-NI.out.2] at q1;exact ⟨R2,o2,q1,q2,q3,q4⟩)
   have HST:=ab (se hf HWF.out LD.1 LD.2);have MR:k<ca:=by omega
   clear hf hu Cd hop Fs hr hc Ho ht LD
   go_wp2_with fail
   refine HST.out.mono ?_;rintro e w1 ⟨v1,rfl,h1,Mw,u1⟩;have HC:=ab (jI B gp gg gr wd gf R1 p ys (ch t r) o1 v1 (cW t r) w1 h1 Mw);have U1:=ab u1;clear h1 Mw u1 hcell
   go_wp2_with fail
   refine HC.out.mono ?_;rintro e w2 ⟨rfl,kk⟩;obtain ⟨R2,o2,q1,q2,q3,q4⟩:=JS.out w2 (FGo.trans (R:=R1) (op:=o1) U1.out (RowsFrom.self _ _) (fun _ e=>.inl e) kk);have HZ:=ab (And.intro q1 (And.intro q2 (And.intro q3 q4)));clear kk q1 q2 q3 q4;go_wp2
   go_roundw
   case rel=>exact ⟨k+1,R2,o2,by omega,by go_num,HZ.out.1,HZ.out.2.1,HZ.out.2.2.1,HZ.out.2.2.2⟩
   case measure=>simp [intOf] <;> omega
  ·obtain rfl:k=n:=by omega
   have HZ:=ab (show FGo Xo w B gp gg gr wd gf R op p (xs++aA s L) (aF s L) wv from ⟨R1,o1,by rw [HN.out,List.take_length] at hf;exact hf,hu,Cd,hop⟩);have j1:decide ((k:Int)<(k:Int))=false:=ai (by omega);clear hf hu Cd hop;go_wp2;exact bodyPost_end (by kernel_rfl) rfl ⟨rfl,HZ.out⟩
section
variable {w : World} {B gp gg gr wd gf : Nat} {R : List Rw} {op : Option Nat} {p : Pn} {xs : List Int} {s : St}
theorem ml(h:FAt Xo w B gp gg gr wd gf R p xs s op):Calls Tryz.prog 27 #[.pointer (some ⟨gf,0,none⟩)] w (fun e w'=>e=.returned (.int .i64 s.2.2)/\w=w'):=by
 have HH:=ab (fz gf s.1 s.2.1 s.2.2 w h.1);obtain ⟨x,hx⟩:=ae (s.2.2);rw [<-hx] at HH ⊢;clear h hx
 go_enter Tryz.func27,Tryz.ntmps27
 go_wp2_with fail
 refine HH.out.mono ?_;rintro e w1 ⟨rfl,rfl⟩;go_wp2;go_ret;exact ⟨af,rfl⟩
def eI(xs:List Int):List Int:=if bT xs=true then eB (aU xs) (clN (aU xs)) else []
theorem mm(h:FAt Xo w B gp gg gr wd gf R p xs s op):Calls Tryz.prog 28 #[.pointer (some ⟨gf,0,none⟩)] w (fun e w'=>∃ v,e=.returned v/\HeldE (aE .i32) (fun b=>w.heap.size<=b) w' v (eI xs)/\Below w.heap.size w w'):=by
 have c9:=h.cells.2;obtain ⟨Yo,y1,y2,y3⟩:=h.2
 cases ho:bT xs with
 | false =>
  have he:eI xs=[]:=by unfold eI;rw [ho];rfl
  rw [(y2 ho).1] at c9;have c9:w.cell? ⟨gf,9,none⟩=some (.pointer none):=c9;rw [he];clear h y1 y2 y3 he ho
  go_enter Tryz.func28,Tryz.ntmps28
  go_wp2_with fail
  refine (vm w).mono ?_;rintro e w1 ⟨rfl,rfl⟩;go_wp2;go_ret;exact ⟨_,af,HeldE.nil _ _ _,Below.refl _ _⟩
 | true =>
  obtain ⟨g,e1,_,e3⟩:=y3 ho;have he:eI xs=eB (aU xs) (clN (aU xs)):=by unfold eI;rw [if_pos ho]
  rw [e1] at c9;have c9:w.cell? ⟨gf,9,none⟩=some (.pointer (some ⟨g,0,none⟩)):=c9;have HT:=ab (vj g _ _ _ _ _ _ _ _ w e3.2);rw [he];obtain ⟨T,hT⟩:=ae (eB (aU xs) (clN (aU xs)));rw [<-hT] at HT ⊢;clear h y1 y2 y3 he ho e1 e3 hT
  go_enter Tryz.func28,Tryz.ntmps28
  go_wp2_with fail
  refine HT.out.mono ?_;rintro e w1 ⟨v1,rfl,ho,hb⟩;have HF:=ab (And.intro (HeldE.ownedInts ho) hb);clear ho hb;go_wp2;go_ret;exact ⟨_,af,HF.out.1,HF.out.2⟩
theorem xD(h:gC w B gp gg gr wd R p.L p.r p.c p.pd p.au):FAt (fun _=>True) (w.alloc (.cells #[.pointer (some ⟨gp,0,none⟩),.int .u8 0,.int .i32 0,.int .i64 0,.bool false,.int .i64 0,.int .u8 0,.int .u8 0,.bool false,.pointer none] 143)) B gp gg gr wd w.heap.size R p [] st0 none :=
 ⟨Has.new w (fxL (fxs gp [] none) 0 0 0) 143,fun b=>True/\b≠w.heap.size,fun _ e=>⟨e.2,trivial⟩,fun _=>⟨rfl,h.1.alloc _,h.2.1,h.2.2.1.new2 _,h.2.2.2⟩,fun e=>by cases e⟩
theorem oB(h:gC w B gp gg gr wd R p.L p.r p.c p.pd p.au):Calls Tryz.prog 29 #[.pointer (some ⟨gp,0,none⟩)] w (fun e w'=>∃ gf,e=.returned (.pointer (some ⟨gf,0,none⟩))/\w.heap.size<=gf/\FAt (fun _=>True) w' B gp gg gr wd gf R p [] st0 none/\Below w.heap.size w w'):=by
 have c0:=h.1.cell 0 _ rfl;have hb:=zI w (.cells #[.pointer (some ⟨gp,0,none⟩),.int .u8 0,.int .i32 0,.int .i64 0,.bool false,.int .i64 0,.int .u8 0,.int .u8 0,.bool false,.pointer none] 143);have HF:=ab (And.intro (Nat.le_refl w.heap.size) (And.intro (xD h) hb));clear h hb
 go_enter Tryz.func29,Tryz.ntmps29
 go_wp2;go_ret;exact ⟨_,af,HF.out.1,HF.out.2.1,HF.out.2.2⟩
end
end
def okT(xs:List Int):Prop:=∀ x ∈ xs,aS x=x
theorem okT.map{t:List Int}(h:okT t):t.map aS=t:=by
 conv=>rhs;rw [<-List.map_id t]
 exact List.map_congr_left h
theorem okT.num{t:List Int}(h:okT t):eB t (clN t)=t.take 16:=by
 unfold eB clN;have e:t.take (min t.length 16)=t.take 16:=by
  by_cases hl:t.length<=16
  ·rw [Nat.min_eq_left hl,List.take_of_length_le (Nat.le_refl _),List.take_of_length_le hl]
  ·rw [Nat.min_eq_right (by omega)]
 rw [e];have h2:okT (t.take 16):=fun x hx=>h x (List.mem_of_mem_take hx)
 exact h2.map
theorem okT.wide{t:List Int}(h:okT t)(hs:bL (t.getD 0 0)=false):wdC t=clW t:=by
 unfold wdC clW;rw [if_neg (by rw [hs];decide)];unfold j7 gwI cwW;rw [h.map];have hl:(t.take 16).length=clN t:=by unfold clN;rw [List.length_take,Nat.min_comm]
 rw [hl,mH (ys:=t) (qs:=aq t) (clN t) fun i hi=>by
  have hi16:i<16:=by unfold clN at hi;omega
  refine ⟨lA _ _ _ _ hi16,?_⟩;unfold aq;rw [List.map_take];exact lA _ _ _ _ hi16]
theorem yt(wd:Nat)(p:Pn){t:List Int}(h:okT t)(hs:bL (t.getD 0 0)=false):putC wd p t=uw wd p (wdC t) (t.take 16):=by
 unfold putC;rw [if_neg (by rw [hs];decide),h.wide hs,h.num]
theorem r6{xs:List Int}(h:okT xs):∀ t ∈ bj xs,okT t:=fun t ht x hx=>by
 unfold bj at ht;obtain ⟨q,_,rfl⟩:=List.mem_map.1 ht;exact h x (List.mem_of_mem_drop (List.mem_of_mem_take hx))
theorem qd{xs:List Int}:∀ t ∈ bj xs,0<t.length/\t.length<=xs.length:=fun t ht=>by
 unfold bj at ht;obtain ⟨q,hq,rfl⟩:=List.mem_map.1 ht;have:=jN _ _ q hq;rw [fc xs q (by omega) (by omega)];omega
theorem qe{xs:List Int}(h:bI xs):∀ t ∈ bj xs,bI t:=fun t ht i hi=>by
 unfold bj at ht;obtain ⟨q,hq,rfl⟩:=List.mem_map.1 ht;have h0:=jN _ _ q hq;rw [fc xs q (by omega) (by omega)] at hi;have e:(bu xs q).getD i 0=xs.getD (q.1+i) 0:=by
  unfold bu
  simp [List.getD,List.getElem?_take,hi]
 rw [e];exact h _ (by omega)
theorem kd{Z:an}{w:World}{ao:Option Addr}{n cap:Nat}{L:List (List Int)}(h:HeldE rowE Z w (.slice ao n cap) L):n=L.length/\n<=cap/\∀ i,i<L.length->∃ b off v,ao=some ⟨b,off,none⟩/\b<w.heap.size/\w.cell? ⟨b,off+i,none⟩=some v/\HeldE (aE .i32) Z w v (L.getD i []):=by
 obtain ⟨h1,h2,h3⟩:=h.spots;refine ⟨h1,h2,fun i hi=>?_⟩;obtain ⟨b,off,rfl,hb,hz,C,hC,v,rfl,hv⟩:=h3 i hi;have h0:=hC 0 (by decide);refine ⟨b,off,v,rfl,hb,?_,hv⟩
 simpa [rowE,slE] using h0
theorem xh(Z:an)(v xv:Value)(p:Pn)(xs:List Int)(w:World)(wd n:Nat)(hv:HeldE lineE Z w v p.L)(hx:HeldE (aE .i32) Z w xv xs)(hZ:∀ b,Z b->b<w.heap.size)(hs:eJ wd n)(hp:PnOk wd n p)(hn:xs.length<=1000000)(hr:bI xs)(Bn:okT xs) :
  Calls Tryz.prog 42 #[.agg #[v,.int .i64 p.r,.int .i64 p.c,.bool p.pd,.bool p.au],xv] w (fun e w'=>∃ v',e=.returned (.agg #[v',.int .i64 (bH wd p (bj xs)).r,.int .i64 (bH wd p (bj xs)).c,.bool (bH wd p (bj xs)).pd,.bool (bH wd p (bj xs)).au])/\HeldE lineE (fun b=>Z b\/(w.heap.size<=b/\b<w'.heap.size)) w' v' (bH wd p (bj xs)).L/\Below w.heap.size w w'):=by
 obtain ⟨ao,ca,rfl⟩:=hv.len;obtain ⟨xo,xc,rfl⟩:=hx.len;have Cc:p.L.length=n:=hp.1;obtain ⟨W,hW,hb,hz,hl0⟩:=gw w (.slice ao p.L.length ca) (.int .i64 p.r) (.int .i64 p.c) (.bool p.pd) (.bool p.au) (.slice none 0 0) (.int .i64 0) (.int .i64 0) (.bool false) (.bool false);obtain ⟨gb,hgb⟩:=ae (w.heap.size);obtain ⟨gz,BU⟩:=ae (w.heap.size+1);have BC:RB w Z gb gz p.L p.r p.c p.pd p.au ao ca W:=by
  refine ⟨by rw [hgb];exact hb,(hv.below hl0).zone (fun x _ hx=>⟨.inl hx,?_,?_⟩),by rw [BU];exact hz,hl0,by omega,by omega,by omega⟩
  ·have:=hZ x hx;omega
  ·have:=hZ x hx;omega
 have HG:=ab (And.intro hgb BU);have Db:=ab BC;have DN:=ab hs;have HPO:=ab hp;have FL:=ab (mv (fun b=>Z b) _ xs W (hx.below hl0) hn hr);have OJ:=ab (And.intro hn (And.intro hr Bn));have Lr:=ab (show gb<W.heap.size/\gz<W.heap.size from by have h1:=hb.lt;have h2:=hz.lt;omega);obtain ⟨xn,KA⟩:=ae (xs.length);rw [Cc] at hW ⊢;rw [<-KA] at FL ⊢;obtain ⟨⟨L0,r0',c0',pd0,au0⟩,Lb⟩ : ∃ q,q=p:=⟨_,rfl⟩;subst Lb
 dsimp only at *
 have AL:=ab Cc;obtain ⟨p0,Lb⟩ : ∃ p0:Pn,p0=⟨L0,r0',c0',pd0,au0⟩:=⟨_,rfl⟩;rw [<-Lb] at HPO;rw [<-Lb];have Pe:=ab Lb;clear hv hx hZ hs hp hn hr Bn hb hz hl0 hgb BU BC Cc KA Lb
 go_enter Tryz.func42,Tryz.ntmps42
 go_upto_region 1 with (fail)
 rw [<-hW];clear hW;rw [<-HG.out.2];rw [<-HG.out.1]
 go_wp2_with fail
 refine FL.out.mono ?_;rintro e w1 ⟨cv,rfl,AA,b1⟩;have DV:HeldE rowE (fun b=>W.heap.size<=b) w1 cv (bj xs):=AA.held fun b hb _=>hb
 obtain ⟨co,cc,rfl⟩:=DV.len;obtain ⟨cs,hcs⟩:=ae (bj xs);have DU:=ab (show ∀ t ∈ cs,okT t/\bI t/\0<t.length/\t.length<=1000000 from by
  rw [hcs];intro t ht;have:=qd t ht;exact ⟨r6 OJ.out.2.2 t ht,qe OJ.out.2.1 t ht,this.1,by have:=OJ.out.1;omega⟩)
 rw [<-hcs] at DV ⊢;have Nw:=ab hcs;obtain ⟨m,hm⟩:=ae (cs.length);rw [<-hm] at DV ⊢;have OO:=ab DV;have DX:=DV.max;have Mm:=ab DX;have HM:=ab hm;have HRB1:=ab (Db.out.below b1);have HW1:=ab (show W.heap.size<=w1.heap.size from b1.size);clear AA b1 DV hcs hm FL Db DX;go_wp2
 go_loopw [6] (fun iv wr=>∃ (i:Nat) (P:Pn) (o:Option Addr) (k:Nat),i<=m/\iv=.int .i64 i/\P=bH wd p0 (cs.take i)/\RB w Z gb gz P.L P.r P.c P.pd P.au o k wr/\Upd (fun b=>b=gb) w1 wr) (fun iv _=>m - (intOf iv).toNat)
 case atStart=>exact ⟨0,p0,ao,ca,Nat.zero_le _,rfl,by rw [List.take_zero];rfl,by rw [Pe.out];exact HRB1.out,Upd.refl _ _⟩
 case round =>
  obtain ⟨i,P,o,k,hi,rfl,hP,BC,hu⟩:=hrel;obtain ⟨wv,B9⟩:=ae (wr);subst B9;have K6:PnOk wd n P:=by rw [hP];exact PnOk.lay DN.out _ _ HPO.out
  by_cases hlt:i<m
  ·have j1:decide ((i:Int)<(m:Int))=true:=ah (by omega);have j2:decide (i<m)=true:=ah (by omega);have N5:(i:Int)<(m:Int):=by omega
   have OB:IntKind.i64.wrap ((i:Int)+1)=(i:Int)+1:=by
    have:=Mm.out;have:=HM.out;unfold maxLen at this;rw [IntKind.wrap_i64];omega
   have Ot:HeldE rowE (fun b=>(W.heap.size<=b/\b≠gb)/\b≠gz) wv (.slice co m cc) cs:=(OO.out.zone fun b _ hz=>⟨⟨hz,by have:=Lr.out;omega⟩,by have:=Lr.out;omega⟩).upd hu fun b hz e=>hz.1.2 e
   have Gk:=kd Ot;have hmc:=Gk.2.1;obtain ⟨bc,oc,tv,rfl,_,hcell,Dw⟩:=Gk.2.2 i (by rw [<-HM.out];exact hlt);clear Gk;obtain ⟨t,ht⟩:=ae (cs.getD i []);rw [<-ht] at Dw;have Hg:t ∈ cs:=by
    rw [ht,show cs.getD i []=cs[i]'(by rw [<-HM.out];exact hlt) from by simp [List.getD,List.getElem?_eq_getElem (show i<cs.length from by rw [<-HM.out];exact hlt)]];exact List.getElem_mem _
   obtain ⟨t1,t2,t3,t4⟩:=DU.out t Hg;have HT:=ab (And.intro t1 (And.intro t2 (And.intro t3 t4)));have Bg:=ab (show putC wd P t=bH wd p0 (cs.take (i+1)) from by
    rw [hP,List.take_succ_eq_append_getElem (show i<cs.length from by rw [<-HM.out];exact hlt),gX,ht]
    simp [List.getD,List.getElem?_eq_getElem (show i<cs.length from by rw [<-HM.out];exact hlt)])
   obtain ⟨ta,tk,rfl⟩:=Dw.len;have MF:=(eY Dw).2.1;obtain ⟨bt,ot,rfl,_,hc0⟩:=(eY Dw).2.2 0 t3;rw [Nat.add_zero] at hc0;obtain ⟨tn,EM⟩:=ae (t.length);have Jb:=ab EM;obtain ⟨q0,Jh⟩:=ae (t.getD 0 0);rw [<-Jh] at hc0;have ED:=ab (ek q0 wv);rw [<-EM] at Dw hcell MF;have htn0:0<tn:=by omega
   have htni:(0:Int)<(tn:Int):=by omega
   have HTV:=ab Dw;have HCELL:=ab hcell;have NT:=ab hc0;have Ml:=ab BC;have HU:=ab hu;have HPI:=ab K6;have O9:=ab Jh;have MA:P.L.length=n:=K6.1;have OA:=ab (show bc<wv.heap.size/\bc≠gb/\bt<wv.heap.size/\bt≠gb from by
    obtain ⟨_,_,h3⟩:=Ot.spots;obtain ⟨b,off,e,h4,h5,C,hC,v9,rfl,hv9⟩:=h3 i (by rw [<-HM.out];exact hlt)
    cases e
    obtain ⟨_,_,g3⟩:=Dw.spots;obtain ⟨b2,off2,e2,g4,g5,_⟩:=g3 0 t3
    cases e2
    exact ⟨h4,h5.1.2,g4,g5.1.2⟩)
   have Ja:=ab (show ∀ w',Upd (fun b=>b=gb) wv w'->w'.cell? ⟨bc,oc+i,none⟩=some (.slice (some ⟨bt,ot,none⟩) tn tk)/\HeldE (aE .i32) (fun b=>(W.heap.size<=b/\b≠gb)/\b≠gz) w' (.slice (some ⟨bt,ot,none⟩) tn tk) t from fun w' h=>⟨(World.cell?_of_block (a:=⟨bc,oc+i,none⟩) (h.block bc OA.out.1 OA.out.2.1)).trans HCELL.out,HTV.out.upd h fun b hz e=>hz.1.2 e⟩)
   cases BV:bL q0 with
   | false =>
    rw [BV] at ED;have EI:=ab (show bL (t.getD 0 0)=false from by rw [<-Jh];exact BV);have O8:=yt wd P t1 (by rw [<-Jh];exact BV);obtain ⟨n1,n2,n3,n4,n5⟩:=K6.nat DN.out;obtain ⟨wt,hwt⟩:=ae (wdC t);obtain ⟨LP,F9⟩:=ae ((putC wd P t).L);obtain ⟨rr,CZ⟩:=ae ((putC wd P t).r);obtain ⟨c9,hcc⟩:=ae ((putC wd P t).c);obtain ⟨pp,A6⟩:=ae ((putC wd P t).pd);obtain ⟨KR,Kd⟩ : ∃ KR:Int,KR=(fq P.L wd P.r2 (P.c2 wd) (P.pd2 wd) P.au (wdC t):Nat):=⟨_,rfl⟩;obtain ⟨KC,Ke⟩ : ∃ KC:Int,KC=(dB wd (P.c2 wd) (P.pd2 wd) P.au (wdC t):Nat):=⟨_,rfl⟩;have LZ:=ab (show LP.length=n from by rw [F9];exact (K6.putC DN.out t).1);have Py:=ab (show putC wd P t=⟨LP,rr,c9,pp,P.au⟩ from by rw [F9,CZ,hcc,A6,O8];rfl);have L9:=ab (show ∀ (Zq:an) (w':World) (x:Value),HeldE lineE Zq w' (.slice o n k) P.L->HeldE (aE .i32) Zq w' x (t.take 16)->(∀ b,Zq b->b<w'.heap.size)->Calls Tryz.prog 77 #[.agg #[.slice o n k,.int .i64 P.r,.int .i64 P.c,.bool P.pd,.bool P.au],.int .i64 wt,x] w' (fun e w2=>∃ v',e=.returned (.tuple #[.agg #[v',.int .i64 rr,.int .i64 c9,.bool pp,.bool P.au],.agg #[.int .i64 KR,.int .i64 KC,.bool false]])/\HeldE lineE (fun b=>Zq b\/(w'.heap.size<=b/\b<w2.heap.size)) w2 v' LP/\Below w'.heap.size w' w2) from fun Zq w' x h1 h2 h3=>by
     have h:=tO Zq (.slice o n k) P.L P.r P.c P.pd P.au (wdC t) x (t.take 16) w' wd h1 h2 h3 (K6.even DN.out) _ _ _ n1 n2 n3 n4 n5;rw [F9,CZ,hcc,A6,O8,Kd,Ke,hwt];exact h)
    have OQ:=ab (show ∀ (Zq:an) (w':World),HeldE (aE .i32) Zq w' (.slice (some ⟨bt,ot,none⟩) tn tk) t->(∀ b,Zq b->b<w'.heap.size)->Calls Tryz.prog 97 #[.slice (some ⟨bt,ot,none⟩) tn tk] w' (Gives w' (.int .i64 wt)) from fun Zq w' h1 h2=>by rw [hwt];exact qf Zq _ t w' h1 h2 t3 t4 t2);have NY:=ab (show ∀ (Zq:an) (w':World),HeldE (aE .i32) Zq w' (.slice (some ⟨bt,ot,none⟩) tn tk) t->(∀ b,Zq b->b<w'.heap.size)->Calls Tryz.prog 92 #[.slice (some ⟨bt,ot,none⟩) tn tk] w' (iI 21 .i32 w' (t.take 16)) from fun Zq w' h1 h2=>iW Zq _ t w' h1 h2 t3 t4);obtain ⟨⟨PL,Pr',Pc',Ppd,Pau⟩,IK⟩ : ∃ q,q=P:=⟨_,rfl⟩;subst IK
    dsimp only at *
    clear O8 n1 n2 n3 n4 n5 hwt F9 CZ hcc A6 Kd Ke hP BC hu Ot Hg t1 t2 t3 t4 ht Dw Jh K6 BV EM
    go_wp2_with fail
    refine ED.out.mono ?_;rintro e wb ⟨rfl,bb⟩;have UB:=ab (HU.out.trans (Upd.ofBelow bb |>.mono fun b hb e=>absurd hb (by have:=HU.out.size;omega)));have D3:=ab (Ml.out.below bb);have La:=ab (show ∀ w',Upd (fun b=>b=gb) wb w'->Upd (fun b=>b=gb) wv w' from fun w' h=>(Upd.ofBelow bb |>.mono fun b hb e=>absurd hb (by omega)).trans h);clear bb hcell hc0
    go_upto_region 6 with (fail)
    obtain ⟨De,Ge⟩ : ∃ CC:Array Bool->World->Prop,CC=fun L8 w'=>Upd (fun b=>b=gb) wb w'/\(Mix.one L8 15=0->Below wb.heap.size wb w')/\(Mix.one L8 15=1->∃ o9 k9,RB w Z gb gz LP rr c9 pp Pau o9 k9 w'):=⟨_,rfl⟩
    obtain ⟨Jx,DF⟩ : ∃ XX:World->World->Prop,XX=fun x y=>Upd (fun b=>b=gb) x y:=⟨_,rfl⟩
    obtain ⟨Mb,Hrgpst,Ip,GJ,Is,Io,Iq,Hh,Hd,Gy,G2,GK,Fa,Fn,DZ,Fu,Hrgpe14,Hrgpe15⟩:=Reg.e16 Jx
     (fun xx _=>xx=.agg #[.slice o n k,.int .i64 Pr',.int .i64 Pc',.bool Ppd,.bool Pau])
     (fun xx _=>xx=.slice (some ⟨bc,oc,none⟩) m cc)
     (fun xx _=>xx=.int .i64 i)
     (fun xx _=>xx=.pointer (some ⟨bc,oc+i,none⟩))
     (fun xx _=>xx=.slice (some ⟨bt,ot,none⟩) tn tk)
     (fun xx _=>xx=.int .i64 wt)
     (fun xx _=>xx=.slice (some ⟨bc,oc,none⟩) m cc)
     (fun xx _=>xx=.int .i64 i)
     (fun xx _=>xx=.pointer (some ⟨bc,oc+i,none⟩))
     (fun xx _=>xx=.slice (some ⟨bt,ot,none⟩) tn tk)
     (fun x w'=>HeldE (aE .i32) (fun b=>wb.heap.size<=b/\b≠gb) w' x (t.take 16))
     (fun x w'=>∃ o9 k9,x=.tuple #[.agg #[.slice o9 n k9,.int .i64 rr,.int .i64 c9,.bool pp,.bool Pau],.agg #[.int .i64 KR,.int .i64 KC,.bool false]]/\HeldE lineE (fun b=>(((Z b\/w.heap.size<=b)/\b≠gb/\b≠gz)/\b<wb.heap.size)\/wb.heap.size<=b) w' (.slice o9 n k9) LP)
     (fun x w'=>∃ o9 k9,x=.tuple #[.agg #[.slice o9 n k9,.int .i64 rr,.int .i64 c9,.bool pp,.bool Pau],.agg #[.int .i64 KR,.int .i64 KC,.bool false]]/\HeldE lineE (fun b=>(((Z b\/w.heap.size<=b)/\b≠gb/\b≠gz)/\b<wb.heap.size)\/wb.heap.size<=b) w' (.slice o9 n k9) LP)
     (fun x w'=>∃ o9 k9,x=.agg #[.slice o9 n k9,.int .i64 rr,.int .i64 c9,.bool pp,.bool Pau]/\HeldE lineE (fun b=>(((Z b\/w.heap.size<=b)/\b≠gb/\b≠gz)/\b<wb.heap.size)\/wb.heap.size<=b) w' (.slice o9 n k9) LP)
     (fun xx _=>xx=.agg #[.int .i64 KR,.int .i64 KC,.bool false])
     (fun xx _=>xx=undef)
     (s10:=fun x w w1 hx h=>by rw [DF] at hx;first | exact h | exact HeldE.upd h hx (fun b hz e=>hz.2 e) | (obtain ⟨o9,k9,e9,h9⟩:=h;exact ⟨o9,k9,e9,h9.upd hx (fun b hz e=>by have h8:=D3.out.1.lt;rcases hz with hz | hz;exact hz.1.2.1 e;omega)⟩))
     (s11:=fun x w w1 hx h=>by rw [DF] at hx;first | exact h | exact HeldE.upd h hx (fun b hz e=>hz.2 e) | (obtain ⟨o9,k9,e9,h9⟩:=h;exact ⟨o9,k9,e9,h9.upd hx (fun b hz e=>by have h8:=D3.out.1.lt;rcases hz with hz | hz;exact hz.1.2.1 e;omega)⟩))
     (s12:=fun x w w1 hx h=>by rw [DF] at hx;first | exact h | exact HeldE.upd h hx (fun b hz e=>hz.2 e) | (obtain ⟨o9,k9,e9,h9⟩:=h;exact ⟨o9,k9,e9,h9.upd hx (fun b hz e=>by have h8:=D3.out.1.lt;rcases hz with hz | hz;exact hz.1.2.1 e;omega)⟩))
     (s13:=fun x w w1 hx h=>by rw [DF] at hx;first | exact h | exact HeldE.upd h hx (fun b hz e=>hz.2 e) | (obtain ⟨o9,k9,e9,h9⟩:=h;exact ⟨o9,k9,e9,h9.upd hx (fun b hz e=>by have h8:=D3.out.1.lt;rcases hz with hz | hz;exact hz.1.2.1 e;omega)⟩))
    have DJ:Hid (∀ i L w,(i == 15)=false ->  De L w->De (L.setIfInBounds i true) w):=ab (by
     intro i L w q h;simp only [Bool.or_eq_false_iff,beq_eq_false_iff_ne] at q;rw [Ge] at h ⊢;simp only [Mix.one_ne q];exact h)
    have IH:Hid (∀ L w w1,De L w->Below w.heap.size w w1->De L w1):=ab (by
     intro L w w1 h hb;rw [Ge] at h ⊢
     (obtain ⟨q1,q2,q4⟩:=h;exact ⟨q1.trans (Upd.ofBelow hb |>.mono fun b hb e=>absurd hb (by have:=q1.size;omega)),fun e=>(q2 e).trans (hb.mono (q2 e).size),fun e=>by obtain ⟨o9,k9,h1⟩:=q4 e;exact ⟨o9,k9,h1.below hb⟩⟩))
    have FI:=ab (show ∀ w,Jx w w from fun w=>by rw [DF];exact Upd.refl _ _);have Ft:=ab (show ∀ w w1,Below w.heap.size w w1->Jx w w1 from fun w w1 hb=>by rw [DF];exact Upd.ofBelow hb |>.mono fun b h e=>absurd h (by omega));have Hrgpc:=ab (show De (Array.replicate 16 false) wb.drew from by rw [Ge];exact ⟨(Upd.refl _ _).drew,fun _=>(Below.refl _ _).drew,fun e=>absurd e (by decide)⟩);have CO:=ab (fun (i:Nat) L w v q (h:De L w) (e:Mb i v w)=>Reg.hk (DJ.out i L w q h) e (FI.out w));have BL:=ab Ge;have HrgphX:=ab DF;clear Ge DF
    go_wp2_with fail
    refine Reg.regionF Mb De Jx Hrgpst.out (by kernel_rfl) (by kernel_rfl) (by kernel_rfl) Hrgpc.out (fun Frgp AY=>?_);simp only [Reg.frame,Reg.dsts,List.map_cons,List.map_nil,Mix.put_lit,Reg.put_none,List.set_cons_succ,List.set_cons_zero,Nat.zero_add,Nat.reduceAdd] at AY;refine ⟨⟨?_,?_,?_,?_,?_,?_,?_,?_,?_,?_,?_,?_,?_,?_,?_,?_,trivial⟩,?_⟩
    ·intro Lq wq xq hh;simp only [AY];refine Reg.go rfl ?_;have hc:De Lq wq:=hh.cls;rw [BL.out] at hc;have hq:=(D3.out.below (hc.2.1 (Mix.one_un (hh.notYet 15 (by kernel_rfl))))).1;rw [MA] at hq;have q0:=hq.cell 0 _ rfl;have q1:=hq.cell 1 _ rfl;have q2:=hq.cell 2 _ rfl;have q3:=hq.cell 3 _ rfl;have q4:=hq.cell 4 _ rfl;clear hc;have HK:=CO.out 0 _ _ _ rfl hh.cls ((Ip.out _ _).mpr rfl);go_simp;exact HK.out
    ·intro Lq wq xq hh;simp only [AY];refine Reg.go rfl ?_;have HK:=CO.out 1 _ _ _ rfl hh.cls ((GJ.out _ _).mpr rfl);go_simp;exact HK.out
    ·intro Lq wq xq hh;simp only [AY];refine Reg.go rfl ?_;have HK:=CO.out 2 _ _ _ rfl hh.cls ((Is.out _ _).mpr rfl);go_simp;exact HK.out
    ·intro Lq wq xq hh;simp only [AY,(GJ.out _ _).mp (hh.v 1),(Is.out _ _).mp (hh.v 2)];refine Reg.go rfl ?_;have HK:=CO.out 3 _ _ _ rfl hh.cls ((Io.out _ _).mpr rfl);go_simp;exact HK.out
    ·intro Lq wq xq hh;simp only [AY,(Io.out _ _).mp (hh.v 3)];refine Reg.go rfl ?_;have hc:De Lq wq:=hh.cls;rw [BL.out] at hc;have q0:=(Ja.out wq (La.out wq hc.1)).1;clear hc;have HK:=CO.out 4 _ _ _ rfl hh.cls ((Iq.out _ _).mpr rfl);go_simp;exact HK.out
    ·intro Lq wq xq hh;simp only [AY,(Iq.out _ _).mp (hh.v 4)];refine Reg.go rfl ?_;unfold Reg.upon;have hc:De Lq wq:=hh.cls;rw [BL.out] at hc;go_simp;refine (OQ.out (fun b=>b<wq.heap.size) wq ((Ja.out wq (La.out wq hc.1)).2.zone fun b hb _=>hb) (fun _ h=>h)).mono ?_;rintro e w2 ⟨rfl,hb⟩;exact ⟨_,rfl,DJ.out 5 Lq w2 rfl  (IH.out Lq wq w2 hh.cls hb),(by rw [Hh.out];try rfl),Ft.out wq w2 hb⟩
    ·intro Lq wq xq hh;simp only [AY];refine Reg.go rfl ?_;have HK:=CO.out 6 _ _ _ rfl hh.cls ((Hd.out _ _).mpr rfl);go_simp;exact HK.out
    ·intro Lq wq xq hh;simp only [AY];refine Reg.go rfl ?_;have HK:=CO.out 7 _ _ _ rfl hh.cls ((Gy.out _ _).mpr rfl);go_simp;exact HK.out
    ·intro Lq wq xq hh;simp only [AY,(Hd.out _ _).mp (hh.v 6),(Gy.out _ _).mp (hh.v 7)];refine Reg.go rfl ?_;have HK:=CO.out 8 _ _ _ rfl hh.cls ((G2.out _ _).mpr rfl);go_simp;exact HK.out
    ·intro Lq wq xq hh;simp only [AY,(G2.out _ _).mp (hh.v 8)];refine Reg.go rfl ?_;have hc:De Lq wq:=hh.cls;rw [BL.out] at hc;have q0:=(Ja.out wq (La.out wq hc.1)).1;clear hc;have HK:=CO.out 9 _ _ _ rfl hh.cls ((GK.out _ _).mpr rfl);go_simp;exact HK.out
    ·intro Lq wq xq hh;simp only [AY,(GK.out _ _).mp (hh.v 9)];refine Reg.go rfl ?_;unfold Reg.upon;have hc:De Lq wq:=hh.cls;rw [BL.out] at hc;have hfi:=NY.out (fun b=>b<wq.heap.size) wq ((Ja.out wq (La.out wq hc.1)).2.zone fun b hb _=>hb) (fun _ h=>h);have hsz:=hc.1.size;have h8:=D3.out.1.lt;clear hc;go_simp;refine hfi.mono ?_;rintro e w9 ⟨v9,rfl,A7,b9⟩;refine ⟨_,rfl,DJ.out 10 Lq w9 rfl  (IH.out Lq wq w9 hh.cls b9),?_,Ft.out wq w9 b9⟩;rw [Fa.out];exact (HeldE.ownedInts A7).zone fun b _ hz=>⟨Nat.le_trans hsz hz,by omega⟩
    ·intro Lq wq xq hh;have d10:=(Fa.out _ _).mp (hh.v 10);simp only [AY,(Ip.out _ _).mp (hh.v 0),(Hh.out _ _).mp (hh.v 5)];refine Reg.go rfl ?_;unfold Reg.upon;have hc:De Lq wq:=hh.cls;rw [BL.out] at hc;have Bj:=hc.2.1 (Mix.one_un (hh.notYet 15 (by kernel_rfl)));have JI:=D3.out.arg.below Bj;rw [MA] at JI;have hput:=L9.out (fun b=>((((Z b\/w.heap.size<=b)/\b≠gb/\b≠gz)/\b<wb.heap.size)\/wb.heap.size<=b)/\b<wq.heap.size) wq (xq 10) (JI.zone fun b hb hz=>⟨.inl hz,hb⟩) (HeldE.zone d10 fun b hb hz=>⟨.inr hz.1,hb⟩) (fun b h=>h.2);clear hc JI;go_simp;refine hput.mono ?_;rintro e w9 ⟨v9,rfl,h9,b9⟩;obtain ⟨o9,k9,ev9⟩:=h9.len;rw [LZ.out] at ev9;subst ev9;refine ⟨_,rfl,DJ.out 11 Lq w9 rfl  (IH.out Lq wq w9 hh.cls b9),?_,Ft.out wq w9 b9⟩;rw [Fn.out];refine ⟨o9,k9,rfl,h9.zone fun b _ hz=>?_⟩
     rcases hz with hz | hz
     ·exact hz.1
     ·exact .inr (Nat.le_trans Bj.size hz.1)
    ·intro Lq wq xq hh;have d11:=(Fn.out _ _).mp (hh.v 11);simp only [AY];refine Reg.go rfl ?_;unfold Reg.upon;go_simp;exact ⟨DJ.out 12 Lq wq rfl  hh.cls,(by rw [DZ.out];exact d11),FI.out _⟩
    ·intro Lq wq xq hh;have d12:=(DZ.out _ _).mp (hh.v 12);simp only [AY];refine Reg.go rfl ?_;unfold Reg.upon;obtain ⟨o9,k9,e9,h9⟩:=d12;rw [e9];go_simp;exact ⟨DJ.out 13 Lq wq rfl  hh.cls,(by rw [Fu.out];exact ⟨o9,k9,rfl,h9⟩),FI.out _⟩
    ·intro Lq wq xq hh;have d12:=(DZ.out _ _).mp (hh.v 12);simp only [AY];refine Reg.go rfl ?_;unfold Reg.upon;obtain ⟨o9,k9,e9,h9⟩:=d12;rw [e9];go_simp;exact ⟨DJ.out 14 Lq wq rfl  hh.cls,(by rw [Hrgpe14.out]),FI.out _⟩
    ·intro Lq wq xq hh;have d13:=(Fu.out _ _).mp (hh.v 13);simp only [AY];refine Reg.go rfl ?_;unfold Reg.upon;have hc:De Lq wq:=hh.cls;rw [BL.out] at hc;have Bj:=hc.2.1 hh.un;obtain ⟨o9,k9,e9,hz⟩:=d13;have Aj:=(D3.out.below Bj).1;have s0:=Aj.cell 0 _ rfl;have s1:=Aj.cell 1 _ rfl;have s2:=Aj.cell 2 _ rfl;have s3:=Aj.cell 3 _ rfl;have s4:=Aj.cell 4 _ rfl;have f0:=Aj.free 0;have f1:=Aj.free 1;have f2:=Aj.free 2;have f3:=Aj.free 3;have f4:=Aj.free 4;rw [MA] at s0;have q10:=RB.store (r3:=rr) (c3:=c9) (pd3:=pp) (au3:=Pau) (o':=o9) (k':=k9) (L3:=LP) D3.out Bj (by rw [LZ.out];exact hz.zone fun x hx hy=>by rcases hy with hy | hy;exact .inl hy;exact .inr ⟨hy,hx⟩);rw [LZ.out] at q10;have hF:De (Lq.setIfInBounds 15 true) (((((wq.setCell ⟨gb,0,none⟩ (.slice o9 n k9)).setCell ⟨gb,1,none⟩ (.int .i64 rr)).setCell ⟨gb,2,none⟩ (.int .i64 c9)).setCell ⟨gb,3,none⟩ (.bool pp)).setCell ⟨gb,4,none⟩ (.bool Pau)):=by
      rw [BL.out];refine ⟨hc.1.trans (aT gb _ _ _ _ _),fun e=>?_,fun _=>⟨o9,k9,q10⟩⟩;rw [Mix.one_set (by rw [hh.size];decide)] at e;exact absurd e (by decide)
     have hE:Mb 15 undef (((((wq.setCell ⟨gb,0,none⟩ (.slice o9 n k9)).setCell ⟨gb,1,none⟩ (.int .i64 rr)).setCell ⟨gb,2,none⟩ (.int .i64 c9)).setCell ⟨gb,3,none⟩ (.bool pp)).setCell ⟨gb,4,none⟩ (.bool Pau)):=by rw [Hrgpe15.out]
     have hX:Jx wq (((((wq.setCell ⟨gb,0,none⟩ (.slice o9 n k9)).setCell ⟨gb,1,none⟩ (.int .i64 rr)).setCell ⟨gb,2,none⟩ (.int .i64 c9)).setCell ⟨gb,3,none⟩ (.bool pp)).setCell ⟨gb,4,none⟩ (.bool Pau)):=by rw [HrgphX.out];exact aT _ _ _ _ _ _
     rw [e9];clear hc hz Aj q10 Bj;go_simp;exact ⟨hF,hE,hX⟩
    intro xq wrgp hcrgp hvrgp;rw [BL.out] at hcrgp;simp only [AY];clear hvrgp AY CO DJ FI Hrgpst Hrgpc BL HrgphX IH Ft Ip GJ Is Io Iq Hh Hd Gy G2 GK Fa Fn DZ Fu Hrgpe14 Hrgpe15;obtain ⟨u9,_,MT⟩:=hcrgp;obtain ⟨o9,k9,Cd⟩:=MT (by kernel_rfl);have AN:=ab (And.intro Cd (UB.out.trans u9));clear u9 MT Cd;go_wp2
    go_roundw
    case rel=>exact ⟨i+1,⟨LP,rr,c9,pp,Pau⟩,o9,k9,by omega,by go_num,by rw [<-Bg.out,Py.out],AN.out.1,AN.out.2⟩
    case measure=>simp [intOf] <;> omega
   | true =>
    rw [BV] at ED;have EI:=ab (show bL (t.getD 0 0)=true from by rw [<-Jh];exact BV);have FH:=ab t4;have HTC:=ab (eY Dw).2.2;clear hP BC hu Ot Hg t1 t2 t3 t4 ht Jh BV EM
    go_wp2_with fail
    refine ED.out.mono ?_;rintro e wb ⟨rfl,bb⟩;have UB:=ab (HU.out.trans (Upd.ofBelow bb |>.mono fun b hb e=>absurd hb (by have:=HU.out.size;omega)));have D3:=ab (Ml.out.below bb);have La:=ab (show ∀ w',Upd (fun b=>b=gb) wb w'->Upd (fun b=>b=gb) wv w' from fun w' h=>(Upd.ofBelow bb |>.mono fun b hb e=>absurd hb (by omega)).trans h);clear bb hcell Dw hc0;go_wp2
    go_loopw [7] (fun kv wr=>∃ (j:Nat) (P2:Pn) (o2:Option Addr) (k2:Nat),j<=tn/\kv=.int .i64 j/\P2=(t.take j).foldl (doP wd) P/\RB w Z gb gz P2.L P2.r P2.c P2.pd P2.au o2 k2 wr/\Upd (fun b=>b=gb) wb wr) (fun kv _=>tn - (intOf kv).toNat)
    case atStart=>exact ⟨0,P,o,k,Nat.zero_le _,rfl,by rw [List.take_zero];rfl,D3.out,Upd.refl _ _⟩
    case round =>
     obtain ⟨j,P2,o2,k2,hj,rfl,Nh,Kr,He⟩:=hrel;obtain ⟨wd2,hwd2⟩:=ae (wr);subst hwd2;have IM:PnOk wd n P2:=by rw [Nh];exact PnOk.dos DN.out _ _ HPI.out
     have DG:=(Ja.out wd2 (La.out wd2 He)).1
     by_cases hjt:j<tn
     ·have j3:decide ((j:Int)<(tn:Int))=true:=ah (by omega);have j4:decide (j<tn)=true:=ah (by omega);have Ey:(j:Int)<(tn:Int):=by omega
      have hwj2:IntKind.i64.wrap ((j:Int)+1)=(j:Int)+1:=by
       have:=FH.out;have:=Jb.out;rw [IntKind.wrap_i64];omega
      obtain ⟨b2,t2,e2,hb2,O0⟩:=HTC.out j (by rw [<-Jb.out];exact hjt)
      cases e2
      obtain ⟨K,hK⟩:=ae (t.getD j 0);rw [<-hK] at O0;have PI:=ab (show ∀ w',Upd (fun b=>b=gb) wv w'->w'.cell? ⟨bt,ot+j,none⟩=some (.int .i32 K) from fun w' h=>(World.cell?_of_block (a:=⟨bt,ot+j,none⟩) (h.block bt OA.out.2.2.1 OA.out.2.2.2)).trans O0);have hjk:j<tk:=by omega
      have HNX2:=ab (show doP wd P2 K=(t.take (j+1)).foldl (doP wd) P from by
       rw [Nh,List.take_succ_eq_append_getElem (show j<t.length from by rw [<-Jb.out];exact hjt),List.foldl_append,hK]
       simp [List.getD,List.getElem?_eq_getElem (show j<t.length from by rw [<-Jb.out];exact hjt)])
      obtain ⟨n1,n2,n3,n4,n5⟩:=IM.nat DN.out;obtain ⟨LP,F9⟩:=ae ((doP wd P2 K).L);obtain ⟨rr,CZ⟩:=ae ((doP wd P2 K).r);obtain ⟨c9,hcc⟩:=ae ((doP wd P2 K).c);obtain ⟨pp,A6⟩:=ae ((doP wd P2 K).pd);obtain ⟨sk,hsk⟩:=ae (bL K);have LZ:=ab (show LP.length=n from by rw [F9];exact (IM.do_ DN.out K).1);have Py:=ab (show doP wd P2 K=⟨LP,rr,c9,pp,P2.au⟩ from by rw [F9,CZ,hcc,A6];rfl);have HDO:=ab (show ∀ (Zq:an) (w':World),HeldE lineE Zq w' (.slice o2 n k2) P2.L->(∀ b,Zq b->b<w'.heap.size)->Calls Tryz.prog 98 #[.agg #[.slice o2 n k2,.int .i64 P2.r,.int .i64 P2.c,.bool P2.pd,.bool P2.au],.int .i32 K] w' (fun e w2=>∃ v',e=.returned (.tuple #[.agg #[v',.int .i64 rr,.int .i64 c9,.bool pp,.bool P2.au],.bool sk])/\HeldE lineE (fun b=>Zq b\/(w'.heap.size<=b/\b<w2.heap.size)) w2 v' LP/\Below w'.heap.size w' w2) from fun Zq w' h1 h2=>by
       rw [F9,CZ,hcc,A6,hsk];exact yu Zq (.slice o2 n k2) P2.L P2.r P2.c P2.pd P2.au K w' h1 h2 wd (IM.even DN.out) _ _ n1 n2 n4 n5)
      have LB:P2.L.length=n:=IM.1;have Ic:=ab Kr;have UB2:=ab He;obtain ⟨⟨PL,Pr',Pc',Ppd,Pau⟩,IK⟩ : ∃ q,q=P2:=⟨_,rfl⟩;subst IK
      dsimp only at *
      clear Nh Kr He IM hK O0 n1 n2 n3 n4 n5 F9 CZ hcc A6 hsk
      go_upto_region 10 with (fail)
      clear DG;obtain ⟨Dv,FP⟩ : ∃ CC:Array Bool->World->Prop,CC=fun L8 w'=>Upd (fun b=>b=gb) wd2 w'/\(Mix.one L8 12=0->Below wd2.heap.size wd2 w')/\(Mix.one L8 12=1->∃ o9 k9,RB w Z gb gz LP rr c9 pp Pau o9 k9 w'):=⟨_,rfl⟩
      obtain ⟨JJ,D8⟩ : ∃ XX:World->World->Prop,XX=fun x y=>Upd (fun b=>b=gb) x y:=⟨_,rfl⟩
      obtain ⟨L7,Hrgqst,In,GL,GH,Il,GA,GC,Iv,Gt,GI,E8,Ff,Hrgqe11,Hrgqe12,_,_,_⟩:=Reg.e16 JJ
       (fun xx _=>xx=.agg #[.slice o2 n k2,.int .i64 Pr',.int .i64 Pc',.bool Ppd,.bool Pau])
       (fun xx _=>xx=.slice (some ⟨bc,oc,none⟩) m cc)
       (fun xx _=>xx=.int .i64 i)
       (fun xx _=>xx=.pointer (some ⟨bc,oc+i,none⟩))
       (fun xx _=>xx=.slice (some ⟨bt,ot,none⟩) tn tk)
       (fun xx _=>xx=.int .i64 j)
       (fun xx _=>xx=.pointer (some ⟨bt,ot+j,none⟩))
       (fun xx _=>xx=.int .i32 K)
       (fun x w'=>∃ o9 k9,x=.tuple #[.agg #[.slice o9 n k9,.int .i64 rr,.int .i64 c9,.bool pp,.bool Pau],.bool sk]/\HeldE lineE (fun b=>(((Z b\/w.heap.size<=b)/\b≠gb/\b≠gz)/\b<wd2.heap.size)\/wd2.heap.size<=b) w' (.slice o9 n k9) LP)
       (fun x w'=>∃ o9 k9,x=.tuple #[.agg #[.slice o9 n k9,.int .i64 rr,.int .i64 c9,.bool pp,.bool Pau],.bool sk]/\HeldE lineE (fun b=>(((Z b\/w.heap.size<=b)/\b≠gb/\b≠gz)/\b<wd2.heap.size)\/wd2.heap.size<=b) w' (.slice o9 n k9) LP)
       (fun x w'=>∃ o9 k9,x=.agg #[.slice o9 n k9,.int .i64 rr,.int .i64 c9,.bool pp,.bool Pau]/\HeldE lineE (fun b=>(((Z b\/w.heap.size<=b)/\b≠gb/\b≠gz)/\b<wd2.heap.size)\/wd2.heap.size<=b) w' (.slice o9 n k9) LP)
       (fun xx _=>xx=.bool sk)
       (fun xx _=>xx=undef)
       (fun _ _=>True) (fun _ _=>True) (fun _ _=>True)
       (s8:=fun x w w1 hx h=>by rw [D8] at hx;(obtain ⟨o9,k9,e9,h9⟩:=h;exact ⟨o9,k9,e9,h9.upd hx (fun b hz e=>by have h8:=Ic.out.1.lt;rcases hz with hz | hz;exact hz.1.2.1 e;omega)⟩))
       (s9:=fun x w w1 hx h=>by rw [D8] at hx;(obtain ⟨o9,k9,e9,h9⟩:=h;exact ⟨o9,k9,e9,h9.upd hx (fun b hz e=>by have h8:=Ic.out.1.lt;rcases hz with hz | hz;exact hz.1.2.1 e;omega)⟩))
       (s10:=fun x w w1 hx h=>by rw [D8] at hx;(obtain ⟨o9,k9,e9,h9⟩:=h;exact ⟨o9,k9,e9,h9.upd hx (fun b hz e=>by have h8:=Ic.out.1.lt;rcases hz with hz | hz;exact hz.1.2.1 e;omega)⟩))
      have EL:Hid (∀ i L w,(i == 12)=false ->  Dv L w->Dv (L.setIfInBounds i true) w):=ab (by
       intro i L w q h;simp only [Bool.or_eq_false_iff,beq_eq_false_iff_ne] at q;rw [FP] at h ⊢;simp only [Mix.one_ne q];exact h)
      have Hrgqb:Hid (∀ L w w1,Dv L w->Below w.heap.size w w1->Dv L w1):=ab (by
       intro L w w1 h hb;rw [FP] at h ⊢
       (obtain ⟨q1,q2,q4⟩:=h;exact ⟨q1.trans (Upd.ofBelow hb |>.mono fun b hb e=>absurd hb (by have:=q1.size;omega)),fun e=>(q2 e).trans (hb.mono (q2 e).size),fun e=>by obtain ⟨o9,k9,h1⟩:=q4 e;exact ⟨o9,k9,h1.below hb⟩⟩))
      have FQ:=ab (show ∀ w,JJ w w from fun w=>by rw [D8];exact Upd.refl _ _);have Hrgqxb:=ab (show ∀ w w1,Below w.heap.size w w1->JJ w w1 from fun w w1 hb=>by rw [D8];exact Upd.ofBelow hb |>.mono fun b h e=>absurd h (by omega));have Hrgqc:=ab (show Dv (Array.replicate 13 false) wd2.drew from by rw [FP];exact ⟨(Upd.refl _ _).drew,fun _=>(Below.refl _ _).drew,fun e=>absurd e (by decide)⟩);have Dq:=ab (fun (i:Nat) L w v q (h:Dv L w) (e:L7 i v w)=>Reg.hk (EL.out i L w q h) e (FQ.out w));have Cg:=ab FP;have HrgqhX:=ab D8;clear FP D8
      go_wp2_with fail
      refine Reg.regionF L7 Dv JJ Hrgqst.out (by kernel_rfl) (by kernel_rfl) (by kernel_rfl) Hrgqc.out (fun Frgq Bd=>?_);simp only [Reg.frame,Reg.dsts,List.map_cons,List.map_nil,Mix.put_lit,Reg.put_none,List.set_cons_succ,List.set_cons_zero,Nat.zero_add,Nat.reduceAdd] at Bd;refine ⟨⟨?_,?_,?_,?_,?_,?_,?_,?_,?_,?_,?_,?_,?_,trivial⟩,?_⟩
      ·intro Lq wq xq hh;simp only [Bd];refine Reg.go rfl ?_;have hc:Dv Lq wq:=hh.cls;rw [Cg.out] at hc;have hq:=(Ic.out.below (hc.2.1 (Mix.one_un (hh.notYet 12 (by kernel_rfl))))).1;rw [LB] at hq;have q0:=hq.cell 0 _ rfl;have q1:=hq.cell 1 _ rfl;have q2:=hq.cell 2 _ rfl;have q3:=hq.cell 3 _ rfl;have q4:=hq.cell 4 _ rfl;clear hc;have HK:=Dq.out 0 _ _ _ rfl hh.cls ((In.out _ _).mpr rfl);go_simp;exact HK.out
      ·intro Lq wq xq hh;simp only [Bd];refine Reg.go rfl ?_;have HK:=Dq.out 1 _ _ _ rfl hh.cls ((GL.out _ _).mpr rfl);go_simp;exact HK.out
      ·intro Lq wq xq hh;simp only [Bd];refine Reg.go rfl ?_;have HK:=Dq.out 2 _ _ _ rfl hh.cls ((GH.out _ _).mpr rfl);go_simp;exact HK.out
      ·intro Lq wq xq hh;simp only [Bd,(GL.out _ _).mp (hh.v 1),(GH.out _ _).mp (hh.v 2)];refine Reg.go rfl ?_;have HK:=Dq.out 3 _ _ _ rfl hh.cls ((Il.out _ _).mpr rfl);go_simp;exact HK.out
      ·intro Lq wq xq hh;simp only [Bd,(Il.out _ _).mp (hh.v 3)];refine Reg.go rfl ?_;have hc:Dv Lq wq:=hh.cls;rw [Cg.out] at hc;have q0:=(Ja.out wq (La.out wq (UB2.out.trans hc.1))).1;clear hc;have HK:=Dq.out 4 _ _ _ rfl hh.cls ((GA.out _ _).mpr rfl);go_simp;exact HK.out
      ·intro Lq wq xq hh;simp only [Bd];refine Reg.go rfl ?_;have HK:=Dq.out 5 _ _ _ rfl hh.cls ((GC.out _ _).mpr rfl);go_simp;exact HK.out
      ·intro Lq wq xq hh;simp only [Bd,(GA.out _ _).mp (hh.v 4),(GC.out _ _).mp (hh.v 5)];refine Reg.go rfl ?_;have HK:=Dq.out 6 _ _ _ rfl hh.cls ((Iv.out _ _).mpr rfl);go_simp;exact HK.out
      ·intro Lq wq xq hh;simp only [Bd,(Iv.out _ _).mp (hh.v 6)];refine Reg.go rfl ?_;have hc:Dv Lq wq:=hh.cls;rw [Cg.out] at hc;have q0:=PI.out wq (La.out wq (UB2.out.trans hc.1));clear hc;have HK:=Dq.out 7 _ _ _ rfl hh.cls ((Gt.out _ _).mpr rfl);go_simp;exact HK.out
      ·intro Lq wq xq hh;simp only [Bd,(In.out _ _).mp (hh.v 0),(Gt.out _ _).mp (hh.v 7)];refine Reg.go rfl ?_;unfold Reg.upon;have hc:Dv Lq wq:=hh.cls;rw [Cg.out] at hc;have Bj:=hc.2.1 (Mix.one_un (hh.notYet 12 (by kernel_rfl)));have JI:=Ic.out.arg.below Bj;rw [LB] at JI;have hput:=HDO.out (fun b=>((((Z b\/w.heap.size<=b)/\b≠gb/\b≠gz)/\b<wd2.heap.size))/\b<wq.heap.size) wq (JI.zone fun b hb hz=>⟨hz,hb⟩) (fun b h=>h.2);clear hc JI;go_simp;refine hput.mono ?_;rintro e w9 ⟨v9,rfl,h9,b9⟩;obtain ⟨o9,k9,ev9⟩:=h9.len;rw [LZ.out] at ev9;subst ev9;refine ⟨_,rfl,EL.out 8 Lq w9 rfl  (Hrgqb.out Lq wq w9 hh.cls b9),?_,Hrgqxb.out wq w9 b9⟩;rw [GI.out];refine ⟨o9,k9,rfl,h9.zone fun b _ hz=>?_⟩
       rcases hz with hz | hz
       ·exact .inl hz.1
       ·exact .inr (Nat.le_trans Bj.size hz.1)
      ·intro Lq wq xq hh;have d8:=(GI.out _ _).mp (hh.v 8);simp only [Bd];refine Reg.go rfl ?_;unfold Reg.upon;go_simp;exact ⟨EL.out 9 Lq wq rfl  hh.cls,(by rw [E8.out];exact d8),FQ.out _⟩
      ·intro Lq wq xq hh;have d9:=(E8.out _ _).mp (hh.v 9);simp only [Bd];refine Reg.go rfl ?_;unfold Reg.upon;obtain ⟨o9,k9,e9,h9⟩:=d9;rw [e9];go_simp;exact ⟨EL.out 10 Lq wq rfl  hh.cls,(by rw [Ff.out];exact ⟨o9,k9,rfl,h9⟩),FQ.out _⟩
      ·intro Lq wq xq hh;have d9:=(E8.out _ _).mp (hh.v 9);simp only [Bd];refine Reg.go rfl ?_;unfold Reg.upon;obtain ⟨o9,k9,e9,h9⟩:=d9;rw [e9];go_simp;exact ⟨EL.out 11 Lq wq rfl  hh.cls,(by rw [Hrgqe11.out]),FQ.out _⟩
      ·intro Lq wq xq hh;have d10:=(Ff.out _ _).mp (hh.v 10);simp only [Bd];refine Reg.go rfl ?_;unfold Reg.upon;have hc:Dv Lq wq:=hh.cls;rw [Cg.out] at hc;have Bj:=hc.2.1 hh.un;obtain ⟨o9,k9,e9,hz⟩:=d10;have Aj:=(Ic.out.below Bj).1;have s0:=Aj.cell 0 _ rfl;have s1:=Aj.cell 1 _ rfl;have s2:=Aj.cell 2 _ rfl;have s3:=Aj.cell 3 _ rfl;have s4:=Aj.cell 4 _ rfl;have f0:=Aj.free 0;have f1:=Aj.free 1;have f2:=Aj.free 2;have f3:=Aj.free 3;have f4:=Aj.free 4;rw [LB] at s0;have q10:=RB.store (r3:=rr) (c3:=c9) (pd3:=pp) (au3:=Pau) (o':=o9) (k':=k9) (L3:=LP) Ic.out Bj (by rw [LZ.out];exact hz.zone fun x hx hy=>by rcases hy with hy | hy;exact .inl hy;exact .inr ⟨hy,hx⟩);rw [LZ.out] at q10;have hF:Dv (Lq.setIfInBounds 12 true) (((((wq.setCell ⟨gb,0,none⟩ (.slice o9 n k9)).setCell ⟨gb,1,none⟩ (.int .i64 rr)).setCell ⟨gb,2,none⟩ (.int .i64 c9)).setCell ⟨gb,3,none⟩ (.bool pp)).setCell ⟨gb,4,none⟩ (.bool Pau)):=by
        rw [Cg.out];refine ⟨hc.1.trans (aT gb _ _ _ _ _),fun e=>?_,fun _=>⟨o9,k9,q10⟩⟩;rw [Mix.one_set (by rw [hh.size];decide)] at e;exact absurd e (by decide)
       have hE:L7 12 undef (((((wq.setCell ⟨gb,0,none⟩ (.slice o9 n k9)).setCell ⟨gb,1,none⟩ (.int .i64 rr)).setCell ⟨gb,2,none⟩ (.int .i64 c9)).setCell ⟨gb,3,none⟩ (.bool pp)).setCell ⟨gb,4,none⟩ (.bool Pau)):=by rw [Hrgqe12.out]
       have hX:JJ wq (((((wq.setCell ⟨gb,0,none⟩ (.slice o9 n k9)).setCell ⟨gb,1,none⟩ (.int .i64 rr)).setCell ⟨gb,2,none⟩ (.int .i64 c9)).setCell ⟨gb,3,none⟩ (.bool pp)).setCell ⟨gb,4,none⟩ (.bool Pau)):=by rw [HrgqhX.out];exact aT _ _ _ _ _ _
       rw [e9];clear hc hz Aj q10 Bj;go_simp;exact ⟨hF,hE,hX⟩
      intro xq wrgq hcrgq hvrgq;rw [Cg.out] at hcrgq;simp only [Bd];clear hvrgq Bd Dq EL FQ Hrgqst Hrgqc Cg HrgqhX Hrgqb Hrgqxb In GL GH Il GA GC Iv Gt GI E8 Ff Hrgqe11 Hrgqe12;obtain ⟨u9,_,Ij⟩:=hcrgq;obtain ⟨o9,k9,Cd⟩:=Ij (by kernel_rfl);have AN:=ab (And.intro Cd (UB2.out.trans u9));clear u9 Ij Cd;go_wp2
      go_roundw
      case rel=>exact ⟨j+1,⟨LP,rr,c9,pp,Pau⟩,o9,k9,by omega,by go_num,by rw [<-HNX2.out,Py.out],AN.out.1,AN.out.2⟩
      case measure=>simp [intOf] <;> omega
     ·obtain rfl:j=tn:=by omega
      have j3:decide ((j:Int)<(j:Int))=false:=ai (by omega);have AN:=ab (And.intro Kr (UB.out.trans He));have Nu:=ab (show P2=bH wd p0 (cs.take (i+1)) from by
       rw [<-Bg.out,Nh,Jb.out,List.take_length];unfold putC;rw [if_pos EI.out])
      clear Nh Kr He IM;go_wp2
      go_roundw
      case rel=>exact ⟨i+1,P2,o2,k2,by omega,by go_num,Nu.out,AN.out.1,AN.out.2⟩
      case measure=>simp [intOf] <;> omega
  ·obtain rfl:i=m:=by omega
   have j1:decide ((i:Int)<(i:Int))=false:=ai (by omega);have hPe:P=bH wd p0 (bj xs):=by rw [hP,HM.out,List.take_length,Nw.out]
   have M0:=ab hPe;have MA:P.L.length=n:=K6.1;have Ml:=ab BC;obtain ⟨⟨PL,Pr',Pc',Ppd,Pau⟩,IK⟩ : ∃ q,q=P:=⟨_,rfl⟩;subst IK
   dsimp only at *
   have q0:=BC.1.cell 0 _ rfl;rw [MA] at q0;have q1:=BC.1.cell 1 _ rfl;have q2:=BC.1.cell 2 _ rfl;have q3:=BC.1.cell 3 _ rfl;have q4:=BC.1.cell 4 _ rfl;have s0:=BC.2.2.1.cell 0 _ rfl;have s1:=BC.2.2.1.cell 1 _ rfl;have s2:=BC.2.2.1.cell 2 _ rfl;have s3:=BC.2.2.1.cell 3 _ rfl;have s4:=BC.2.2.1.cell 4 _ rfl;have f0:=BC.2.2.1.free 0;have f1:=BC.2.2.1.free 1;have f2:=BC.2.2.1.free 2;have f3:=BC.2.2.1.free 3;have f4:=BC.2.2.1.free 4;have Kc:=BC.fin;rw [MA] at Kc;have HF:=ab Kc;have HH:=ab (cH BC.2.2.1 (.slice o n k) (.int .i64 Pr') (.int .i64 Pc') (.bool Ppd) (.bool Pau));obtain ⟨W5,AK⟩:=ae ((((((wv.setCell ⟨gz,0,none⟩ (.slice o n k)).setCell ⟨gz,1,none⟩ (.int .i64 Pr')).setCell ⟨gz,2,none⟩ (.int .i64 Pc')).setCell ⟨gz,3,none⟩ (.bool Ppd)).setCell ⟨gz,4,none⟩ (.bool Pau)));have Dk:=ab AK;rw [<-AK] at HF HH;clear hP BC hu K6 hPe Kc AK;go_wp2;rw [<-Dk.out];have k0:=HH.out.cell 0 _ rfl;have k1:=HH.out.cell 1 _ rfl;have k2:=HH.out.cell 2 _ rfl;have k3:=HH.out.cell 3 _ rfl;have k4:=HH.out.cell 4 _ rfl;exact bodyPost_ret (v:=.agg #[.slice o n k,.int .i64 Pr',.int .i64 Pc',.bool Ppd,.bool Pau]) (by simp [results,Tryz.results42,go_sem,k0,k1,k2,k3,k4]) rfl ⟨_,by rw [<-M0.out],by rw [<-M0.out];exact HF.out.1,HF.out.2⟩
section
def ZB(Z:an)(w w':World):an:=fun b=>Z b\/(w.heap.size<=b/\b<w'.heap.size)
def RFd(Z:an)(w:World)(p:Pn)(G bs:List Int)(n:Int)(e:Ending)(w':World):Prop :=
 ∃ v gv bv,e=.returned (.agg #[v,.int .i64 p.r,.int .i64 p.c,.bool p.pd,.bool p.au,gv,bv,.int .i64 n])/\HeldE lineE (ZB Z w w') w' v p.L/\HeldE (aE .i32) (ZB Z w w') w' gv G/\HeldE (aE .u8) (ZB Z w w') w' bv bs/\Below w.heap.size w w'
def QB(w0:World)(Z:an)(gq gz:Nat)(D:List Value)(t:TypeId)(p:Pn)(G bs:List Int)(n:Int)(v gv bv:Value)(w':World):Prop :=
 Has w' gq [v,.int .i64 p.r,.int .i64 p.c,.bool p.pd,.bool p.au,gv,bv,.int .i64 n] 66/\HeldE lineE (fun b=>(Z b\/w0.heap.size<=b)/\b≠gq/\b≠gz) w' v p.L/\HeldE (aE .i32) (fun b=>(Z b\/w0.heap.size<=b)/\b≠gq/\b≠gz) w' gv G/\HeldE (aE .u8) (fun b=>(Z b\/w0.heap.size<=b)/\b≠gq/\b≠gz) w' bv bs/\Has w' gz D t/\Below w0.heap.size w0 w'/\w0.heap.size<=gq/\w0.heap.size<=gz/\gq≠gz
section
variable {w0 w1 w2 w3 : World} {Z : an} {gq gz : Nat} {D : List Value} {t : TypeId} {p p' : Pn} {G G' bs bs' : List Int} {n n' : Int} {v gv bv v' gv' bv' : Value}
theorem QB.below(h:QB w0 Z gq gz D t p G bs n v gv bv w1)(hb:Below w1.heap.size w1 w2):QB w0 Z gq gz D t p G bs n v gv bv w2 :=
 ⟨h.1.below hb h.1.lt,h.2.1.below hb,h.2.2.1.below hb,h.2.2.2.1.below hb,h.2.2.2.2.1.below hb h.2.2.2.2.1.lt,h.2.2.2.2.2.1.trans (hb.mono h.2.2.2.2.2.1.size),h.2.2.2.2.2.2⟩
theorem jz{α:Type}{E:Elem α}{x:Value}{L:List α}(h:QB w0 Z gq gz D t p G bs n v gv bv w1)(hx:HeldE E (fun b=>((Z b\/w0.heap.size<=b)/\b≠gq/\b≠gz)\/w1.heap.size<=b) w2 x L):HeldE E (fun b=>(Z b\/w0.heap.size<=b)/\b≠gq/\b≠gz) w2 x L :=
 hx.zone fun b _ hz=>by
  have l1:=h.1.lt;have l2:=h.2.2.2.2.1.lt;have l3:=h.2.2.2.2.2.1.size
  rcases hz with hz | hz
  ·exact hz
  ·exact ⟨.inr (by omega),by omega,by omega⟩
theorem QB.own(h:QB w0 Z gq gz D t p G bs n v gv bv w1)(hb:Below w1.heap.size w1 w2)(hu:Upd (fun b=>b=gq) w2 w3)(hh:Has w3 gq [v',.int .i64 p'.r,.int .i64 p'.c,.bool p'.pd,.bool p'.au,gv',bv',.int .i64 n'] 66)
  (hv:HeldE lineE (fun b=>((Z b\/w0.heap.size<=b)/\b≠gq/\b≠gz)\/w1.heap.size<=b) w2 v' p'.L) (hg:HeldE (aE .i32) (fun b=>((Z b\/w0.heap.size<=b)/\b≠gq/\b≠gz)\/w1.heap.size<=b) w2 gv' G') (BY:HeldE (aE .u8) (fun b=>((Z b\/w0.heap.size<=b)/\b≠gq/\b≠gz)\/w1.heap.size<=b) w2 bv' bs') :
  QB w0 Z gq gz D t p' G' bs' n' v' gv' bv' w3:=by
 have h2:=h.below hb;exact ⟨hh,(jz h hv).upd hu fun b hz e=>hz.2.1 e,(jz h hg).upd hu fun b hz e=>hz.2.1 e,(jz h BY).upd hu fun b hz e=>hz.2.1 e,hu.keep.has h2.2.2.2.2.1 (fun e=>h.2.2.2.2.2.2.2.2 e.symm),h2.2.2.2.2.2.1.trans (hu.below h2.2.2.2.2.2.1.size fun b e=>by rw [e];exact h.2.2.2.2.2.2.1),h.2.2.2.2.2.2⟩
theorem QB.old{α:Type}{E:Elem α}{x:Value}{L:List α}(hx:HeldE E (fun b=>(Z b\/w0.heap.size<=b)/\b≠gq/\b≠gz) w1 x L)(hb:Below w1.heap.size w1 w2):HeldE E (fun b=>((Z b\/w0.heap.size<=b)/\b≠gq/\b≠gz)\/w1.heap.size<=b) w2 x L:=(hx.below hb).zone fun b _ hz=>.inl hz
theorem cA{α:Type}{E:Elem α}{x:Value}{L:List α}(hx:HeldE E (fun b=>(Z b\/w0.heap.size<=b)/\b≠gq/\b≠gz) w1 x L):HeldE E (fun b=>((Z b\/w0.heap.size<=b)/\b≠gq/\b≠gz)/\b<w1.heap.size) w1 x L:=hx.zone fun _ hb hz=>⟨hz,hb⟩
end
theorem gW(Z:an)(w:World)(D:List Value)(t:TypeId)(p:Pn)(G bs:List Int)(n:Int)(v gv bv:Value)(hv:HeldE lineE Z w v p.L)(hg:HeldE (aE .i32) Z w gv G)(hb:HeldE (aE .u8) Z w bv bs)(hZ:∀ b,Z b->b<w.heap.size) :
  ∃ W,W=(w.alloc (.cells #[v,.int .i64 p.r,.int .i64 p.c,.bool p.pd,.bool p.au,gv,bv,.int .i64 n] 66)).alloc (.cells D.toArray t)/\QB w Z w.heap.size (w.heap.size+1) D t p G bs n v gv bv W:=by
 refine ⟨_,rfl,?_⟩;have hl0:=(zI w (.cells #[v,.int .i64 p.r,.int .i64 p.c,.bool p.pd,.bool p.au,gv,bv,.int .i64 n] 66)).alloc (by simp) (.cells D.toArray t);have h1:=(Has.new w [v,.int .i64 p.r,.int .i64 p.c,.bool p.pd,.bool p.au,gv,bv,.int .i64 n] 66).alloc (.cells D.toArray t);have h2:=Has.new (w.alloc (.cells #[v,.int .i64 p.r,.int .i64 p.c,.bool p.pd,.bool p.au,gv,bv,.int .i64 n] 66)) D t;have hz:∀ b,Z b->(Z b\/w.heap.size<=b)/\b≠w.heap.size/\b≠w.heap.size+1:=fun b h=>by have:=hZ b h;exact ⟨.inl h,by omega,by omega⟩
 exact ⟨h1,(hv.below hl0).zone fun b _ h=>hz b h,(hg.below hl0).zone fun b _ h=>hz b h,(hb.below hl0).zone fun b _ h=>hz b h,by simpa using h2,hl0,Nat.le_refl _,by omega,by omega⟩
theorem nb(Z:an)(v gv bv:Value)(p:Pn)(G bs:List Int)(n:Int)(w:World)(wd ht:Nat)(hv:HeldE lineE Z w v p.L)(hg:HeldE (aE .i32) Z w gv G)(hb:HeldE (aE .u8) Z w bv bs)(hZ:∀ b,Z b->b<w.heap.size)(hs:eJ wd ht)(hp:PnOk wd ht p)(hn:G.length<=1000000)(hr:bI G)(Bn:okT G) :
  Calls Tryz.prog 37 #[.agg #[v,.int .i64 p.r,.int .i64 p.c,.bool p.pd,.bool p.au,gv,bv,.int .i64 n]] w (fun e w'=>∃ v',e=.returned (.agg #[v',.int .i64 (bH wd p (bj G)).r,.int .i64 (bH wd p (bj G)).c,.bool (bH wd p (bj G)).pd,.bool (bH wd p (bj G)).au])/\HeldE lineE (fun b=>Z b\/(w.heap.size<=b/\b<w'.heap.size)) w' v' (bH wd p (bj G)).L/\Below w.heap.size w w'):=by
 obtain ⟨W,hW,hq⟩:=gW Z w [.slice none 0 0,.int .i64 0,.int .i64 0,.bool false,.bool false] 43 p G bs n v gv bv hv hg hb hZ;obtain ⟨gq,BS⟩:=ae (w.heap.size);obtain ⟨gz,BU⟩:=ae (w.heap.size+1);rw [<-BU,<-BS] at hq;have HG:=ab (And.intro BS BU);have HQ:=ab hq;have HL:=ab (xh _ v gv p G W wd ht (cA hq.2.1) (cA hq.2.2.1) (fun b h=>h.2) hs hp hn hr Bn);obtain ⟨ao,ca,rfl⟩:=hv.len;obtain ⟨go',gk,rfl⟩:=hg.len;obtain ⟨bo,bk,rfl⟩:=hb.len;obtain ⟨nL,CM⟩:=ae (p.L.length);obtain ⟨nG,CH⟩:=ae (G.length);obtain ⟨nB,CJ⟩:=ae (bs.length);rw [<-CM,<-CH,<-CJ] at hW HQ;rw [<-CM,<-CH] at HL;rw [<-CM,<-CH,<-CJ];obtain ⟨⟨L0,r0',c0',pd0,au0⟩,A6⟩ : ∃ q,q=p:=⟨_,rfl⟩;subst A6;obtain ⟨P,hP⟩:=ae (bH wd ⟨L0,r0',c0',pd0,au0⟩ (bj G));rw [<-hP] at HL ⊢
 dsimp only at *
 obtain ⟨⟨PL,Pr',Pc',Ppd,Pau⟩,IK⟩ : ∃ q,q=P:=⟨_,rfl⟩;subst IK
 dsimp only at *
 have hW2:W=(w.alloc (.cells #[.slice ao nL ca,.int .i64 r0',.int .i64 c0',.bool pd0,.bool au0,.slice go' nG gk,.slice bo nB bk,.int .i64 n] 66)).alloc (.cells #[.slice none 0 0,.int .i64 0,.int .i64 0,.bool false,.bool false] 43):=hW;clear hv hg hb hZ hs hp hn hr Bn BS BU hq CM CH CJ hP hW
 go_enter Tryz.func37,Tryz.ntmps37
 go_upto_region 1 with (fail)
 rw [<-hW2];clear hW2;rw [<-HG.out.2];rw [<-HG.out.1];have q0:=HQ.out.1.cell 0 _ rfl;have q1:=HQ.out.1.cell 1 _ rfl;have q2:=HQ.out.1.cell 2 _ rfl;have q3:=HQ.out.1.cell 3 _ rfl;have q4:=HQ.out.1.cell 4 _ rfl;have q5:=HQ.out.1.cell 5 _ rfl
 go_wp2_with fail
 refine HL.out.mono ?_;rintro e w1 ⟨v',rfl,h1,b1⟩;obtain ⟨o1,k1,rfl⟩:=h1.len;obtain ⟨nP,J0⟩:=ae (PL.length);rw [<-J0] at h1 ⊢;have hz1:=HQ.out.below b1;have s0:=hz1.2.2.2.2.1.cell 0 _ rfl;have s1:=hz1.2.2.2.2.1.cell 1 _ rfl;have s2:=hz1.2.2.2.2.1.cell 2 _ rfl;have s3:=hz1.2.2.2.2.1.cell 3 _ rfl;have s4:=hz1.2.2.2.2.1.cell 4 _ rfl;have f0:=hz1.2.2.2.2.1.free 0;have f1:=hz1.2.2.2.2.1.free 1;have f2:=hz1.2.2.2.2.1.free 2;have f3:=hz1.2.2.2.2.1.free 3;have f4:=hz1.2.2.2.2.1.free 4;have HH:=ab (cH hz1.2.2.2.2.1 (.slice o1 nP k1) (.int .i64 Pr') (.int .i64 Pc') (.bool Ppd) (.bool Pau));have HU:=ab (aT (W:=w1) gz (.slice o1 nP k1) (.int .i64 Pr') (.int .i64 Pc') (.bool Ppd) (.bool Pau));have OO:=ab ((jz HQ.out (h1.zone fun b _ hz=>by
  rcases hz with hz | hz
  ·exact .inl hz.1
  ·exact .inr hz.1)))
 have B1:=ab hz1;obtain ⟨W5,AK⟩:=ae ((((((w1.setCell ⟨gz,0,none⟩ (.slice o1 nP k1)).setCell ⟨gz,1,none⟩ (.int .i64 Pr')).setCell ⟨gz,2,none⟩ (.int .i64 Pc')).setCell ⟨gz,3,none⟩ (.bool Ppd)).setCell ⟨gz,4,none⟩ (.bool Pau)));have Dk:=ab AK;rw [<-AK] at HH HU;clear q0 q1 q2 q3 q4 q5 h1 b1 hz1 AK J0;go_wp2;rw [<-Dk.out];have k0:=HH.out.cell 0 _ rfl;have k1':=HH.out.cell 1 _ rfl;have k2:=HH.out.cell 2 _ rfl;have k3:=HH.out.cell 3 _ rfl;have k4:=HH.out.cell 4 _ rfl;refine bodyPost_ret (v:=.agg #[.slice o1 nP k1,.int .i64 Pr',.int .i64 Pc',.bool Ppd,.bool Pau]) (by simp [results,Tryz.results37,go_sem,k0,k1',k2,k3,k4]) rfl ⟨_,rfl,?_,?_⟩
 ·exact (OO.out.upd HU.out fun b hz e=>hz.2.2 e).zone fun b hb hz=>hz.1.imp id fun h=>⟨h,hb⟩
 ·exact B1.out.2.2.2.2.2.1.trans (HU.out.below B1.out.2.2.2.2.2.1.size fun b e=>by rw [e];exact B1.out.2.2.2.2.2.2.2.1)
end
abbrev qc(W:World)(g:Nat)(a0 a1 a2 a3 a4 a5 a6 a7:Value):World:=(((((((W.setCell ⟨g,0,none⟩ a0).setCell ⟨g,1,none⟩ a1).setCell ⟨g,2,none⟩ a2).setCell ⟨g,3,none⟩ a3).setCell ⟨g,4,none⟩ a4).setCell ⟨g,5,none⟩ a5).setCell ⟨g,6,none⟩ a6).setCell ⟨g,7,none⟩ a7
theorem db(W:World)(g:Nat)(a0 a1 a2 a3 a4 a5 a6 a7:Value):Upd (fun b=>b=g) W (qc W g a0 a1 a2 a3 a4 a5 a6 a7) :=
 ((((((((Upd.refl (fun x=>x=g) W).setCell (p:=⟨g,0,none⟩) (.inl rfl) a0).setCell (p:=⟨g,1,none⟩) (.inl rfl) a1).setCell (p:=⟨g,2,none⟩) (.inl rfl) a2).setCell (p:=⟨g,3,none⟩) (.inl rfl) a3).setCell (p:=⟨g,4,none⟩) (.inl rfl) a4).setCell (p:=⟨g,5,none⟩) (.inl rfl) a5).setCell (p:=⟨g,6,none⟩) (.inl rfl) a6).setCell (p:=⟨g,7,none⟩) (.inl rfl) a7
theorem eD{W:World}{g:Nat}{t:TypeId}{x0 x1 x2 x3 x4 x5 x6 x7:Value}(h:Has W g [x0,x1,x2,x3,x4,x5,x6,x7] t)(a0 a1 a2 a3 a4 a5 a6 a7:Value):Has (qc W g a0 a1 a2 a3 a4 a5 a6 a7) g [a0,a1,a2,a3,a4,a5,a6,a7] t :=
 (((((((h.set 0 a0).set 1 a1).set 2 a2).set 3 a3).set 4 a4).set 5 a5).set 6 a6).set 7 a7
theorem QB.fin{w0 w1:World}{Z:an}{gq gz:Nat}{t:TypeId}{p:Pn}{G bs:List Int}{n:Int}{v gv bv x0 x1 x2 x3 x4 x5 x6 x7:Value}(h:QB w0 Z gq gz [x0,x1,x2,x3,x4,x5,x6,x7] t p G bs n v gv bv w1){w2:World}(hu:Upd (fun b=>b=gz) w1 w2) :
  HeldE lineE (ZB Z w0 w2) w2 v p.L/\HeldE (aE .i32) (ZB Z w0 w2) w2 gv G/\HeldE (aE .u8) (ZB Z w0 w2) w2 bv bs/\Below w0.heap.size w0 w2:=by
 obtain ⟨h1,h2,h3,h4,h5,h6,h7,h8,h9⟩:=h;refine ⟨(h2.upd hu fun b hz e=>hz.2.2 e).zone fun b hb hz=>hz.1.imp id fun h=>⟨h,hb⟩,(h3.upd hu fun b hz e=>hz.2.2 e).zone fun b hb hz=>hz.1.imp id fun h=>⟨h,hb⟩,(h4.upd hu fun b hz e=>hz.2.2 e).zone fun b hb hz=>hz.1.imp id fun h=>⟨h,hb⟩,h6.trans (hu.below h6.size fun b e=>by rw [e];exact h8)⟩
theorem iV(Z:an)(v gv bv:Value)(p:Pn)(G bs:List Int)(n:Int)(w:World)(hv:HeldE lineE Z w v p.L)(hg:HeldE (aE .i32) Z w gv G)(hb:HeldE (aE .u8) Z w bv bs)(hn:bs.length<=1000000)(hr:inBytes bs) :
  Calls Tryz.prog 38 #[.agg #[v,.int .i64 p.r,.int .i64 p.c,.bool p.pd,.bool p.au,gv,bv,.int .i64 n]] w (Gives w (.int .i64 (aF st0 bs).2.2)):=by
 obtain ⟨ao,ca,rfl⟩:=hv.len;obtain ⟨go',gk,rfl⟩:=hg.len;have hb0:=zI w (.cells [Value.slice ao p.L.length ca,.int .i64 p.r,.int .i64 p.c,.bool p.pd,.bool p.au,.slice go' G.length gk,bv,.int .i64 n].toArray 66);have Du:=Has.new w [Value.slice ao p.L.length ca,.int .i64 p.r,.int .i64 p.c,.bool p.pd,.bool p.au,.slice go' G.length gk,bv,.int .i64 n] 66;have HF:=ab (il st0 [] (.slice none 0 0) bv bs _ Rel.none (HeldE.nil (aE .u8) (fun _=>True) _).ints (hb.below hb0).ints hr hn);obtain ⟨bo,bk,rfl⟩:=hb.len;obtain ⟨W,hW⟩:=ae (w.alloc (.cells [Value.slice ao p.L.length ca,.int .i64 p.r,.int .i64 p.c,.bool p.pd,.bool p.au,.slice go' G.length gk,.slice bo bs.length bk,.int .i64 n].toArray 66));rw [<-hW] at hb0 Du HF;obtain ⟨x,hx⟩:=ae ((aF st0 bs).2.2);have HXX:=ab hx;rw [<-hx];obtain ⟨nL,CM⟩:=ae (p.L.length);obtain ⟨nG,CH⟩:=ae (G.length);obtain ⟨nB,CJ⟩:=ae (bs.length);rw [<-CM,<-CH,<-CJ] at hW Du;rw [<-CJ] at HF;rw [<-CM,<-CH,<-CJ];have hW2:W=w.alloc (.cells #[.slice ao nL ca,.int .i64 p.r,.int .i64 p.c,.bool p.pd,.bool p.au,.slice go' nG gk,.slice bo nB bk,.int .i64 n] 66):=hW;obtain ⟨gq,BS⟩:=ae (w.heap.size);rw [<-BS] at Du;have Kj:=ab BS;have HB:=ab hb0;have HN:=ab Du;clear hv hg hb hn hr hb0 Du hW BS hx CM CH CJ
 go_enter Tryz.func38,Tryz.ntmps38
 go_upto_region 1 with (fail)
 rw [<-hW2];clear hW2;rw [<-Kj.out];have q6:=HN.out.cell 6 _ rfl
 go_wp2_with fail
 refine HF.out.mono ?_;rintro e w1 ⟨vt,vh,H',rfl,h1,h2,h3,b1,_⟩;obtain ⟨ho,hk,rfl⟩:=h2.len;have HL:=ab ((jE h3).1.trans HXX.out.symm);have B1:=ab (HB.out.trans (b1.mono HB.out.size));clear q6 h1 h2 h3 b1;go_wp2;go_ret;exact ⟨al (by rw [<-HL.out];try rfl),B1.out⟩
theorem lU(Z:an)(v gv bv:Value)(p:Pn)(G bs:List Int)(n:Int)(x:Int)(w:World)(hv:HeldE lineE Z w v p.L)(hg:HeldE (aE .i32) Z w gv G)(hb:HeldE (aE .u8) Z w bv bs)(hZ:∀ b,Z b->b<w.heap.size)(hn:G.length<=1000000) :
  Calls Tryz.prog 34 #[.agg #[v,.int .i64 p.r,.int .i64 p.c,.bool p.pd,.bool p.au,gv,bv,.int .i64 n],.int .i32 x] w (RFd Z w p (G++[aS x]) bs n):=by
 obtain ⟨W,hW,hq⟩:=gW Z w [.slice none 0 0,.int .i64 0,.int .i64 0,.bool false,.bool false,.slice none 0 0,.slice none 0 0,.int .i64 0] 66 p G bs n v gv bv hv hg hb hZ;obtain ⟨gq,BS⟩:=ae (w.heap.size);obtain ⟨gz,BU⟩:=ae (w.heap.size+1);rw [<-BU,<-BS] at hq;have HG:=ab (And.intro BS BU);have HQ:=ab hq;obtain ⟨ao,ca,rfl⟩:=hv.len;obtain ⟨go',gk,rfl⟩:=hg.len;obtain ⟨bo,bk,rfl⟩:=hb.len;have hW2:W=(w.alloc (.cells #[.slice ao p.L.length ca,.int .i64 p.r,.int .i64 p.c,.bool p.pd,.bool p.au,.slice go' G.length gk,.slice bo bs.length bk,.int .i64 n] 66)).alloc (.cells #[.slice none 0 0,.int .i64 0,.int .i64 0,.bool false,.bool false,.slice none 0 0,.slice none 0 0,.int .i64 0] 66):=hW;obtain ⟨nL,CM⟩:=ae (p.L.length);obtain ⟨nG,CH⟩:=ae (G.length);obtain ⟨nB,CJ⟩:=ae (bs.length);have OW:=ab (And.intro CM (And.intro CH CJ));rw [<-CM,<-CH,<-CJ] at HQ hW2 ⊢;obtain ⟨r0',Kv⟩:=ae (p.r);obtain ⟨c0',hc0⟩:=ae (p.c);obtain ⟨pd0,LI⟩:=ae (p.pd);obtain ⟨au0,Lz⟩:=ae (p.au);have J5:=ab hn;obtain ⟨⟨L0,r0',c0',pd0,au0⟩,A6⟩ : ∃ q,q=p:=⟨_,rfl⟩;subst A6
 dsimp only at *
 obtain ⟨y,hy⟩:=ae (aS x);have HY:=ab hy;rw [<-hy]
 -- the empty row that is made,and the group behind it
 have Dp:=zI W (.cells #[] 21);have AA:OwnE (aE .i32) (fun _=>True) (W.alloc (.cells #[] 21)) W.heap.size 21 (.slice (some ⟨W.heap.size,0,none⟩) 0 0) []:=OwnE.empty (World.ownsRow_lit W #[] 0 (Nat.le_refl _) (by decide) rfl);have hl2:=HQ.out.2.2.2.2.1.lt;have Ci:=HQ.out.1.lt;have M3:HeldE (aE .i32) (fun b9=>True/\(Value.slice (some ⟨W.heap.size,0,none⟩) 0 0).ownBlock≠some b9) (W.alloc (.cells #[] 21)) (.slice go' nG gk) G:=((cA HQ.out.2.2.1).below Dp).zone fun b9 _ h=>⟨trivial,fun e=>by have h9:=(AA.lt _ e).1;have:=h.2;omega⟩
 have A4:=ab AA;have Mx:=ab M3;have Ag:=ab Dp;have BM:=ab (HQ.out.below Dp);clear hv hg hb hZ hn BS BU hq CM CH CJ hW hy Dp AA hl2 Ci M3
 go_enter Tryz.func34,Tryz.ntmps34
 go_upto_region 1 with (fail)
 rw [<-hW2];clear hW2;rw [<-HG.out.2];rw [<-HG.out.1]
 cases hvx:bg x with
 | true =>
  have Pd:=ab hvx;have Pg:=ab (HY.out.trans (show aS x=x from by unfold aS;rw [hvx];rfl));clear hvx
  go_wp2_with fail
  refine (eR _ _).mono ?_;rintro e w' ⟨rfl,rfl⟩;rw [Pd.out];have q5:=HQ.out.1.cell 5 _ rfl
  go_upto_region 3 with (fail)
  clear q5;have q5:=BM.out.1.cell 5 _ rfl
  go_wp2_with (at_builtin;refine aw (E:=aE .i32) (Z:=fun _=>True) rfl (.tmp 8) (.tmp 10) 27 rfl (.int .i32 0) 4 Tryz.underlying27 fw rfl (by decide) rfl rfl A4.out Mx.out (by have:=J5.out;simp;omega) (by have:=J5.out;simp;omega) Ag.out.size ?_)
  intro v2 w2 Ap b2 _ _
  try rw [List.nil_append] at Ap
  have AF:=Ap.lt;have MH:=ab (show HeldE (aE .i32) (fun b=>True/\v2.ownBlock≠some b) (w2.alloc (.cells [Value.int .i32 x].toArray 21)) (.slice (some ⟨w2.heap.size,0,none⟩) 1 1) [x] from aO (Y:=fun _=>False) [.int .i32 x] x rfl (fun _ _ h=>h.elim) ⟨trivial,fun e=>by have:=(AF _ e).2;omega⟩);have ET:=ab (Ap.below (zI w2 (.cells [Value.int .i32 x].toArray 21)));have AM:=ab ((Ag.out.trans b2).alloc (Ag.out.trans b2).size (.cells [Value.int .i32 x].toArray 21));clear AF Ap b2 q5
  go_wp2_with (at_builtin;refine aw (E:=aE .i32) (Z:=fun _=>True) rfl (.tmp 11) (.tmp 13) 27 rfl (.int .i32 0) 4 Tryz.underlying27 fw rfl (by decide) rfl rfl ET.out MH.out (by have:=J5.out;simp;omega) (by have:=J5.out;simp;omega) AM.out.size ?_)
  intro v3 w3 DH b3 _ _;have hg3:HeldE (aE .i32) (fun b=>W.heap.size<=b) w3 v3 (G++[y]):=by rw [Pg.out];exact HeldE.ownedInts DH.ints
  have FM:=AM.out.trans b3;obtain ⟨o3,k3,rfl⟩:=hg3.len;obtain ⟨n3,KI⟩:=ae ((G++[y]).length);rw [<-KI] at hg3 ⊢;have DY:=HQ.out.below FM;have q5:=DY.1.cell 5 _ rfl;have f5:=DY.1.free 5;have H4:=ab (QB.own (v':=.slice ao nL ca) (gv':=.slice o3 n3 k3) (bv':=.slice bo nB bk) (p':=⟨L0,r0',c0',pd0,au0⟩) (n':=n) HQ.out FM ((Upd.refl (fun b=>b=gq) w3).setCell (p:=⟨gq,5,none⟩) (.inl rfl) (.slice o3 n3 k3)) (DY.1.set 5 _) (QB.old HQ.out.2.1 FM) (hg3.zone fun b _ h=>.inr h) (QB.old HQ.out.2.2.2.1 FM));obtain ⟨w4,hw4⟩:=ae (w3.setCell ⟨gq,5,none⟩ (.slice o3 n3 k3));rw [<-hw4] at H4;have Gc:=ab hw4;clear hg3 FM DY hw4 DH b3 KI
  go_upto_region 4 with (fail)
  rw [<-Gc.out];clear q5 f5;have q0:=H4.out.1.cell 0 _ rfl;have q1:=H4.out.1.cell 1 _ rfl;have q2:=H4.out.1.cell 2 _ rfl;have q3:=H4.out.1.cell 3 _ rfl;have q4:=H4.out.1.cell 4 _ rfl;have q5:=H4.out.1.cell 5 _ rfl;have q6:=H4.out.1.cell 6 _ rfl;have q7:=H4.out.1.cell 7 _ rfl;have s0:=H4.out.2.2.2.2.1.cell 0 _ rfl;have s1:=H4.out.2.2.2.2.1.cell 1 _ rfl;have s2:=H4.out.2.2.2.2.1.cell 2 _ rfl;have s3:=H4.out.2.2.2.2.1.cell 3 _ rfl;have s4:=H4.out.2.2.2.2.1.cell 4 _ rfl;have s5:=H4.out.2.2.2.2.1.cell 5 _ rfl;have s6:=H4.out.2.2.2.2.1.cell 6 _ rfl;have s7:=H4.out.2.2.2.2.1.cell 7 _ rfl;have y0:=H4.out.2.2.2.2.1.free 0;have y1:=H4.out.2.2.2.2.1.free 1;have y2:=H4.out.2.2.2.2.1.free 2;have y3:=H4.out.2.2.2.2.1.free 3;have y4:=H4.out.2.2.2.2.1.free 4;have y5:=H4.out.2.2.2.2.1.free 5;have y6:=H4.out.2.2.2.2.1.free 6;have y7:=H4.out.2.2.2.2.1.free 7;obtain ⟨W5,AK⟩:=ae (((((((((w4.setCell ⟨gz,0,none⟩ (.slice ao nL ca)).setCell ⟨gz,1,none⟩ (.int .i64 r0')).setCell ⟨gz,2,none⟩ (.int .i64 c0')).setCell ⟨gz,3,none⟩ (.bool pd0)).setCell ⟨gz,4,none⟩ (.bool au0)).setCell ⟨gz,5,none⟩ (.slice o3 n3 k3)).setCell ⟨gz,6,none⟩ (.slice bo nB bk)).setCell ⟨gz,7,none⟩ (.int .i64 n)));have C0:=ab (QB.fin H4.out (show Upd (fun b=>b=gz) w4 W5 from by rw [AK];exact db w4 gz (.slice ao nL ca) (.int .i64 r0') (.int .i64 c0') (.bool pd0) (.bool au0) (.slice o3 n3 k3) (.slice bo nB bk) (.int .i64 n)));have Ba:=ab (show Has W5 gz [.slice ao nL ca,.int .i64 r0',.int .i64 c0',.bool pd0,.bool au0,.slice o3 n3 k3,.slice bo nB bk,.int .i64 n] 66 from by rw [AK];exact eD H4.out.2.2.2.2.1 (.slice ao nL ca) (.int .i64 r0') (.int .i64 c0') (.bool pd0) (.bool au0) (.slice o3 n3 k3) (.slice bo nB bk) (.int .i64 n));have Dk:=ab AK;clear AK;go_wp2;rw [<-Dk.out];have e0:=Ba.out.cell 0 _ rfl;have e1:=Ba.out.cell 1 _ rfl;have e2:=Ba.out.cell 2 _ rfl;have e3:=Ba.out.cell 3 _ rfl;have e4:=Ba.out.cell 4 _ rfl;have e5:=Ba.out.cell 5 _ rfl;have e6:=Ba.out.cell 6 _ rfl;have e7:=Ba.out.cell 7 _ rfl;exact bodyPost_ret (v:=.agg #[.slice ao nL ca,.int .i64 r0',.int .i64 c0',.bool pd0,.bool au0,.slice o3 n3 k3,.slice bo nB bk,.int .i64 n]) (by simp [results,Tryz.results34,go_sem,e0,e1,e2,e3,e4,e5,e6,e7]) rfl ⟨_,_,_,rfl,C0.out.1,C0.out.2.1,C0.out.2.2.1,C0.out.2.2.2⟩
 | false =>
  have Pd:=ab hvx;have Pg:=ab (HY.out.trans (show aS x=65533 from by unfold aS;rw [hvx];rfl));clear hvx
  go_wp2_with fail
  refine (eR _ _).mono ?_;rintro e w' ⟨rfl,rfl⟩;rw [Pd.out];have q5:=HQ.out.1.cell 5 _ rfl
  go_upto_region 3 with (fail)
  clear q5;have q5:=BM.out.1.cell 5 _ rfl
  go_wp2_with (at_builtin;refine aw (E:=aE .i32) (Z:=fun _=>True) rfl (.tmp 8) (.tmp 10) 27 rfl (.int .i32 0) 4 Tryz.underlying27 fw rfl (by decide) rfl rfl A4.out Mx.out (by have:=J5.out;simp;omega) (by have:=J5.out;simp;omega) Ag.out.size ?_)
  intro v2 w2 Ap b2 _ _
  try rw [List.nil_append] at Ap
  have AF:=Ap.lt;have MH:=ab (show HeldE (aE .i32) (fun b=>True/\v2.ownBlock≠some b) (w2.alloc (.cells [Value.int .i32 65533].toArray 21)) (.slice (some ⟨w2.heap.size,0,none⟩) 1 1) [65533] from aO (Y:=fun _=>False) [.int .i32 65533] 65533 rfl (fun _ _ h=>h.elim) ⟨trivial,fun e=>by have:=(AF _ e).2;omega⟩);have ET:=ab (Ap.below (zI w2 (.cells [Value.int .i32 65533].toArray 21)));have AM:=ab ((Ag.out.trans b2).alloc (Ag.out.trans b2).size (.cells [Value.int .i32 65533].toArray 21));clear AF Ap b2 q5
  go_wp2_with (at_builtin;refine aw (E:=aE .i32) (Z:=fun _=>True) rfl (.tmp 11) (.tmp 13) 27 rfl (.int .i32 0) 4 Tryz.underlying27 fw rfl (by decide) rfl rfl ET.out MH.out (by have:=J5.out;simp;omega) (by have:=J5.out;simp;omega) AM.out.size ?_)
  intro v3 w3 DH b3 _ _;have hg3:HeldE (aE .i32) (fun b=>W.heap.size<=b) w3 v3 (G++[y]):=by rw [Pg.out];exact HeldE.ownedInts DH.ints
  have FM:=AM.out.trans b3;obtain ⟨o3,k3,rfl⟩:=hg3.len;obtain ⟨n3,KI⟩:=ae ((G++[y]).length);rw [<-KI] at hg3 ⊢;have DY:=HQ.out.below FM;have q5:=DY.1.cell 5 _ rfl;have f5:=DY.1.free 5;have H4:=ab (QB.own (v':=.slice ao nL ca) (gv':=.slice o3 n3 k3) (bv':=.slice bo nB bk) (p':=⟨L0,r0',c0',pd0,au0⟩) (n':=n) HQ.out FM ((Upd.refl (fun b=>b=gq) w3).setCell (p:=⟨gq,5,none⟩) (.inl rfl) (.slice o3 n3 k3)) (DY.1.set 5 _) (QB.old HQ.out.2.1 FM) (hg3.zone fun b _ h=>.inr h) (QB.old HQ.out.2.2.2.1 FM));obtain ⟨w4,hw4⟩:=ae (w3.setCell ⟨gq,5,none⟩ (.slice o3 n3 k3));rw [<-hw4] at H4;have Gc:=ab hw4;clear hg3 FM DY hw4 DH b3 KI
  go_upto_region 4 with (fail)
  rw [<-Gc.out];clear q5 f5;have q0:=H4.out.1.cell 0 _ rfl;have q1:=H4.out.1.cell 1 _ rfl;have q2:=H4.out.1.cell 2 _ rfl;have q3:=H4.out.1.cell 3 _ rfl;have q4:=H4.out.1.cell 4 _ rfl;have q5:=H4.out.1.cell 5 _ rfl;have q6:=H4.out.1.cell 6 _ rfl;have q7:=H4.out.1.cell 7 _ rfl;have s0:=H4.out.2.2.2.2.1.cell 0 _ rfl;have s1:=H4.out.2.2.2.2.1.cell 1 _ rfl;have s2:=H4.out.2.2.2.2.1.cell 2 _ rfl;have s3:=H4.out.2.2.2.2.1.cell 3 _ rfl;have s4:=H4.out.2.2.2.2.1.cell 4 _ rfl;have s5:=H4.out.2.2.2.2.1.cell 5 _ rfl;have s6:=H4.out.2.2.2.2.1.cell 6 _ rfl;have s7:=H4.out.2.2.2.2.1.cell 7 _ rfl;have y0:=H4.out.2.2.2.2.1.free 0;have y1:=H4.out.2.2.2.2.1.free 1;have y2:=H4.out.2.2.2.2.1.free 2;have y3:=H4.out.2.2.2.2.1.free 3;have y4:=H4.out.2.2.2.2.1.free 4;have y5:=H4.out.2.2.2.2.1.free 5;have y6:=H4.out.2.2.2.2.1.free 6;have y7:=H4.out.2.2.2.2.1.free 7;obtain ⟨W5,AK⟩:=ae (((((((((w4.setCell ⟨gz,0,none⟩ (.slice ao nL ca)).setCell ⟨gz,1,none⟩ (.int .i64 r0')).setCell ⟨gz,2,none⟩ (.int .i64 c0')).setCell ⟨gz,3,none⟩ (.bool pd0)).setCell ⟨gz,4,none⟩ (.bool au0)).setCell ⟨gz,5,none⟩ (.slice o3 n3 k3)).setCell ⟨gz,6,none⟩ (.slice bo nB bk)).setCell ⟨gz,7,none⟩ (.int .i64 n)));have C0:=ab (QB.fin H4.out (show Upd (fun b=>b=gz) w4 W5 from by rw [AK];exact db w4 gz (.slice ao nL ca) (.int .i64 r0') (.int .i64 c0') (.bool pd0) (.bool au0) (.slice o3 n3 k3) (.slice bo nB bk) (.int .i64 n)));have Ba:=ab (show Has W5 gz [.slice ao nL ca,.int .i64 r0',.int .i64 c0',.bool pd0,.bool au0,.slice o3 n3 k3,.slice bo nB bk,.int .i64 n] 66 from by rw [AK];exact eD H4.out.2.2.2.2.1 (.slice ao nL ca) (.int .i64 r0') (.int .i64 c0') (.bool pd0) (.bool au0) (.slice o3 n3 k3) (.slice bo nB bk) (.int .i64 n));have Dk:=ab AK;clear AK;go_wp2;rw [<-Dk.out];have e0:=Ba.out.cell 0 _ rfl;have e1:=Ba.out.cell 1 _ rfl;have e2:=Ba.out.cell 2 _ rfl;have e3:=Ba.out.cell 3 _ rfl;have e4:=Ba.out.cell 4 _ rfl;have e5:=Ba.out.cell 5 _ rfl;have e6:=Ba.out.cell 6 _ rfl;have e7:=Ba.out.cell 7 _ rfl;exact bodyPost_ret (v:=.agg #[.slice ao nL ca,.int .i64 r0',.int .i64 c0',.bool pd0,.bool au0,.slice o3 n3 k3,.slice bo nB bk,.int .i64 n]) (by simp [results,Tryz.results34,go_sem,e0,e1,e2,e3,e4,e5,e6,e7]) rfl ⟨_,_,_,rfl,C0.out.1,C0.out.2.1,C0.out.2.2.1,C0.out.2.2.2⟩
section
theorem qa{G:List Int}{r:Int}(h:bI G)(hr : -2147483648<=r/\r<=2147483647):bI (G++[r]):=fun i hi=>by
 rw [List.length_append,List.length_singleton] at hi
 by_cases e:i<G.length
 ·rw [mo G r 0 i e];exact h i e
 ·obtain rfl:i=G.length:=by omega
  rw [kV];exact hr
theorem yr{G:List Int}{r:Int}(h:okT G)(hr:aS r=r):okT (G++[r]):=fun x hx=>by
 rcases List.mem_append.1 hx with hx | hx
 ·exact h x hx
 ·rw [List.mem_singleton.1 hx];exact hr
section
variable {w0 w1 w2 w3 : World} {Z : an} {gq gz : Nat} {D : List Value} {t : TypeId} {p p' : Pn} {G G' bs bs' : List Int} {n n' : Int} {v gv bv v' gv' bv' : Value}
theorem QB.call{α:Type}{E:Elem α}{x:Value}{L:List α}(h:QB w0 Z gq gz D t p G bs n v gv bv w1)(hx:HeldE E (ZB (fun b=>((Z b\/w0.heap.size<=b)/\b≠gq/\b≠gz)/\b<w1.heap.size) w1 w2) w2 x L):HeldE E (fun b=>((Z b\/w0.heap.size<=b)/\b≠gq/\b≠gz)\/w1.heap.size<=b) w2 x L :=
 hx.zone fun b _ hz=>hz.imp And.left And.left
theorem ik{α:Type}{E:Elem α}{x:Value}{L:List α}(h:QB w0 Z gq gz D t p G bs n v gv bv w1)(hx:HeldE E (ZB (fun b=>((Z b\/w0.heap.size<=b)/\b≠gq/\b≠gz)/\b<w1.heap.size) w1 w2) w2 x L)(hu:Upd (fun b=>b=gz) w2 w3):HeldE E (ZB Z w0 w3) w3 x L :=
 ((jz h (h.call hx)).upd hu fun b hz e=>hz.2.2 e).zone fun b hb hz=>hz.1.imp id fun h=>⟨h,hb⟩
end
theorem kB(Z:an)(v gv bv:Value)(p:Pn)(G bs:List Int)(n:Int)(w:World)(wd ht:Nat)(hv:HeldE lineE Z w v p.L)(hg:HeldE (aE .i32) Z w gv G)(hb:HeldE (aE .u8) Z w bv bs)(hZ:∀ b,Z b->b<w.heap.size)(hs:eJ wd ht)(hp:PnOk wd ht p)(hn:G.length<=1000000)(hr:bI G)(Bn:okT G) :
  Calls Tryz.prog 36 #[.agg #[v,.int .i64 p.r,.int .i64 p.c,.bool p.pd,.bool p.au,gv,bv,.int .i64 n]] w (RFd Z w (bH wd p (bj G)) [] bs n):=by
 obtain ⟨W,hW,hq⟩:=gW Z w [.slice none 0 0,.int .i64 0,.int .i64 0,.bool false,.bool false,.slice none 0 0,.slice none 0 0,.int .i64 0] 66 p G bs n v gv bv hv hg hb hZ;obtain ⟨gq,BS⟩:=ae (w.heap.size);obtain ⟨gz,BU⟩:=ae (w.heap.size+1);rw [<-BU,<-BS] at hq;have HG:=ab (And.intro BS BU);have HQ:=ab hq;have Jl:=ab (nb _ v gv bv p G bs n W wd ht (cA hq.2.1) (cA hq.2.2.1) (cA hq.2.2.2.1) (fun b h=>h.2) hs hp hn hr Bn);obtain ⟨ao,ca,rfl⟩:=hv.len;obtain ⟨go',gk,rfl⟩:=hg.len;obtain ⟨bo,bk,rfl⟩:=hb.len;have hW2:W=(w.alloc (.cells #[.slice ao p.L.length ca,.int .i64 p.r,.int .i64 p.c,.bool p.pd,.bool p.au,.slice go' G.length gk,.slice bo bs.length bk,.int .i64 n] 66)).alloc (.cells #[.slice none 0 0,.int .i64 0,.int .i64 0,.bool false,.bool false,.slice none 0 0,.slice none 0 0,.int .i64 0] 66):=hW;obtain ⟨nL,CM⟩:=ae (p.L.length);obtain ⟨nG,CH⟩:=ae (G.length);obtain ⟨nB,CJ⟩:=ae (bs.length);have OW:=ab (And.intro CM (And.intro CH CJ));rw [<-CM,<-CH,<-CJ] at HQ hW2 ⊢;rw [<-CM,<-CH,<-CJ] at Jl;obtain ⟨r0',Kv⟩:=ae (p.r);obtain ⟨c0',hc0⟩:=ae (p.c);obtain ⟨pd0,LI⟩:=ae (p.pd);obtain ⟨au0,Lz⟩:=ae (p.au);obtain ⟨P,hP⟩:=ae (bH wd p (bj G));rw [<-hP] at Jl ⊢;obtain ⟨⟨L0,r0',c0',pd0,au0⟩,A6⟩ : ∃ q,q=p:=⟨_,rfl⟩;subst A6;obtain ⟨⟨PL,Pr',Pc',Ppd,Pau⟩,IK⟩ : ∃ q,q=P:=⟨_,rfl⟩;subst IK
 dsimp only at *
 clear hv hg hb hZ hs hp hn hr Bn BS BU hq CM CH CJ hW hP
 go_enter Tryz.func36,Tryz.ntmps36
 go_upto_region 1 with (fail)
 rw [<-hW2];clear hW2;rw [<-HG.out.2];rw [<-HG.out.1];have q0:=HQ.out.1.cell 0 _ rfl;have q1:=HQ.out.1.cell 1 _ rfl;have q2:=HQ.out.1.cell 2 _ rfl;have q3:=HQ.out.1.cell 3 _ rfl;have q4:=HQ.out.1.cell 4 _ rfl;have q5:=HQ.out.1.cell 5 _ rfl;have q6:=HQ.out.1.cell 6 _ rfl;have q7:=HQ.out.1.cell 7 _ rfl
 go_wp2_with fail
 refine Jl.out.mono ?_;rintro e w1 ⟨v',rfl,h1,b1⟩;obtain ⟨o1,k1,rfl⟩:=h1.len;obtain ⟨nP,J0⟩:=ae (PL.length);rw [<-J0] at h1 ⊢;have DD:=HQ.out.below b1;clear q0 q1 q2 q3 q4 q5 q6 q7;have q0:=DD.1.cell 0 _ rfl;have q1:=DD.1.cell 1 _ rfl;have q2:=DD.1.cell 2 _ rfl;have q3:=DD.1.cell 3 _ rfl;have q4:=DD.1.cell 4 _ rfl;have q5:=DD.1.cell 5 _ rfl;have q6:=DD.1.cell 6 _ rfl;have q7:=DD.1.cell 7 _ rfl;have f0:=DD.1.free 0;have f1:=DD.1.free 1;have f2:=DD.1.free 2;have f3:=DD.1.free 3;have f4:=DD.1.free 4;have f5:=DD.1.free 5;have f6:=DD.1.free 6;have f7:=DD.1.free 7;obtain ⟨w4,hw4⟩:=ae (((((((w1.setCell ⟨gq,0,none⟩ (.slice o1 nP k1)).setCell ⟨gq,1,none⟩ (.int .i64 Pr')).setCell ⟨gq,2,none⟩ (.int .i64 Pc')).setCell ⟨gq,3,none⟩ (.bool Ppd)).setCell ⟨gq,4,none⟩ (.bool Pau)).setCell ⟨gq,5,none⟩ (.slice none 0 0)));have DE:Upd (fun b=>b=gq) w1 w4:=by rw [hw4];exact (aT gq _ _ _ _ _).setCell (p:=⟨gq,5,none⟩) (.inl rfl) _
 have H4:=ab (QB.own (v':=.slice o1 nP k1) (gv':=.slice none 0 0) (bv':=.slice bo nB bk) (p':=⟨PL,Pr',Pc',Ppd,Pau⟩) (n':=n) (G':=[]) HQ.out b1 DE (by rw [hw4];exact (((((DD.1.set 0 _).set 1 _).set 2 _).set 3 _).set 4 _).set 5 _) (HQ.out.call h1) (HeldE.nil _ _ _) (QB.old HQ.out.2.2.2.1 b1));have Gc:=ab hw4;clear h1 b1 DD hw4 DE J0
 go_upto_region 3 with (fail)
 rw [<-Gc.out];clear q0 q1 q2 q3 q4 q5 q6 q7 f0 f1 f2 f3 f4 f5 f6 f7;have q0:=H4.out.1.cell 0 _ rfl;have q1:=H4.out.1.cell 1 _ rfl;have q2:=H4.out.1.cell 2 _ rfl;have q3:=H4.out.1.cell 3 _ rfl;have q4:=H4.out.1.cell 4 _ rfl;have q5:=H4.out.1.cell 5 _ rfl;have q6:=H4.out.1.cell 6 _ rfl;have q7:=H4.out.1.cell 7 _ rfl;have s0:=H4.out.2.2.2.2.1.cell 0 _ rfl;have s1:=H4.out.2.2.2.2.1.cell 1 _ rfl;have s2:=H4.out.2.2.2.2.1.cell 2 _ rfl;have s3:=H4.out.2.2.2.2.1.cell 3 _ rfl;have s4:=H4.out.2.2.2.2.1.cell 4 _ rfl;have s5:=H4.out.2.2.2.2.1.cell 5 _ rfl;have s6:=H4.out.2.2.2.2.1.cell 6 _ rfl;have s7:=H4.out.2.2.2.2.1.cell 7 _ rfl;have y0:=H4.out.2.2.2.2.1.free 0;have y1:=H4.out.2.2.2.2.1.free 1;have y2:=H4.out.2.2.2.2.1.free 2;have y3:=H4.out.2.2.2.2.1.free 3;have y4:=H4.out.2.2.2.2.1.free 4;have y5:=H4.out.2.2.2.2.1.free 5;have y6:=H4.out.2.2.2.2.1.free 6;have y7:=H4.out.2.2.2.2.1.free 7;obtain ⟨W5,AK⟩:=ae (((((((((w4.setCell ⟨gz,0,none⟩ (.slice o1 nP k1)).setCell ⟨gz,1,none⟩ (.int .i64 Pr')).setCell ⟨gz,2,none⟩ (.int .i64 Pc')).setCell ⟨gz,3,none⟩ (.bool Ppd)).setCell ⟨gz,4,none⟩ (.bool Pau)).setCell ⟨gz,5,none⟩ (.slice none 0 0)).setCell ⟨gz,6,none⟩ (.slice bo nB bk)).setCell ⟨gz,7,none⟩ (.int .i64 n)));have C0:=ab (QB.fin H4.out (show Upd (fun b=>b=gz) w4 W5 from by rw [AK];exact db w4 gz (.slice o1 nP k1) (.int .i64 Pr') (.int .i64 Pc') (.bool Ppd) (.bool Pau) (.slice none 0 0) (.slice bo nB bk) (.int .i64 n)));have Ba:=ab (show Has W5 gz [.slice o1 nP k1,.int .i64 Pr',.int .i64 Pc',.bool Ppd,.bool Pau,.slice none 0 0,.slice bo nB bk,.int .i64 n] 66 from by rw [AK];exact eD H4.out.2.2.2.2.1 (.slice o1 nP k1) (.int .i64 Pr') (.int .i64 Pc') (.bool Ppd) (.bool Pau) (.slice none 0 0) (.slice bo nB bk) (.int .i64 n));have Dk:=ab AK;clear AK;go_wp2;rw [<-Dk.out];have e0:=Ba.out.cell 0 _ rfl;have e1:=Ba.out.cell 1 _ rfl;have e2:=Ba.out.cell 2 _ rfl;have e3:=Ba.out.cell 3 _ rfl;have e4:=Ba.out.cell 4 _ rfl;have e5:=Ba.out.cell 5 _ rfl;have e6:=Ba.out.cell 6 _ rfl;have e7:=Ba.out.cell 7 _ rfl;exact bodyPost_ret (v:=.agg #[.slice o1 nP k1,.int .i64 Pr',.int .i64 Pc',.bool Ppd,.bool Pau,.slice none 0 0,.slice bo nB bk,.int .i64 n]) (by simp [results,Tryz.results36,go_sem,e0,e1,e2,e3,e4,e5,e6,e7]) rfl ⟨_,_,_,rfl,C0.out.1,C0.out.2.1,C0.out.2.2.1,C0.out.2.2.2⟩
theorem qb(Z:an)(v gv bv:Value)(p:Pn)(G bs:List Int)(n:Int)(w:World)(wd ht:Nat)(hv:HeldE lineE Z w v p.L)(hg:HeldE (aE .i32) Z w gv G)(hb:HeldE (aE .u8) Z w bv bs)(hZ:∀ b,Z b->b<w.heap.size)(hs:eJ wd ht)(hp:PnOk wd ht p)(hn:G.length<=999999)(hr:bI G)(Bn:okT G)(FV:bs.length<=1000000)(hbr:inBytes bs) :
  Calls Tryz.prog 35 #[.agg #[v,.int .i64 p.r,.int .i64 p.c,.bool p.pd,.bool p.au,gv,bv,.int .i64 n]] w (RFd Z w (bH wd p (bj (G++flT (aF st0 bs)))) [] [] 0):=by
 obtain ⟨W,hW,hq⟩:=gW Z w [.slice none 0 0,.int .i64 0,.int .i64 0,.bool false,.bool false,.slice none 0 0,.slice none 0 0,.int .i64 0] 66 p G bs n v gv bv hv hg hb hZ;obtain ⟨gq,BS⟩:=ae (w.heap.size);obtain ⟨gz,BU⟩:=ae (w.heap.size+1);rw [<-BU,<-BS] at hq;have HG:=ab (And.intro BS BU);have HQ:=ab hq;have FC:=ab (iV _ v gv bv p G bs n W (cA hq.2.1) (cA hq.2.2.1) (cA hq.2.2.2.1) FV hbr);have Gj:=ab (show ∀ (p':Pn) (Gx:List Int) (v' gv' bv':Value) (w':World) (Zx:an),PnOk wd ht p'->HeldE lineE Zx w' v' p'.L->HeldE (aE .i32) Zx w' gv' Gx->HeldE (aE .u8) Zx w' bv' []->(∀ b,Zx b->b<w'.heap.size)->Gx.length<=1000000->bI Gx->okT Gx->Calls Tryz.prog 36 #[.agg #[v',.int .i64 p'.r,.int .i64 p'.c,.bool p'.pd,.bool p'.au,gv',bv',.int .i64 0]] w' (RFd Zx w' (bH wd p' (bj Gx)) [] [] 0) from fun p' Gx v' gv' bv' w' Zx h0 h1 h2 h3 h4 h5 h6 h7=>kB Zx v' gv' bv' p' Gx [] 0 w' wd ht h1 h2 h3 h4 hs h0 h5 h6 h7);obtain ⟨ao,ca,rfl⟩:=hv.len;obtain ⟨go',gk,rfl⟩:=hg.len;obtain ⟨bo,bk,rfl⟩:=hb.len;have hW2:W=(w.alloc (.cells #[.slice ao p.L.length ca,.int .i64 p.r,.int .i64 p.c,.bool p.pd,.bool p.au,.slice go' G.length gk,.slice bo bs.length bk,.int .i64 n] 66)).alloc (.cells #[.slice none 0 0,.int .i64 0,.int .i64 0,.bool false,.bool false,.slice none 0 0,.slice none 0 0,.int .i64 0] 66):=hW;obtain ⟨nL,CM⟩:=ae (p.L.length);obtain ⟨nG,CH⟩:=ae (G.length);obtain ⟨nB,CJ⟩:=ae (bs.length);have OW:=ab (And.intro CM (And.intro CH CJ));rw [<-CM,<-CH,<-CJ] at HQ hW2 ⊢;rw [<-CM,<-CH,<-CJ] at FC;obtain ⟨r0',Kv⟩:=ae (p.r);obtain ⟨c0',hc0⟩:=ae (p.c);obtain ⟨pd0,LI⟩:=ae (p.pd);obtain ⟨au0,Lz⟩:=ae (p.au);have IC:=ab (And.intro hn (And.intro hr (And.intro Bn hp)));obtain ⟨s,hs0⟩:=ae (aF st0 bs);rw [<-hs0] at FC ⊢;obtain ⟨hc,Ph⟩:=ae (s.2.2);rw [<-Ph] at FC;have ML:=ab Ph;obtain ⟨RP,OX⟩:=ae (bH wd p (bj (G++flT s)));rw [<-OX];obtain ⟨⟨L0,r0',c0',pd0,au0⟩,A6⟩ : ∃ q,q=p:=⟨_,rfl⟩;subst A6
 dsimp only at *
 have LT:=ab OX;clear hv hg hb hZ hs hp hn hr Bn BS BU hq CM CH CJ hW hs0 Ph OX FV hbr
 go_enter Tryz.func35,Tryz.ntmps35
 go_upto_region 1 with (fail)
 rw [<-hW2];clear hW2;rw [<-HG.out.2];rw [<-HG.out.1]
 by_cases h0:0<hc
 ·have t1:decide ((0:Int)<hc)=true:=by rw [decide_eq_true_eq];exact h0
  have IU:=ab (show flT s=[65533] from by unfold flT;rw [<-ML.out,if_pos h0]);clear h0;have q0:=HQ.out.1.cell 0 _ rfl;have q1:=HQ.out.1.cell 1 _ rfl;have q2:=HQ.out.1.cell 2 _ rfl;have q3:=HQ.out.1.cell 3 _ rfl;have q4:=HQ.out.1.cell 4 _ rfl;have q5:=HQ.out.1.cell 5 _ rfl;have q6:=HQ.out.1.cell 6 _ rfl;have q7:=HQ.out.1.cell 7 _ rfl
  go_wp2_with fail
  refine FC.out.mono ?_;rintro e w1 ⟨rfl,b1⟩;have BM:=ab (HQ.out.below b1);have B1:=ab b1;clear b1 q0 q1 q2 q3 q4 q5 q6 q7;have q0:=BM.out.1.cell 0 _ rfl;have q1:=BM.out.1.cell 1 _ rfl;have q2:=BM.out.1.cell 2 _ rfl;have q3:=BM.out.1.cell 3 _ rfl;have q4:=BM.out.1.cell 4 _ rfl;have q5:=BM.out.1.cell 5 _ rfl;have q6:=BM.out.1.cell 6 _ rfl;have q7:=BM.out.1.cell 7 _ rfl;have J3:=lU _ (.slice ao nL ca) (.slice go' nG gk) (.slice bo nB bk) ⟨L0,r0',c0',pd0,au0⟩ G bs n 65533 w1 (cA BM.out.2.1) (cA BM.out.2.2.1) (cA BM.out.2.2.2.1) (fun b h=>h.2) (by have:=IC.out.1;omega);rw [show aS 65533=65533 from rfl] at J3;have HRN:=ab J3;clear J3
  go_wp2_with fail
  refine HRN.out.mono ?_;rintro e w2 ⟨v2,g2,x2,rfl,h1,h2,h3,b2⟩;obtain ⟨va,vk,rfl⟩:=h1.len;obtain ⟨ga,gk2,rfl⟩:=h2.len;obtain ⟨xa,xk,rfl⟩:=h3.len;obtain ⟨vn,hvn⟩:=ae ((⟨L0,r0',c0',pd0,au0⟩ : Pn).L.length);obtain ⟨gn,K8⟩:=ae ((G++[65533]).length);rw [<-hvn] at h1 ⊢;rw [<-K8] at h2 ⊢;have Au:=BM.out.below b2;clear q0 q1 q2 q3 q4 q5 q6 q7;have q0:=Au.1.cell 0 _ rfl;have q1:=Au.1.cell 1 _ rfl;have q2:=Au.1.cell 2 _ rfl;have q3:=Au.1.cell 3 _ rfl;have q4:=Au.1.cell 4 _ rfl;have q5:=Au.1.cell 5 _ rfl;have q6:=Au.1.cell 6 _ rfl;have q7:=Au.1.cell 7 _ rfl;have f0:=Au.1.free 0;have f1:=Au.1.free 1;have f2:=Au.1.free 2;have f3:=Au.1.free 3;have f4:=Au.1.free 4;have f5:=Au.1.free 5;have f6:=Au.1.free 6;have f7:=Au.1.free 7;obtain ⟨w4,hw4⟩:=ae (((((((((((w2.setCell ⟨gq,0,none⟩ (.slice va vn vk)).setCell ⟨gq,1,none⟩ (.int .i64 r0')).setCell ⟨gq,2,none⟩ (.int .i64 c0')).setCell ⟨gq,3,none⟩ (.bool pd0)).setCell ⟨gq,4,none⟩ (.bool au0)).setCell ⟨gq,5,none⟩ (.slice ga gn gk2)).setCell ⟨gq,6,none⟩ (.slice xa bs.length xk)).setCell ⟨gq,7,none⟩ (.int .i64 n)).setCell ⟨gq,6,none⟩ (.slice none 0 0)).setCell ⟨gq,7,none⟩ (.int .i64 0)));have DE:Upd (fun b=>b=gq) w2 w4:=by rw [hw4];exact ((db w2 gq _ _ _ _ _ _ _ _).setCell (p:=⟨gq,6,none⟩) (.inl rfl) _).setCell (p:=⟨gq,7,none⟩) (.inl rfl) _
  have H4:=ab (QB.own (v':=.slice va vn vk) (gv':=.slice ga gn gk2) (bv':=.slice none 0 0) (p':=⟨L0,r0',c0',pd0,au0⟩) (n':=0) (G':=G++[65533]) (bs':=[]) BM.out b2 DE (by rw [hw4];exact ((eD Au.1 _ _ _ _ _ _ _ _).set 6 _).set 7 _) (BM.out.call h1) (BM.out.call h2) (HeldE.nil _ _ _));have EG:=ab (show (G++[65533]).length<=1000000/\bI (G++[65533])/\okT (G++[65533]) from ⟨by rw [List.length_append];have:=IC.out.1;simp;omega,qa IC.out.2.1 (by decide),yr IC.out.2.2.1 rfl⟩);have Gc:=ab hw4;clear h1 h2 h3 b2 Au hw4 DE hvn K8
  go_upto_region 5 with (fail)
  rw [<-Gc.out];clear q0 q1 q2 q3 q4 q5 q6 q7 f0 f1 f2 f3 f4 f5 f6 f7;have q0:=H4.out.1.cell 0 _ rfl;have q1:=H4.out.1.cell 1 _ rfl;have q2:=H4.out.1.cell 2 _ rfl;have q3:=H4.out.1.cell 3 _ rfl;have q4:=H4.out.1.cell 4 _ rfl;have q5:=H4.out.1.cell 5 _ rfl;have q6:=H4.out.1.cell 6 _ rfl;have q7:=H4.out.1.cell 7 _ rfl;have OC:=ab (Gj.out ⟨L0,r0',c0',pd0,au0⟩ (G++[65533]) (.slice va vn vk) (.slice ga gn gk2) (.slice none 0 0) w4 _ IC.out.2.2.2 (cA H4.out.2.1) (cA H4.out.2.2.1) (cA H4.out.2.2.2.1) (fun b h=>h.2) EG.out.1 EG.out.2.1 EG.out.2.2)
  go_wp2_with fail
  refine OC.out.mono ?_;rintro e w5 ⟨v5,g5,x5,rfl,h1,h2,h3,b5⟩;obtain ⟨P,hP⟩:=ae (bH wd ⟨L0,r0',c0',pd0,au0⟩ (bj (G++[65533])));rw [<-hP] at h1 ⊢;have Pm:=ab (show RP=P from by rw [LT.out,IU.out,hP]);obtain ⟨⟨PL,Pr',Pc',Ppd,Pau⟩,IK⟩ : ∃ q,q=P:=⟨_,rfl⟩;subst IK
  dsimp only at *
  obtain ⟨va5,vk5,rfl⟩:=h1.len;obtain ⟨ga5,gk5,rfl⟩:=h2.len;obtain ⟨xa5,xk5,rfl⟩:=h3.len;obtain ⟨nP,J0⟩:=ae (PL.length);rw [<-J0] at h1 ⊢;have Cb:=(H4.out.below b5).2.2.2.2.1;clear q0 q1 q2 q3 q4 q5 q6 q7;have s0:=Cb.cell 0 _ rfl;have s1:=Cb.cell 1 _ rfl;have s2:=Cb.cell 2 _ rfl;have s3:=Cb.cell 3 _ rfl;have s4:=Cb.cell 4 _ rfl;have s5:=Cb.cell 5 _ rfl;have s6:=Cb.cell 6 _ rfl;have s7:=Cb.cell 7 _ rfl;have y0:=Cb.free 0;have y1:=Cb.free 1;have y2:=Cb.free 2;have y3:=Cb.free 3;have y4:=Cb.free 4;have y5:=Cb.free 5;have y6:=Cb.free 6;have y7:=Cb.free 7;obtain ⟨W5,AK⟩:=ae (((((((((w5.setCell ⟨gz,0,none⟩ (.slice va5 nP vk5)).setCell ⟨gz,1,none⟩ (.int .i64 Pr')).setCell ⟨gz,2,none⟩ (.int .i64 Pc')).setCell ⟨gz,3,none⟩ (.bool Ppd)).setCell ⟨gz,4,none⟩ (.bool Pau)).setCell ⟨gz,5,none⟩ (.slice ga5 0 gk5)).setCell ⟨gz,6,none⟩ (.slice xa5 0 xk5)).setCell ⟨gz,7,none⟩ (.int .i64 0)));have Gl:Upd (fun b=>b=gz) w5 W5:=by rw [AK];exact db w5 gz _ _ _ _ _ _ _ _
  have C0:=ab (And.intro (ik H4.out h1 Gl) (And.intro (ik H4.out h2 Gl) (And.intro (ik H4.out h3 Gl) ((H4.out.below b5).2.2.2.2.2.1.trans (Gl.below (H4.out.below b5).2.2.2.2.2.1.size fun b e=>by rw [e];exact H4.out.2.2.2.2.2.2.2.1)))));have Ba:=ab (show Has W5 gz [.slice va5 nP vk5,.int .i64 Pr',.int .i64 Pc',.bool Ppd,.bool Pau,.slice ga5 0 gk5,.slice xa5 0 xk5,.int .i64 0] 66 from by rw [AK];exact eD Cb _ _ _ _ _ _ _ _);have Dk:=ab AK;clear AK Gl Cb h1 h2 h3 b5 hP J0;go_wp2;rw [<-Dk.out];have e0:=Ba.out.cell 0 _ rfl;have e1:=Ba.out.cell 1 _ rfl;have e2:=Ba.out.cell 2 _ rfl;have e3:=Ba.out.cell 3 _ rfl;have e4:=Ba.out.cell 4 _ rfl;have e5:=Ba.out.cell 5 _ rfl;have e6:=Ba.out.cell 6 _ rfl;have e7:=Ba.out.cell 7 _ rfl;refine bodyPost_ret (v:=.agg #[.slice va5 nP vk5,.int .i64 Pr',.int .i64 Pc',.bool Ppd,.bool Pau,.slice ga5 0 gk5,.slice xa5 0 xk5,.int .i64 0]) (by simp [results,Tryz.results35,go_sem,e0,e1,e2,e3,e4,e5,e6,e7]) rfl ?_;rw [Pm.out];exact ⟨_,_,_,rfl,C0.out.1,C0.out.2.1,C0.out.2.2.1,C0.out.2.2.2⟩
 ·have t1:decide ((0:Int)<hc)=false:=by rw [decide_eq_false_iff_not];exact h0
  have IU:=ab (show flT s=[] from by unfold flT;rw [<-ML.out,if_neg h0]);clear h0;have q0:=HQ.out.1.cell 0 _ rfl;have q1:=HQ.out.1.cell 1 _ rfl;have q2:=HQ.out.1.cell 2 _ rfl;have q3:=HQ.out.1.cell 3 _ rfl;have q4:=HQ.out.1.cell 4 _ rfl;have q5:=HQ.out.1.cell 5 _ rfl;have q6:=HQ.out.1.cell 6 _ rfl;have q7:=HQ.out.1.cell 7 _ rfl
  go_wp2_with fail
  refine FC.out.mono ?_;rintro e w1 ⟨rfl,b1⟩;have BM:=ab (HQ.out.below b1);have B1:=ab b1;clear b1 q0 q1 q2 q3 q4 q5 q6 q7;have q0:=BM.out.1.cell 0 _ rfl;have q1:=BM.out.1.cell 1 _ rfl;have q2:=BM.out.1.cell 2 _ rfl;have q3:=BM.out.1.cell 3 _ rfl;have q4:=BM.out.1.cell 4 _ rfl;have q5:=BM.out.1.cell 5 _ rfl;have q6:=BM.out.1.cell 6 _ rfl;have q7:=BM.out.1.cell 7 _ rfl;have f0:=BM.out.1.free 0;have f1:=BM.out.1.free 1;have f2:=BM.out.1.free 2;have f3:=BM.out.1.free 3;have f4:=BM.out.1.free 4;have f5:=BM.out.1.free 5;have f6:=BM.out.1.free 6;have f7:=BM.out.1.free 7;obtain ⟨w4,hw4⟩:=ae (((w1.setCell ⟨gq,6,none⟩ (.slice none 0 0)).setCell ⟨gq,7,none⟩ (.int .i64 0)));have DE:Upd (fun b=>b=gq) w1 w4:=by rw [hw4];exact ((Upd.refl (fun b=>b=gq) w1).setCell (p:=⟨gq,6,none⟩) (.inl rfl) _).setCell (p:=⟨gq,7,none⟩) (.inl rfl) _
  have H4:=ab (QB.own (v':=.slice ao nL ca) (gv':=.slice go' nG gk) (bv':=.slice none 0 0) (p':=⟨L0,r0',c0',pd0,au0⟩) (n':=0) (G':=G) (bs':=[]) BM.out (Below.refl _ _) DE (by rw [hw4];exact (BM.out.1.set 6 _).set 7 _) (QB.old BM.out.2.1 (Below.refl _ _)) (QB.old BM.out.2.2.1 (Below.refl _ _)) (HeldE.nil _ _ _));have EG:=ab (show G.length<=1000000/\bI G/\okT G from ⟨by have:=IC.out.1;omega,IC.out.2.1,IC.out.2.2.1⟩);have Gc:=ab hw4;clear hw4 DE
  go_upto_region 5 with (fail)
  rw [<-Gc.out];clear q0 q1 q2 q3 q4 q5 q6 q7 f0 f1 f2 f3 f4 f5 f6 f7;have q0:=H4.out.1.cell 0 _ rfl;have q1:=H4.out.1.cell 1 _ rfl;have q2:=H4.out.1.cell 2 _ rfl;have q3:=H4.out.1.cell 3 _ rfl;have q4:=H4.out.1.cell 4 _ rfl;have q5:=H4.out.1.cell 5 _ rfl;have q6:=H4.out.1.cell 6 _ rfl;have q7:=H4.out.1.cell 7 _ rfl;have OC:=ab (Gj.out ⟨L0,r0',c0',pd0,au0⟩ G (.slice ao nL ca) (.slice go' nG gk) (.slice none 0 0) w4 _ IC.out.2.2.2 (cA H4.out.2.1) (cA H4.out.2.2.1) (cA H4.out.2.2.2.1) (fun b h=>h.2) EG.out.1 EG.out.2.1 EG.out.2.2)
  go_wp2_with fail
  refine OC.out.mono ?_;rintro e w5 ⟨v5,g5,x5,rfl,h1,h2,h3,b5⟩;obtain ⟨P,hP⟩:=ae (bH wd ⟨L0,r0',c0',pd0,au0⟩ (bj G));rw [<-hP] at h1 ⊢;have Pm:=ab (show RP=P from by rw [LT.out,IU.out,hP];rw [List.append_nil]);obtain ⟨⟨PL,Pr',Pc',Ppd,Pau⟩,IK⟩ : ∃ q,q=P:=⟨_,rfl⟩;subst IK
  dsimp only at *
  obtain ⟨va5,vk5,rfl⟩:=h1.len;obtain ⟨ga5,gk5,rfl⟩:=h2.len;obtain ⟨xa5,xk5,rfl⟩:=h3.len;obtain ⟨nP,J0⟩:=ae (PL.length);rw [<-J0] at h1 ⊢;have Cb:=(H4.out.below b5).2.2.2.2.1;clear q0 q1 q2 q3 q4 q5 q6 q7;have s0:=Cb.cell 0 _ rfl;have s1:=Cb.cell 1 _ rfl;have s2:=Cb.cell 2 _ rfl;have s3:=Cb.cell 3 _ rfl;have s4:=Cb.cell 4 _ rfl;have s5:=Cb.cell 5 _ rfl;have s6:=Cb.cell 6 _ rfl;have s7:=Cb.cell 7 _ rfl;have y0:=Cb.free 0;have y1:=Cb.free 1;have y2:=Cb.free 2;have y3:=Cb.free 3;have y4:=Cb.free 4;have y5:=Cb.free 5;have y6:=Cb.free 6;have y7:=Cb.free 7;obtain ⟨W5,AK⟩:=ae (((((((((w5.setCell ⟨gz,0,none⟩ (.slice va5 nP vk5)).setCell ⟨gz,1,none⟩ (.int .i64 Pr')).setCell ⟨gz,2,none⟩ (.int .i64 Pc')).setCell ⟨gz,3,none⟩ (.bool Ppd)).setCell ⟨gz,4,none⟩ (.bool Pau)).setCell ⟨gz,5,none⟩ (.slice ga5 0 gk5)).setCell ⟨gz,6,none⟩ (.slice xa5 0 xk5)).setCell ⟨gz,7,none⟩ (.int .i64 0)));have Gl:Upd (fun b=>b=gz) w5 W5:=by rw [AK];exact db w5 gz _ _ _ _ _ _ _ _
  have C0:=ab (And.intro (ik H4.out h1 Gl) (And.intro (ik H4.out h2 Gl) (And.intro (ik H4.out h3 Gl) ((H4.out.below b5).2.2.2.2.2.1.trans (Gl.below (H4.out.below b5).2.2.2.2.2.1.size fun b e=>by rw [e];exact H4.out.2.2.2.2.2.2.2.1)))));have Ba:=ab (show Has W5 gz [.slice va5 nP vk5,.int .i64 Pr',.int .i64 Pc',.bool Ppd,.bool Pau,.slice ga5 0 gk5,.slice xa5 0 xk5,.int .i64 0] 66 from by rw [AK];exact eD Cb _ _ _ _ _ _ _ _);have Dk:=ab AK;clear AK Gl Cb h1 h2 h3 b5 hP J0;go_wp2;rw [<-Dk.out];have e0:=Ba.out.cell 0 _ rfl;have e1:=Ba.out.cell 1 _ rfl;have e2:=Ba.out.cell 2 _ rfl;have e3:=Ba.out.cell 3 _ rfl;have e4:=Ba.out.cell 4 _ rfl;have e5:=Ba.out.cell 5 _ rfl;have e6:=Ba.out.cell 6 _ rfl;have e7:=Ba.out.cell 7 _ rfl;refine bodyPost_ret (v:=.agg #[.slice va5 nP vk5,.int .i64 Pr',.int .i64 Pc',.bool Ppd,.bool Pau,.slice ga5 0 gk5,.slice xa5 0 xk5,.int .i64 0]) (by simp [results,Tryz.results35,go_sem,e0,e1,e2,e3,e4,e5,e6,e7]) rfl ?_;rw [Pm.out];exact ⟨_,_,_,rfl,C0.out.1,C0.out.2.1,C0.out.2.2.1,C0.out.2.2.2⟩
end
theorem xg{xs:List Int}(h0:xs≠[])(ho:bT xs=false):bL ((aU xs).getD 0 0)=true:=by
 rcases eh xs with rfl | ⟨ys,r,rfl⟩
 ·exact absurd rfl h0
 ·have hr:bL r=true:=by rw [cI] at ho;simpa using ho
  cases hj:dw ys r with
  | false=>rw [(eZ hj).2];exact hr
  | true=>rw [(fH hj).2,(oE hr hj).1];rfl
theorem ue{xs:List Int}(h0:xs≠[]):(bj xs).length≠0/\(bj xs).getD ((bj xs).length - 1) []=aU xs:=by
 rw [gY h0];refine ⟨by simp,?_⟩;rw [List.length_append,List.length_singleton,Nat.add_sub_cancel];exact kV _ _ _
theorem rx(Z:an)(v gv bv:Value)(p:Pn)(G bs:List Int)(n:Int)(w:World)(hv:HeldE lineE Z w v p.L)(hg:HeldE (aE .i32) Z w gv G)(hb:HeldE (aE .u8) Z w bv bs)(hZ:∀ b,Z b->b<w.heap.size)(hn:G.length<=1000000)(hr:bI G)(Bn:okT G) :
  Calls Tryz.prog 39 #[.agg #[v,.int .i64 p.r,.int .i64 p.c,.bool p.pd,.bool p.au,gv,bv,.int .i64 n]] w (fun e w'=>∃ x,e=.returned x/\HeldE (aE .i32) (fun _=>True) w' x (eI G)/\Below w.heap.size w w'):=by
 obtain ⟨ao,ca,rfl⟩:=hv.len;obtain ⟨bo,bk,rfl⟩:=hb.len;have hb0:=zI w (.cells [Value.slice ao p.L.length ca,.int .i64 p.r,.int .i64 p.c,.bool p.pd,.bool p.au,gv,.slice bo bs.length bk,.int .i64 n].toArray 66);have Du:=Has.new w [Value.slice ao p.L.length ca,.int .i64 p.r,.int .i64 p.c,.bool p.pd,.bool p.au,gv,.slice bo bs.length bk,.int .i64 n] 66;have FL:=ab (mv Z gv G _ (hg.below hb0) hn hr);obtain ⟨go',gk,rfl⟩:=hg.len;obtain ⟨W,hW⟩:=ae (w.alloc (.cells [Value.slice ao p.L.length ca,.int .i64 p.r,.int .i64 p.c,.bool p.pd,.bool p.au,.slice go' G.length gk,.slice bo bs.length bk,.int .i64 n].toArray 66));rw [<-hW] at hb0 Du FL;obtain ⟨nL,CM⟩:=ae (p.L.length);obtain ⟨nG,CH⟩:=ae (G.length);obtain ⟨nB,CJ⟩:=ae (bs.length);rw [<-CM,<-CH,<-CJ] at hW Du;rw [<-CH] at FL;rw [<-CM,<-CH,<-CJ];have hW2:W=w.alloc (.cells #[.slice ao nL ca,.int .i64 p.r,.int .i64 p.c,.bool p.pd,.bool p.au,.slice go' nG gk,.slice bo nB bk,.int .i64 n] 66):=hW;obtain ⟨gq,BS⟩:=ae (w.heap.size);rw [<-BS] at Du;have Kj:=ab BS;have HB:=ab hb0;have HN:=ab Du;have HOK:=ab (And.intro hn (And.intro hr Bn));clear hv hg hb hn hr Bn hb0 Du hW BS CM CH CJ
 go_enter Tryz.func39,Tryz.ntmps39
 go_upto_region 1 with (fail)
 rw [<-hW2];clear hW2;rw [<-Kj.out];have q5:=HN.out.cell 5 _ rfl
 go_wp2_with fail
 refine FL.out.mono ?_;rintro e w1 ⟨cv,rfl,AA,b1⟩;have DV:HeldE rowE (fun b=>W.heap.size<=b) w1 cv (bj G):=AA.held fun b hb _=>hb
 have hmx:=DV.max;obtain ⟨co,cc,rfl⟩:=DV.len;have B1:=ab (HB.out.trans (b1.mono HB.out.size));clear q5 AA b1 FL
 by_cases h0:G=[]
 ·have he:eI G=[]:=by rw [h0];rfl
  have hm:(bj G).length=0:=by rw [h0];rfl
  rw [hm];have M9:=ab he;clear DV hmx he hm h0;go_wp2;go_ret;exact ⟨_,af,by rw [M9.out];exact HeldE.nil _ _ _,B1.out⟩
 ·obtain ⟨hc0,DG⟩:=ue h0;obtain ⟨m,hm⟩:=ae ((bj G).length);rw [<-hm] at DV hc0 DG ⊢;have Gk:=kd DV;obtain ⟨bc,oc,tv,rfl,_,hcell,Dw⟩:=Gk.2.2 (m - 1) (by rw [<-hm];omega);have hmc:=Gk.2.1;rw [DG] at Dw;obtain ⟨t,ht⟩:=ae (aU G);rw [<-ht] at Dw;have Hg:t ∈ bj G:=by rw [ht,gY h0];simp
  have DI:=qd t Hg;obtain ⟨ta,tk,rfl⟩:=Dw.len;have MF:=(eY Dw).2.1;obtain ⟨bt,ot,rfl,_,hc1⟩:=(eY Dw).2.2 0 DI.1;rw [Nat.add_zero] at hc1;obtain ⟨tn,EM⟩:=ae (t.length);obtain ⟨q0,Jh⟩:=ae (t.getD 0 0);rw [<-Jh] at hc1;have hz:((m:Int) == 0)=false:=by rw [beq_eq_false_iff_ne];omega
  obtain ⟨k,hk⟩:=ae (m - 1);rw [<-hk] at hcell;have BH:IntKind.i64.wrap ((m:Int) - 1)=(k:Int):=by
   unfold maxLen at hmx;rw [IntKind.wrap_i64];omega
  have hkm:(k:Int)<(m:Int):=by omega
  have hkmn:k<m:=by omega
  have hkcc:k<cc:=by omega
  have NY:=ab (show ∀ w',Below w1.heap.size w1 w'->Calls Tryz.prog 92 #[.slice (some ⟨bt,ot,none⟩) tn tk] w' (iI 21 .i32 w' (t.take 16)) from fun w' h=>by rw [EM];exact iW (fun b=>b<w'.heap.size) _ t w' ((Dw.below h).zone fun b hb _=>hb) (fun _ h=>h) DI.1 (by have:=HOK.out.1;omega));have HCE:=ab (show ∀ w',Below w1.heap.size w1 w'->w'.cell? ⟨bc,oc+k,none⟩=some (.slice (some ⟨bt,ot,none⟩) tn tk)/\w'.cell? ⟨bt,ot,none⟩=some (.int .i32 q0) from fun w' h=>by
   have hh:=Dw.below h;have hr2:=kd (DV.below h);obtain ⟨b2,o2,v2,e2,hb2,_,_⟩:=Gk.2.2 (m - 1) (by rw [<-hm];omega)
   cases e2
   obtain ⟨b3,o3,e3,hb3,_⟩:=(eY Dw).2.2 0 DI.1
   cases e3
   exact ⟨(h.cell (p:=⟨bc,oc+k,none⟩) hb2).trans (by rw [hcell,EM]),(h.cell (p:=⟨bt,ot,none⟩) hb3).trans hc1⟩)
  have Pc:tn<=tk:=by omega
  have htn0:0<tn:=by omega
  have htni:(0:Int)<(tn:Int):=by omega
  have ED:=ab (fun w'=>ek q0 w');have Lo:=ab (show (bL q0=true->eI G=[])/\(bL q0=false->eI G=t.take 16) from by
   constructor
   ·intro e;unfold eI
    cases ho:bT G with
    | false=>rfl
    | true=>have:=(jL _ G rfl ho).1;rw [<-ht,<-Jh,e] at this;cases this
   ·intro e;unfold eI
    cases ho:bT G with
    | true=>rw [if_pos rfl,<-ht];exact (r6 HOK.out.2.2 t Hg).num
    | false=>have:=xg h0 ho;rw [<-ht,<-Jh,e] at this;cases this)
  clear DV Gk DG hcell Dw ht Hg DI MF hc1 EM Jh hk hmx hm h0 hc0;obtain ⟨c0,c1⟩:=HCE.out w1 (Below.refl _ _)
  cases BV:bL q0 with
  | true =>
   have hop:=Lo.out.1 BV;have M9:=ab hop;have HS:=ab (show ∀ w',Calls Tryz.prog 91 #[.int .i32 q0] w' (Gives w' (.bool true)) from fun w'=>by have h:=ED.out w';rw [BV] at h;exact h);clear BV hop Lo ED
   go_wp2_with fail
   refine (HS.out _).mono ?_;rintro e w2 ⟨rfl,b2⟩;have B2:=ab (B1.out.trans (b2.mono B1.out.size));clear b2;go_wp2;go_ret;exact ⟨_,af,by rw [M9.out];exact HeldE.nil _ _ _,B2.out⟩
  | false =>
   have hop:=Lo.out.2 BV;obtain ⟨T,hT⟩:=ae (t.take 16);rw [<-hT] at NY hop;have M9:=ab hop;have HS:=ab (show ∀ w',Calls Tryz.prog 91 #[.int .i32 q0] w' (Gives w' (.bool false)) from fun w'=>by have h:=ED.out w';rw [BV] at h;exact h);clear BV hop Lo ED hT
   go_wp2_with fail
   refine (HS.out _).mono ?_;rintro e w2 ⟨rfl,b2⟩;have B2:=ab (B1.out.trans (b2.mono B1.out.size));have HF:=ab (NY.out w2 b2);obtain ⟨d0,d1⟩:=HCE.out w2 b2;clear b2 c0 c1
   go_wp2_with fail
   refine HF.out.mono ?_;rintro e w3 ⟨v3,rfl,DH,b3⟩;have HZ:=ab (And.intro ((HeldE.ownedInts DH).zone (Y:=fun _=>True) fun _ _ _=>trivial) (B2.out.trans (b3.mono B2.out.size)));clear DH b3;go_wp2;go_ret;exact ⟨_,af,by rw [M9.out];exact HZ.out.1,HZ.out.2⟩
section
variable {Xo : an}
section
variable {n : Nat} {w w1 : World} {gp gg gr wd gf : Nat} {R : List Rw} {op : Option Nat} {p p2 : Pn} {xs ys : List Int} {s t : St}
def FOn(Xo:an)(n:Nat)(w:World)(gp gg gr wd gf:Nat)(R:List Rw)(p:Pn)(xs:List Int)(s:St)(op:Option Nat):Prop:=FAt Xo w n gp gg gr wd gf R p xs s op/\n<=gf/\(∀ g,op=some g->n<=g)/\n<=w.heap.size
theorem rE(h:FOn Xo n w gp gg gr wd gf R p xs s op)(b:Nat)(hb:FW w gp gr gf R op b):n<=b:=by
 obtain ⟨h1,h2,h3,h4⟩:=h
 rcases hb with (e | e) | e
 ·obtain ⟨_,_,hp⟩:=h1.2.pen;exact yE hp.any h4 b e
 ·exact h3 b e
 ·rw [e];exact h2
theorem FOn.below(h:FOn Xo n w gp gg gr wd gf R p xs s op)(hb:Below w.heap.size w w1):FOn Xo n w1 gp gg gr wd gf R p xs s op:=⟨h.1.below hb,h.2.1,h.2.2.1,Nat.le_trans h.2.2.2 hb.size⟩
theorem FOn.go(h:FOn Xo n w gp gg gr wd gf R p xs s op)(k:FGo Xo w n gp gg gr wd gf R op p2 ys t w1):∃ R' op',FOn Xo n w1 gp gg gr wd gf R' p2 ys t op'/\Upd (FW w gp gr gf R op) w w1/\Below n w w1/\RowsFrom w R R'/\∀ g,op'=some g->op=some g\/w.heap.size<=g:=by
 obtain ⟨R',op',k1,k2,k3,k4⟩:=k;refine ⟨R',op',⟨k1,h.2.1,fun g e=>?_,Nat.le_trans h.2.2.2 k2.size⟩,k2,k2.below h.2.2.2 (rE h),k3,k4⟩
 rcases k4 g e with e | e
 ·exact h.2.2.1 g e
 ·exact Nat.le_trans h.2.2.2 e
theorem FOn.made{k:IntKind}(h:FOn Xo n w gp gg gr wd gf R p xs s op){v:Value}{L:List Int}(hv:HeldE (aE k) (fun b=>w.heap.size<=b) w1 v L):HeldE (aE k) (fun b=>¬ FW w1 gp gr gf R op b) w1 v L:=hv.zone fun b hb hz=>iX h.1 hz hb
end
def fk0:Pn:=⟨List.replicate 1 (List.replicate 3 zc,false),0,0,false,true⟩
def fkS(k:Nat):St:=if k=0 then st0 else if k=1 then aF st0 [101] else if k=2 then aF (aF st0 [101]) [204] else aF (aF (aF st0 [101]) [204]) [129]
def fkX:List Int:=(([]++aA st0 [101])++aA (fkS 1) [204])++aA (fkS 2) [129]
theorem fk_1:fkX=[101,769]/\(fkS 3).2.2=0:=by decide +kernel
theorem zB:eI [101,769]=[101,769]:=by decide +kernel
theorem fk_3:((bH 3 fk0 (bj [101,769])).L.getD 0 zl).1.getD 0 zc=(1,[101,769])/\(bH 3 fk0 (bj [101,769])).L.length=1:=by decide +kernel
theorem us:wfS st0:=pZ
theorem ut:wfS (fkS 1):=jx _ _ us (by decide)
theorem yJ:wfS (fkS 2):=jx _ _ ut (by decide)
theorem yK(x:Int)(h0:0<=x)(h1:x<=255):inBytes [x]:=by
 intro i hi;have:i=0:=by simpa using hi
 subst this;exact ⟨h0,h1⟩
theorem gG(w:World):Calls Tryz.prog 30 #[] w (Yes w):=by
 have OH:=ab (pw 3 1 w);rw [show da 3=3 from rfl,show da 1=1 from rfl] at OH
 go_enter Tryz.func30,Tryz.ntmps30
 go_wp2_with fail
 refine OH.out.mono ?_;rintro e w1 ⟨gp,gg,gr,R0,rfl,h1,b1⟩;have J8:=ab (oB (p:=fk0) h1);have B1:=ab b1;clear h1 b1 OH
 go_wp2_with fail
 refine J8.out.mono ?_;rintro e w2 ⟨gf,rfl,hg,h2,b2⟩;have k2:FOn (fun _=>True) w.heap.size w2 gp gg gr 3 gf R0 fk0 [] st0 none:=⟨h2,Nat.le_trans B1.out.size hg,(fun g e=>by cases e),Nat.le_trans B1.out.size b2.size⟩;have B2:=ab (B1.out.trans (b2.mono B1.out.size));have hb:=zI w2 (.cells [Value.int .u8 101].toArray 5);have ht:=aO (w:=w2) (ty:=5) (E:=aE .u8) (Y:=fun _=>False) (Z:=fun b=>w2.heap.size<=b) [.int .u8 101] 101 rfl (fun _ _ h=>h.elim) (Nat.le_refl _);have HP:=ab (fV w.heap.size gp gg gr 3 gf R0 fk0 [] st0 none _ [101] _ (k2.below hb).1 us (k2.made ht) (yK 101 (by decide) (by decide)));have H2:=ab (k2.below hb);replace B2:=ab (B2.out.trans (hb.mono B2.out.size));clear h2 b2 hb ht k2 J8 B1 hg
 go_wp2_with fail
 refine HP.out.mono ?_;rintro e w3 ⟨rfl,kg⟩;obtain ⟨R3,op3,k3,_,b3,_⟩:=H2.out.go kg;have B3:=ab (B2.out.trans b3);have hb:=zI w3 (.cells [Value.int .u8 204].toArray 5);have ht:=aO (w:=w3) (ty:=5) (E:=aE .u8) (Y:=fun _=>False) (Z:=fun b=>w3.heap.size<=b) [.int .u8 204] 204 rfl (fun _ _ h=>h.elim) (Nat.le_refl _);have HP:=ab (fV w.heap.size gp gg gr 3 gf R3 fk0 _ (fkS 1) op3 _ [204] _ (k3.below hb).1 ut (k3.made ht) (yK 204 (by decide) (by decide)));have H3:=ab (k3.below hb);replace B3:=ab (B3.out.trans (hb.mono B3.out.size));clear kg b3 hb ht k3 B2 H2
 go_wp2_with fail
 refine HP.out.mono ?_;rintro e w4 ⟨rfl,kg⟩;obtain ⟨R4,op4,k4,_,b4,_⟩:=H3.out.go kg;have B4:=ab (B3.out.trans b4);have hb:=zI w4 (.cells [Value.int .u8 129].toArray 5);have ht:=aO (w:=w4) (ty:=5) (E:=aE .u8) (Y:=fun _=>False) (Z:=fun b=>w4.heap.size<=b) [.int .u8 129] 129 rfl (fun _ _ h=>h.elim) (Nat.le_refl _);have HP:=ab (fV w.heap.size gp gg gr 3 gf R4 fk0 _ (fkS 2) op4 _ [129] _ (k4.below hb).1 yJ (k4.made ht) (yK 129 (by decide) (by decide)));have H4:=ab (k4.below hb);replace B4:=ab (B4.out.trans (hb.mono B4.out.size));clear kg b4 hb ht k4 B3 H3
 go_wp2_with fail
 refine HP.out.mono ?_;rintro e w5 ⟨rfl,kg⟩;obtain ⟨R5,op5,k5,_,b5,_⟩:=H4.out.go kg;have k5:FOn (fun _=>True) w.heap.size w5 gp gg gr 3 gf R5 fk0 fkX (fkS 3) op5:=k5;rw [fk_1.1] at k5;have B5:=ab (B4.out.trans b5);obtain ⟨Yo,_,FF⟩:=k5.1.2.pen;have z0:=FF.1.cell 0 _ rfl;have CK:=FF.sizes.2.2.2.2.1;have hrl2:R5.length=1:=by rw [CK];exact fk_3.2
 have hrow:=FF.2.2.1.row (i:=0) (by omega);have Cc:=(jm FF.2.2.2 0 (by omega)).1;have hlen:(R5.getD 0 r0).L.length=3:=by rw [Cc];exact FF.sizes.2.2.2.2.2 0 (by rw [fk_3.2];decide)
 have Ju:=ab (ie w.heap.size gg gr 3 R5 0 _ FF.2.2.1 (by omega));have HC:=ab (show Calls Tryz.prog 85 #[.pointer (some ⟨(R5.getD 0 r0).g,0,none⟩),.int .i64 0] w5 (fun e w'=>∃ tv,e=.returned (.tuple #[.agg #[.int .i64 1,tv],.bool true])/\HeldE (aE .i32) (fun b=>w5.heap.size<=b) w' tv [101,769]/\Below w5.heap.size w5 w') from by
  have hx:=vP _ _ _ _ _ _ 0 _ hrow (by rw [hlen];decide);rw [Cc,fk_3.1] at hx;exact hx)
 have H5:=ab k5;obtain ⟨gk,IQ⟩:=ae ((R5.getD 0 r0).g);rw [<-IQ] at Ju HC;clear kg b5 hrow Cc hlen CK hrl2 FF IQ k5 B4 H4 HP
 go_wp2_with fail
 refine Ju.out.mono ?_;rintro e wz ⟨rfl,rfl⟩
 go_wp2_with fail
 refine HC.out.mono ?_;rintro e w6 ⟨tv,rfl,h6,b6⟩;obtain ⟨ta,tc,e6⟩:=h6.len;rw [show ([101,769]:List Int).length=2 from rfl] at e6;subst e6;have B6:=ab (B5.out.trans (b6.mono B5.out.size));have H6:=ab (H5.out.below b6);have HT:=ab h6.ints;clear b6 h6 B5 H5 HC Ju
 go_upto_region 9 with (fail)
 obtain ⟨W7,KM⟩:=ae (w6.alloc (.cells #[.int .i64 1,.slice ta 2 tc] 147));rw [<-KM];have hb:Below w6.heap.size w6 W7:=by rw [KM];exact zI w6 _
 have hit:Has W7 w6.heap.size [.int .i64 1,.slice ta 2 tc] 147:=by rw [KM];exact Has.new w6 _ _
 have c1:=hit.cell 1 _ rfl;have KX:=zI W7 (.cells [Value.int .i32 101,Value.int .i32 769].toArray 21);have H8:=ab ((H6.out.below hb).below KX);have B8:=ab ((B6.out.trans (hb.mono B6.out.size)).trans (KX.mono (Nat.le_trans B6.out.size hb.size)));have HS:=ab (ly _ _ [101,769] [101,769] _ ((HT.out.below hb).below KX) (fJ .i32 W7 [Value.int .i32 101,Value.int .i32 769] 21 2 2 [101,769] rfl rfl) (by decide));rw [lx] at HS;have HH:=ab (fun w' (b:Below _ _ w')=>(ml (H8.out.below b).1));have HO:=ab (fun w' (b:Below _ _ w')=>(mm (H8.out.below b).1));rw [fk_1.2] at HH;rw [zB] at HO;clear KM hb hit KX H6 B6 HT
 go_wp2_with fail
 refine HS.out.mono ?_;rintro e wa ⟨rfl,ba⟩
 go_wp2_with fail
 refine (HH.out _ ba).mono ?_;rintro e wb ⟨rfl,rfl⟩
 go_wp2_with fail
 refine (HO.out _ ba).mono ?_;rintro e wc ⟨v,rfl,hv,bc⟩;obtain ⟨va,vc,rfl⟩:=hv.len;have HB:=ab ((B8.out.trans (ba.mono B8.out.size)).trans (bc.mono (Nat.le_trans B8.out.size ba.size)));clear hv bc ba;go_wp2;go_ret;exact ⟨af,HB.out⟩
end
end Go.Proofs.YtoeggiplcaegoaaGreatDoor
