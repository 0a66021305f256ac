import Derived.Test.YtoeggiplcaegoaaGreatDoorZ0
import Derived.Test.YtoeggiplcaegoaaGreatDoorFedR
import Derived.Test.YtoeggiplcaegoaaGreatDoorMg3
import Derived.Test.YtoeggiplcaegoaaGreatDoorMg1
import Derived.Test.YtoeggiplcaegoaaGreatDoorMg9
set_option maxRecDepth 100000
set_option linter.unusedVariables false
set_option linter.unusedSimpArgs false
set_option maxHeartbeats 4000000
namespace Go.Proofs.YtoeggiplcaegoaaGreatDoor
open Go.RowKit Go.ChangeShapes Go.WideShapes
section
def ZB(Z:an)(w w':World):an:=fun b=>Z b\/(w.heap.size<=b/\b<w'.heap.size)
def RFd(Z:an)(w:World)(p:Pn)(G bs:List Int)(n:Int)(e:Ending)(w':World):Prop :=
 ∃ v gv bv,e=.returned (.agg #[v,.int .i64 p.r,.int .i64 p.c,.bool p.pd,.bool p.au,gv,bv,.int .i64 n])/\HeldE lineE (ZB Z w w') w' v p.L/\HeldE (aF .i32) (ZB Z w w') w' gv G/\HeldE (aF .u8) (ZB Z w w') w' bv bs/\Below w.heap.size w w'
def QB(w0:World)(Z:an)(gq gz:Nat)(D:List Value)(t:TypeId)(p:Pn)(G bs:List Int)(n:Int)(v gv bv:Value)(w':World):Prop :=
 Has w' gq [v,.int .i64 p.r,.int .i64 p.c,.bool p.pd,.bool p.au,gv,bv,.int .i64 n] 66/\HeldE lineE (fun b=>(Z b\/w0.heap.size<=b)/\b≠gq/\b≠gz) w' v p.L/\HeldE (aF .i32) (fun b=>(Z b\/w0.heap.size<=b)/\b≠gq/\b≠gz) w' gv G/\HeldE (aF .u8) (fun b=>(Z b\/w0.heap.size<=b)/\b≠gq/\b≠gz) w' bv bs/\Has w' gz D t/\Below w0.heap.size w0 w'/\w0.heap.size<=gq/\w0.heap.size<=gz/\gq≠gz
section
variable {w0 w1 w2 w3 : World} {Z : an} {gq gz : Nat} {D : List Value} {t : TypeId} {p p' : Pn} {G G' bs bs' : List Int} {n n' : Int} {v gv bv v' gv' bv' : Value}
theorem QB.below(h:QB w0 Z gq gz D t p G bs n v gv bv w1)(hb:Below w1.heap.size w1 w2):QB w0 Z gq gz D t p G bs n v gv bv w2 :=
 ⟨h.1.below hb h.1.lt,h.2.1.below hb,h.2.2.1.below hb,h.2.2.2.1.below hb,h.2.2.2.2.1.below hb h.2.2.2.2.1.lt,h.2.2.2.2.2.1.trans (hb.mono h.2.2.2.2.2.1.size),h.2.2.2.2.2.2⟩
theorem lf{α:Type}{E:Elem α}{x:Value}{L:List α}(h:QB w0 Z gq gz D t p G bs n v gv bv w1)(hx:HeldE E (fun b=>((Z b\/w0.heap.size<=b)/\b≠gq/\b≠gz)\/w1.heap.size<=b) w2 x L):HeldE E (fun b=>(Z b\/w0.heap.size<=b)/\b≠gq/\b≠gz) w2 x L :=
 hx.zone fun b _ hz=>by
  have l1:=h.1.lt;have l2:=h.2.2.2.2.1.lt;have l3:=h.2.2.2.2.2.1.size
  rcases hz with hz | hz
  ·exact hz
  ·exact ⟨.inr (by omega),by omega,by omega⟩
theorem QB.own(h:QB w0 Z gq gz D t p G bs n v gv bv w1)(hb:Below w1.heap.size w1 w2)(hu:Upd (fun b=>b=gq) w2 w3)(hh:Has w3 gq [v',.int .i64 p'.r,.int .i64 p'.c,.bool p'.pd,.bool p'.au,gv',bv',.int .i64 n'] 66)
  (hv:HeldE lineE (fun b=>((Z b\/w0.heap.size<=b)/\b≠gq/\b≠gz)\/w1.heap.size<=b) w2 v' p'.L) (hg:HeldE (aF .i32) (fun b=>((Z b\/w0.heap.size<=b)/\b≠gq/\b≠gz)\/w1.heap.size<=b) w2 gv' G') (De:HeldE (aF .u8) (fun b=>((Z b\/w0.heap.size<=b)/\b≠gq/\b≠gz)\/w1.heap.size<=b) w2 bv' bs') :
  QB w0 Z gq gz D t p' G' bs' n' v' gv' bv' w3:=by
 have h2:=h.below hb;exact ⟨hh,(lf h hv).upd hu fun b hz e=>hz.2.1 e,(lf h hg).upd hu fun b hz e=>hz.2.1 e,(lf h De).upd hu fun b hz e=>hz.2.1 e,hu.keep.has h2.2.2.2.2.1 (fun e=>h.2.2.2.2.2.2.2.2 e.symm),h2.2.2.2.2.2.1.trans (hu.below h2.2.2.2.2.2.1.size fun b e=>by rw [e];exact h.2.2.2.2.2.2.1),h.2.2.2.2.2.2⟩
theorem QB.old{α:Type}{E:Elem α}{x:Value}{L:List α}(hx:HeldE E (fun b=>(Z b\/w0.heap.size<=b)/\b≠gq/\b≠gz) w1 x L)(hb:Below w1.heap.size w1 w2):HeldE E (fun b=>((Z b\/w0.heap.size<=b)/\b≠gq/\b≠gz)\/w1.heap.size<=b) w2 x L:=(hx.below hb).zone fun b _ hz=>.inl hz
theorem gH{α:Type}{E:Elem α}{x:Value}{L:List α}(hx:HeldE E (fun b=>(Z b\/w0.heap.size<=b)/\b≠gq/\b≠gz) w1 x L):HeldE E (fun b=>((Z b\/w0.heap.size<=b)/\b≠gq/\b≠gz)/\b<w1.heap.size) w1 x L:=hx.zone fun _ hb hz=>⟨hz,hb⟩
end
theorem mn(Z:an)(w:World)(D:List Value)(t:TypeId)(p:Pn)(G bs:List Int)(n:Int)(v gv bv:Value)(hv:HeldE lineE Z w v p.L)(hg:HeldE (aF .i32) Z w gv G)(hb:HeldE (aF .u8) Z w bv bs)(hZ:∀ b,Z b->b<w.heap.size) :
  ∃ W,W=(w.alloc (.cells #[v,.int .i64 p.r,.int .i64 p.c,.bool p.pd,.bool p.au,gv,bv,.int .i64 n] 66)).alloc (.cells D.toArray t)/\QB w Z w.heap.size (w.heap.size+1) D t p G bs n v gv bv W:=by
 refine ⟨_,rfl,?_⟩;have hl0:=(AU w (.cells #[v,.int .i64 p.r,.int .i64 p.c,.bool p.pd,.bool p.au,gv,bv,.int .i64 n] 66)).alloc (by simp) (.cells D.toArray t);have h1:=(Has.new w [v,.int .i64 p.r,.int .i64 p.c,.bool p.pd,.bool p.au,gv,bv,.int .i64 n] 66).alloc (.cells D.toArray t);have h2:=Has.new (w.alloc (.cells #[v,.int .i64 p.r,.int .i64 p.c,.bool p.pd,.bool p.au,gv,bv,.int .i64 n] 66)) D t;have hz:∀ b,Z b->(Z b\/w.heap.size<=b)/\b≠w.heap.size/\b≠w.heap.size+1:=fun b h=>by have:=hZ b h;exact ⟨.inl h,by omega,by omega⟩
 exact ⟨h1,(hv.below hl0).zone fun b _ h=>hz b h,(hg.below hl0).zone fun b _ h=>hz b h,(hb.below hl0).zone fun b _ h=>hz b h,by simpa using h2,hl0,Nat.le_refl _,by omega,by omega⟩
theorem nA(Z:an)(v gv bv:Value)(p:Pn)(G bs:List Int)(n:Int)(w:World)(wd ht:Nat)(hv:HeldE lineE Z w v p.L)(hg:HeldE (aF .i32) Z w gv G)(hb:HeldE (aF .u8) Z w bv bs)(hZ:∀ b,Z b->b<w.heap.size)(hs:fy wd ht)(hp:PnOk wd ht p)(hn:G.length<=1000000)(hr:cQ G)(Dc:okT G) :
  Calls Tryz.prog 37 #[.agg #[v,.int .i64 p.r,.int .i64 p.c,.bool p.pd,.bool p.au,gv,bv,.int .i64 n]] w (fun e w'=>∃ v',e=.returned (.agg #[v',.int .i64 (bP wd p (bJ G)).r,.int .i64 (bP wd p (bJ G)).c,.bool (bP wd p (bJ G)).pd,.bool (bP wd p (bJ G)).au])/\HeldE lineE (fun b=>Z b\/(w.heap.size<=b/\b<w'.heap.size)) w' v' (bP wd p (bJ G)).L/\Below w.heap.size w w'):=by
 obtain ⟨W,hW,hq⟩:=mn Z w [.slice none 0 0,.int .i64 0,.int .i64 0,.bool false,.bool false] 43 p G bs n v gv bv hv hg hb hZ;obtain ⟨gq,D5⟩:=ae (w.heap.size);obtain ⟨gz,DR⟩:=ae (w.heap.size+1);rw [<-DR,<-D5] at hq;have HG:=ab (And.intro D5 DR);have HQ:=ab hq;have HL:=ab (qE _ v gv p G W wd ht (gH hq.2.1) (gH hq.2.2.1) (fun b h=>h.2) hs hp hn hr Dc);obtain ⟨ao,ca,rfl⟩:=hv.len;obtain ⟨go',gk,rfl⟩:=hg.len;obtain ⟨bo,bk,rfl⟩:=hb.len;obtain ⟨nL,Gl⟩:=ae (p.L.length);obtain ⟨nG,Gi⟩:=ae (G.length);obtain ⟨nB,F7⟩:=ae (bs.length);rw [<-Gl,<-Gi,<-F7] at hW HQ;rw [<-Gl,<-Gi] at HL;rw [<-Gl,<-Gi,<-F7];obtain ⟨⟨L0,r0',c0',pd0,au0⟩,Cj⟩ : ∃ q,q=p:=⟨_,rfl⟩;subst Cj;obtain ⟨P,hP⟩:=ae (bP wd ⟨L0,r0',c0',pd0,au0⟩ (bJ G));rw [<-hP] at HL ⊢
 dsimp only at *
 obtain ⟨⟨PL,Pr',Pc',Ppd,Pau⟩,K6⟩ : ∃ q,q=P:=⟨_,rfl⟩;subst K6
 dsimp only at *
 have hW2:W=(w.alloc (.cells #[.slice ao nL ca,.int .i64 r0',.int .i64 c0',.bool pd0,.bool au0,.slice go' nG gk,.slice bo nB bk,.int .i64 n] 66)).alloc (.cells #[.slice none 0 0,.int .i64 0,.int .i64 0,.bool false,.bool false] 43):=hW;clear hv hg hb hZ hs hp hn hr Dc D5 DR hq Gl Gi F7 hP hW
 go_enter Tryz.func37,Tryz.ntmps37
 go_upto_region 1 with (fail)
 rw [<-hW2];clear hW2;rw [<-HG.out.2];rw [<-HG.out.1];have q0:=HQ.out.1.cell 0 _ rfl;have q1:=HQ.out.1.cell 1 _ rfl;have q2:=HQ.out.1.cell 2 _ rfl;have q3:=HQ.out.1.cell 3 _ rfl;have q4:=HQ.out.1.cell 4 _ rfl;have q5:=HQ.out.1.cell 5 _ rfl
 go_wp2_with fail
 refine HL.out.mono ?_;rintro e w1 ⟨v',rfl,h1,b1⟩;obtain ⟨o1,k1,rfl⟩:=h1.len;obtain ⟨nP,N6⟩:=ae (PL.length);rw [<-N6] at h1 ⊢;have hz1:=HQ.out.below b1;have s0:=hz1.2.2.2.2.1.cell 0 _ rfl;have s1:=hz1.2.2.2.2.1.cell 1 _ rfl;have s2:=hz1.2.2.2.2.1.cell 2 _ rfl;have s3:=hz1.2.2.2.2.1.cell 3 _ rfl;have s4:=hz1.2.2.2.2.1.cell 4 _ rfl;have f0:=hz1.2.2.2.2.1.free 0;have f1:=hz1.2.2.2.2.1.free 1;have f2:=hz1.2.2.2.2.1.free 2;have f3:=hz1.2.2.2.2.1.free 3;have f4:=hz1.2.2.2.2.1.free 4;have HH:=ab (cJ hz1.2.2.2.2.1 (.slice o1 nP k1) (.int .i64 Pr') (.int .i64 Pc') (.bool Ppd) (.bool Pau));have HU:=ab (aR (W:=w1) gz (.slice o1 nP k1) (.int .i64 Pr') (.int .i64 Pc') (.bool Ppd) (.bool Pau));have Qu:=ab ((lf HQ.out (h1.zone fun b _ hz=>by
  rcases hz with hz | hz
  ·exact .inl hz.1
  ·exact .inr hz.1)))
 have B1:=ab hz1;obtain ⟨W5,CK⟩:=ae ((((((w1.setCell ⟨gz,0,none⟩ (.slice o1 nP k1)).setCell ⟨gz,1,none⟩ (.int .i64 Pr')).setCell ⟨gz,2,none⟩ (.int .i64 Pc')).setCell ⟨gz,3,none⟩ (.bool Ppd)).setCell ⟨gz,4,none⟩ (.bool Pau)));have DW:=ab CK;rw [<-CK] at HH HU;clear q0 q1 q2 q3 q4 q5 h1 b1 hz1 CK N6;go_wp2;rw [<-DW.out];have k0:=HH.out.cell 0 _ rfl;have k1':=HH.out.cell 1 _ rfl;have k2:=HH.out.cell 2 _ rfl;have k3:=HH.out.cell 3 _ rfl;have k4:=HH.out.cell 4 _ rfl;refine bodyPost_ret (v:=.agg #[.slice o1 nP k1,.int .i64 Pr',.int .i64 Pc',.bool Ppd,.bool Pau]) (by simp [results,Tryz.results37,go_sem,k0,k1',k2,k3,k4]) rfl ⟨_,rfl,?_,?_⟩
 ·exact (Qu.out.upd HU.out fun b hz e=>hz.2.2 e).zone fun b hb hz=>hz.1.imp id fun h=>⟨h,hb⟩
 ·exact B1.out.2.2.2.2.2.1.trans (HU.out.below B1.out.2.2.2.2.2.1.size fun b e=>by rw [e];exact B1.out.2.2.2.2.2.2.2.1)
end
abbrev qC(W:World)(g:Nat)(a0 a1 a2 a3 a4 a5 a6 a7:Value):World:=(((((((W.setCell ⟨g,0,none⟩ a0).setCell ⟨g,1,none⟩ a1).setCell ⟨g,2,none⟩ a2).setCell ⟨g,3,none⟩ a3).setCell ⟨g,4,none⟩ a4).setCell ⟨g,5,none⟩ a5).setCell ⟨g,6,none⟩ a6).setCell ⟨g,7,none⟩ a7
theorem mj(W:World)(g:Nat)(a0 a1 a2 a3 a4 a5 a6 a7:Value):Upd (fun b=>b=g) W (qC W g a0 a1 a2 a3 a4 a5 a6 a7) :=
 ((((((((Upd.refl (fun x=>x=g) W).setCell (p:=⟨g,0,none⟩) (.inl rfl) a0).setCell (p:=⟨g,1,none⟩) (.inl rfl) a1).setCell (p:=⟨g,2,none⟩) (.inl rfl) a2).setCell (p:=⟨g,3,none⟩) (.inl rfl) a3).setCell (p:=⟨g,4,none⟩) (.inl rfl) a4).setCell (p:=⟨g,5,none⟩) (.inl rfl) a5).setCell (p:=⟨g,6,none⟩) (.inl rfl) a6).setCell (p:=⟨g,7,none⟩) (.inl rfl) a7
theorem ml{W:World}{g:Nat}{t:TypeId}{x0 x1 x2 x3 x4 x5 x6 x7:Value}(h:Has W g [x0,x1,x2,x3,x4,x5,x6,x7] t)(a0 a1 a2 a3 a4 a5 a6 a7:Value):Has (qC W g a0 a1 a2 a3 a4 a5 a6 a7) g [a0,a1,a2,a3,a4,a5,a6,a7] t :=
 (((((((h.set 0 a0).set 1 a1).set 2 a2).set 3 a3).set 4 a4).set 5 a5).set 6 a6).set 7 a7
theorem QB.fin{w0 w1:World}{Z:an}{gq gz:Nat}{t:TypeId}{p:Pn}{G bs:List Int}{n:Int}{v gv bv x0 x1 x2 x3 x4 x5 x6 x7:Value}(h:QB w0 Z gq gz [x0,x1,x2,x3,x4,x5,x6,x7] t p G bs n v gv bv w1){w2:World}(hu:Upd (fun b=>b=gz) w1 w2) :
  HeldE lineE (ZB Z w0 w2) w2 v p.L/\HeldE (aF .i32) (ZB Z w0 w2) w2 gv G/\HeldE (aF .u8) (ZB Z w0 w2) w2 bv bs/\Below w0.heap.size w0 w2:=by
 obtain ⟨h1,h2,h3,h4,h5,h6,h7,h8,h9⟩:=h;refine ⟨(h2.upd hu fun b hz e=>hz.2.2 e).zone fun b hb hz=>hz.1.imp id fun h=>⟨h,hb⟩,(h3.upd hu fun b hz e=>hz.2.2 e).zone fun b hb hz=>hz.1.imp id fun h=>⟨h,hb⟩,(h4.upd hu fun b hz e=>hz.2.2 e).zone fun b hb hz=>hz.1.imp id fun h=>⟨h,hb⟩,h6.trans (hu.below h6.size fun b e=>by rw [e];exact h8)⟩
theorem mm(Z:an)(v gv bv:Value)(p:Pn)(G bs:List Int)(n:Int)(w:World)(hv:HeldE lineE Z w v p.L)(hg:HeldE (aF .i32) Z w gv G)(hb:HeldE (aF .u8) Z w bv bs)(hn:bs.length<=1000000)(hr:inBytes bs) :
  Calls Tryz.prog 38 #[.agg #[v,.int .i64 p.r,.int .i64 p.c,.bool p.pd,.bool p.au,gv,bv,.int .i64 n]] w (Gives w (.int .i64 (aI st0 bs).2.2)):=by
 obtain ⟨ao,ca,rfl⟩:=hv.len;obtain ⟨go',gk,rfl⟩:=hg.len;have hb0:=AU w (.cells [Value.slice ao p.L.length ca,.int .i64 p.r,.int .i64 p.c,.bool p.pd,.bool p.au,.slice go' G.length gk,bv,.int .i64 n].toArray 66);have Fa:=Has.new w [Value.slice ao p.L.length ca,.int .i64 p.r,.int .i64 p.c,.bool p.pd,.bool p.au,.slice go' G.length gk,bv,.int .i64 n] 66;have HF:=ab (ix st0 [] (.slice none 0 0) bv bs _ Rel.none (HeldE.nil (aF .u8) (fun _=>True) _).ints (hb.below hb0).ints hr hn);obtain ⟨bo,bk,rfl⟩:=hb.len;obtain ⟨W,hW⟩:=ae (w.alloc (.cells [Value.slice ao p.L.length ca,.int .i64 p.r,.int .i64 p.c,.bool p.pd,.bool p.au,.slice go' G.length gk,.slice bo bs.length bk,.int .i64 n].toArray 66));rw [<-hW] at hb0 Fa HF;obtain ⟨x,hx⟩:=ae ((aI st0 bs).2.2);have HXX:=ab hx;rw [<-hx];obtain ⟨nL,Gl⟩:=ae (p.L.length);obtain ⟨nG,Gi⟩:=ae (G.length);obtain ⟨nB,F7⟩:=ae (bs.length);rw [<-Gl,<-Gi,<-F7] at hW Fa;rw [<-F7] at HF;rw [<-Gl,<-Gi,<-F7];have hW2:W=w.alloc (.cells #[.slice ao nL ca,.int .i64 p.r,.int .i64 p.c,.bool p.pd,.bool p.au,.slice go' nG gk,.slice bo nB bk,.int .i64 n] 66):=hW;obtain ⟨gq,D5⟩:=ae (w.heap.size);rw [<-D5] at Fa;have LZ:=ab D5;have HB:=ab hb0;have HN:=ab Fa;clear hv hg hb hn hr hb0 Fa hW D5 hx Gl Gi F7
 go_enter Tryz.func38,Tryz.ntmps38
 go_upto_region 1 with (fail)
 rw [<-hW2];clear hW2;rw [<-LZ.out];have q6:=HN.out.cell 6 _ rfl
 go_wp2_with fail
 refine HF.out.mono ?_;rintro e w1 ⟨vt,vh,H',rfl,h1,h2,h3,b1,_⟩;obtain ⟨ho,hk,rfl⟩:=h2.len;have HL:=ab ((jL h3).1.trans HXX.out.symm);have B1:=ab (HB.out.trans (b1.mono HB.out.size));clear q6 h1 h2 h3 b1;go_wp2;go_ret;exact ⟨al (by rw [<-HL.out];try rfl),B1.out⟩
section
section
variable {w0 w1 w2 w3 : World} {Z : an} {gq gz : Nat} {D : List Value} {t : TypeId} {p p' : Pn} {G G' bs bs' : List Int} {n n' : Int} {v gv bv v' gv' bv' : Value}
theorem QB.call{α:Type}{E:Elem α}{x:Value}{L:List α}(h:QB w0 Z gq gz D t p G bs n v gv bv w1)(hx:HeldE E (ZB (fun b=>((Z b\/w0.heap.size<=b)/\b≠gq/\b≠gz)/\b<w1.heap.size) w1 w2) w2 x L):HeldE E (fun b=>((Z b\/w0.heap.size<=b)/\b≠gq/\b≠gz)\/w1.heap.size<=b) w2 x L :=
 hx.zone fun b _ hz=>hz.imp And.left And.left
end
theorem qB(Z:an)(v gv bv:Value)(p:Pn)(G bs:List Int)(n:Int)(w:World)(wd ht:Nat)(hv:HeldE lineE Z w v p.L)(hg:HeldE (aF .i32) Z w gv G)(hb:HeldE (aF .u8) Z w bv bs)(hZ:∀ b,Z b->b<w.heap.size)(hs:fy wd ht)(hp:PnOk wd ht p)(hn:G.length<=1000000)(hr:cQ G)(Dc:okT G) :
  Calls Tryz.prog 36 #[.agg #[v,.int .i64 p.r,.int .i64 p.c,.bool p.pd,.bool p.au,gv,bv,.int .i64 n]] w (RFd Z w (bP wd p (bJ G)) [] bs n):=by
 obtain ⟨W,hW,hq⟩:=mn Z w [.slice none 0 0,.int .i64 0,.int .i64 0,.bool false,.bool false,.slice none 0 0,.slice none 0 0,.int .i64 0] 66 p G bs n v gv bv hv hg hb hZ;obtain ⟨gq,D5⟩:=ae (w.heap.size);obtain ⟨gz,DR⟩:=ae (w.heap.size+1);rw [<-DR,<-D5] at hq;have HG:=ab (And.intro D5 DR);have HQ:=ab hq;have NV:=ab (nA _ v gv bv p G bs n W wd ht (gH hq.2.1) (gH hq.2.2.1) (gH hq.2.2.2.1) (fun b h=>h.2) hs hp hn hr Dc);obtain ⟨ao,ca,rfl⟩:=hv.len;obtain ⟨go',gk,rfl⟩:=hg.len;obtain ⟨bo,bk,rfl⟩:=hb.len;have hW2:W=(w.alloc (.cells #[.slice ao p.L.length ca,.int .i64 p.r,.int .i64 p.c,.bool p.pd,.bool p.au,.slice go' G.length gk,.slice bo bs.length bk,.int .i64 n] 66)).alloc (.cells #[.slice none 0 0,.int .i64 0,.int .i64 0,.bool false,.bool false,.slice none 0 0,.slice none 0 0,.int .i64 0] 66):=hW;obtain ⟨nL,Gl⟩:=ae (p.L.length);obtain ⟨nG,Gi⟩:=ae (G.length);obtain ⟨nB,F7⟩:=ae (bs.length);have HNN:=ab (And.intro Gl (And.intro Gi F7));rw [<-Gl,<-Gi,<-F7] at HQ hW2 ⊢;rw [<-Gl,<-Gi,<-F7] at NV;obtain ⟨r0',M2⟩:=ae (p.r);obtain ⟨c0',hc0⟩:=ae (p.c);obtain ⟨pd0,hpd0⟩:=ae (p.pd);obtain ⟨au0,hau0⟩:=ae (p.au);obtain ⟨P,hP⟩:=ae (bP wd p (bJ G));rw [<-hP] at NV ⊢;obtain ⟨⟨L0,r0',c0',pd0,au0⟩,Cj⟩ : ∃ q,q=p:=⟨_,rfl⟩;subst Cj;obtain ⟨⟨PL,Pr',Pc',Ppd,Pau⟩,K6⟩ : ∃ q,q=P:=⟨_,rfl⟩;subst K6
 dsimp only at *
 clear hv hg hb hZ hs hp hn hr Dc D5 DR hq Gl Gi F7 hW hP
 go_enter Tryz.func36,Tryz.ntmps36
 go_upto_region 1 with (fail)
 rw [<-hW2];clear hW2;rw [<-HG.out.2];rw [<-HG.out.1];have q0:=HQ.out.1.cell 0 _ rfl;have q1:=HQ.out.1.cell 1 _ rfl;have q2:=HQ.out.1.cell 2 _ rfl;have q3:=HQ.out.1.cell 3 _ rfl;have q4:=HQ.out.1.cell 4 _ rfl;have q5:=HQ.out.1.cell 5 _ rfl;have q6:=HQ.out.1.cell 6 _ rfl;have q7:=HQ.out.1.cell 7 _ rfl
 go_wp2_with fail
 refine NV.out.mono ?_;rintro e w1 ⟨v',rfl,h1,b1⟩;obtain ⟨o1,k1,rfl⟩:=h1.len;obtain ⟨nP,N6⟩:=ae (PL.length);rw [<-N6] at h1 ⊢;have Ea:=HQ.out.below b1;clear q0 q1 q2 q3 q4 q5 q6 q7;have q0:=Ea.1.cell 0 _ rfl;have q1:=Ea.1.cell 1 _ rfl;have q2:=Ea.1.cell 2 _ rfl;have q3:=Ea.1.cell 3 _ rfl;have q4:=Ea.1.cell 4 _ rfl;have q5:=Ea.1.cell 5 _ rfl;have q6:=Ea.1.cell 6 _ rfl;have q7:=Ea.1.cell 7 _ rfl;have f0:=Ea.1.free 0;have f1:=Ea.1.free 1;have f2:=Ea.1.free 2;have f3:=Ea.1.free 3;have f4:=Ea.1.free 4;have f5:=Ea.1.free 5;have f6:=Ea.1.free 6;have f7:=Ea.1.free 7;obtain ⟨w4,hw4⟩:=ae (((((((w1.setCell ⟨gq,0,none⟩ (.slice o1 nP k1)).setCell ⟨gq,1,none⟩ (.int .i64 Pr')).setCell ⟨gq,2,none⟩ (.int .i64 Pc')).setCell ⟨gq,3,none⟩ (.bool Ppd)).setCell ⟨gq,4,none⟩ (.bool Pau)).setCell ⟨gq,5,none⟩ (.slice none 0 0)));have Fh:Upd (fun b=>b=gq) w1 w4:=by rw [hw4];exact (aR gq _ _ _ _ _).setCell (p:=⟨gq,5,none⟩) (.inl rfl) _
 have H4:=ab (QB.own (v':=.slice o1 nP k1) (gv':=.slice none 0 0) (bv':=.slice bo nB bk) (p':=⟨PL,Pr',Pc',Ppd,Pau⟩) (n':=n) (G':=[]) HQ.out b1 Fh (by rw [hw4];exact (((((Ea.1.set 0 _).set 1 _).set 2 _).set 3 _).set 4 _).set 5 _) (HQ.out.call h1) (HeldE.nil _ _ _) (QB.old HQ.out.2.2.2.1 b1));have KM:=ab hw4;clear h1 b1 Ea hw4 Fh N6
 go_upto_region 3 with (fail)
 rw [<-KM.out];clear q0 q1 q2 q3 q4 q5 q6 q7 f0 f1 f2 f3 f4 f5 f6 f7;have q0:=H4.out.1.cell 0 _ rfl;have q1:=H4.out.1.cell 1 _ rfl;have q2:=H4.out.1.cell 2 _ rfl;have q3:=H4.out.1.cell 3 _ rfl;have q4:=H4.out.1.cell 4 _ rfl;have q5:=H4.out.1.cell 5 _ rfl;have q6:=H4.out.1.cell 6 _ rfl;have q7:=H4.out.1.cell 7 _ rfl;have s0:=H4.out.2.2.2.2.1.cell 0 _ rfl;have s1:=H4.out.2.2.2.2.1.cell 1 _ rfl;have s2:=H4.out.2.2.2.2.1.cell 2 _ rfl;have s3:=H4.out.2.2.2.2.1.cell 3 _ rfl;have s4:=H4.out.2.2.2.2.1.cell 4 _ rfl;have s5:=H4.out.2.2.2.2.1.cell 5 _ rfl;have s6:=H4.out.2.2.2.2.1.cell 6 _ rfl;have s7:=H4.out.2.2.2.2.1.cell 7 _ rfl;have y0:=H4.out.2.2.2.2.1.free 0;have y1:=H4.out.2.2.2.2.1.free 1;have y2:=H4.out.2.2.2.2.1.free 2;have y3:=H4.out.2.2.2.2.1.free 3;have y4:=H4.out.2.2.2.2.1.free 4;have y5:=H4.out.2.2.2.2.1.free 5;have y6:=H4.out.2.2.2.2.1.free 6;have y7:=H4.out.2.2.2.2.1.free 7;obtain ⟨W5,CK⟩:=ae (((((((((w4.setCell ⟨gz,0,none⟩ (.slice o1 nP k1)).setCell ⟨gz,1,none⟩ (.int .i64 Pr')).setCell ⟨gz,2,none⟩ (.int .i64 Pc')).setCell ⟨gz,3,none⟩ (.bool Ppd)).setCell ⟨gz,4,none⟩ (.bool Pau)).setCell ⟨gz,5,none⟩ (.slice none 0 0)).setCell ⟨gz,6,none⟩ (.slice bo nB bk)).setCell ⟨gz,7,none⟩ (.int .i64 n)));have GB:=ab (QB.fin H4.out (show Upd (fun b=>b=gz) w4 W5 from by rw [CK];exact mj w4 gz (.slice o1 nP k1) (.int .i64 Pr') (.int .i64 Pc') (.bool Ppd) (.bool Pau) (.slice none 0 0) (.slice bo nB bk) (.int .i64 n)));have Gj:=ab (show Has W5 gz [.slice o1 nP k1,.int .i64 Pr',.int .i64 Pc',.bool Ppd,.bool Pau,.slice none 0 0,.slice bo nB bk,.int .i64 n] 66 from by rw [CK];exact ml H4.out.2.2.2.2.1 (.slice o1 nP k1) (.int .i64 Pr') (.int .i64 Pc') (.bool Ppd) (.bool Pau) (.slice none 0 0) (.slice bo nB bk) (.int .i64 n));have DW:=ab CK;clear CK;go_wp2;rw [<-DW.out];have e0:=Gj.out.cell 0 _ rfl;have e1:=Gj.out.cell 1 _ rfl;have e2:=Gj.out.cell 2 _ rfl;have e3:=Gj.out.cell 3 _ rfl;have e4:=Gj.out.cell 4 _ rfl;have e5:=Gj.out.cell 5 _ rfl;have e6:=Gj.out.cell 6 _ rfl;have e7:=Gj.out.cell 7 _ rfl;exact bodyPost_ret (v:=.agg #[.slice o1 nP k1,.int .i64 Pr',.int .i64 Pc',.bool Ppd,.bool Pau,.slice none 0 0,.slice bo nB bk,.int .i64 n]) (by simp [results,Tryz.results36,go_sem,e0,e1,e2,e3,e4,e5,e6,e7]) rfl ⟨_,_,_,rfl,GB.out.1,GB.out.2.1,GB.out.2.2.1,GB.out.2.2.2⟩
end
end Go.Proofs.YtoeggiplcaegoaaGreatDoor
