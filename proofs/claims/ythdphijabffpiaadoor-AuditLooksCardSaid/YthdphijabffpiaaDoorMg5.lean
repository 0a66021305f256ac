import Derived.Test.YthdphijabffpiaaDoorZ0
import Derived.Test.YthdphijabffpiaaDoorAudD
import Derived.Laws.StructEq
import Derived.Test.YthdphijabffpiaaDoorMg2
import Derived.Lib.MinMax
import Derived.Deep.Cut
import Derived.Test.YthdphijabffpiaaDoorMg1
set_option maxRecDepth 100000
set_option linter.unusedVariables false
set_option linter.unusedSimpArgs false
set_option maxHeartbeats 3000000
namespace Go.Proofs.YthdphijabffpiaaDoor
open Go.RowKit Go.ChangeShapes Go.WideShapes
theorem dk{wb W W':World}{bx:Nat}{C:List Value}{t:TypeId}(hb:Has W bx C t)(ht:t=36\/t=31)(hl:wb.heap.size<=bx)(hu:Upd (fun b=>b=bx) W W'):Qt wb W W':=by
 refine ⟨fun e=>hu.below e fun b e=>by have h:b=bx:=e;omega,hu.size,fun b D ty hn hh=>hu.keep.has hh fun e=>?_⟩;have h:b=bx:=e;subst h
 rcases ht with ht | ht
 ·exact aV hh hb (by rw [ht];exact hn.1)
 ·exact aV hh hb (by rw [ht];exact hn.2)
def FirstJ(sa:Nat->Addr)(bx:Nat)(t:List Fnd)(W:World):Prop:=(t=[]/\Has W bx [.nilIface] 36)\/∃ u p c,t=[(p,c)]/\Has W bx [u] 36/\ErrT sa W u p c
theorem dl(sa:Nat->Addr)(wb:World)(bx:Nat)(jm:wb.heap.size<=bx)(u:Value)(path:List Int)(code:Nat)(W:World)(hb:Has W bx [.nilIface] 36)(he:ErrT sa W u path code) :
  Calls Tryd.prog 51 #[u,.pointer (some ⟨bx,0,none⟩)] W (fun e W'=>e=.returned (.bool false)/\FirstJ sa bx [(path,code)] W'/\Qt wb W W'):=by
 have HE:=aa (show FirstJ sa bx [(path,code)] (W.setCell ⟨bx,0,none⟩ u)/\Qt wb W (W.setCell ⟨bx,0,none⟩ u) from ⟨.inr ⟨u,path,code,rfl,hb.set 0 _,he.qt (dk hb (.inl rfl) jm ((Upd.refl (fun b=>b=bx) W).setCell (p:=⟨bx,0,none⟩) (.inl rfl) u))⟩,dk hb (.inl rfl) jm ((Upd.refl (fun b=>b=bx) W).setCell (p:=⟨bx,0,none⟩) (.inl rfl) u)⟩);obtain ⟨T,x0,rfl⟩:=he.iface;have k0:=hb.cell 0 _ rfl;have f0:=hb.free 0;clear hb he
 go_enter Tryd.func51,Tryd.ntmps51
 go_wp2;go_ret;exact ⟨ae,HE.out⟩
theorem FirstJ.tells(sa:Nat->Addr)(wb:World)(bx N:Nat)(hb:wb.heap.size<=bx):Tells sa wb false N 51 #[.pointer (some ⟨bx,0,none⟩)] (FirstJ sa bx) where
 enter:=enters_of Tryd.func51 (by kernel_rfl) rfl
 keep:=fun t A B h hb=>by
  rcases h with ⟨e,h⟩ | ⟨u,p,c,e,h,k⟩
  ·exact .inl ⟨e,h.below hb h.lt⟩
  ·exact .inr ⟨u,p,c,e,h.below hb h.lt,k.keep hb⟩
 step:=fun t u path code W hg _ hJ _ he=>by
  have e:t=[]:=hg.resolve_left (by decide);subst e
  rcases hJ with ⟨_,h⟩ | ⟨_,_,_,e,_⟩
  ·exact dl sa wb bx hb u path code W h he
  ·cases e
theorem dP(w:Int)(L:List Cl):(aA w L).length<=L.length+1:=by
 unfold aA;have h1:=bz L L.length;have h2:(aD w L).length<=1:=by unfold aD;split <;> simp
 rw [List.length_append];omega
theorem dQ(v:Vw):(aO v).length<=1:=by unfold aO;split <;> simp
theorem dR(v:Vw):(aN v).length<=1:=by unfold aN;split <;> simp
theorem eg{wb:World}{v:Vw}{lv:Value}(h:ViewAt wb v lv):∃ N,(ay v).length+1<=N/\dB v N:=by
 refine ⟨(ay v).length+9223372036854775809,by omega,fun i hi=>?_⟩;obtain ⟨lo,lc,elv⟩:=h.1.len;have hv:=h.1;rw [elv] at hv;obtain ⟨_,_,_,_,_,_,_,_,hcv⟩:=(aW hv).2.2 i hi;have hm:=hcv.max;obtain ⟨t,ht⟩:=bm v.w v.L (Nat.le_of_lt hi);unfold ay;rw [ht,List.length_append,List.length_append,List.length_append,List.length_append];omega
theorem ViewAt.below{w w':World}{v:Vw}{lv:Value}(h:ViewAt w v lv)(hb:Below w.heap.size w w'):ViewAt w' v lv:=⟨h.1.below hb,h.2⟩
def ci(sa:Nat->Addr)(v:Vw)(w:World)(e:Ending)(w':World):Prop:=∃ u,e=.returned u/\((ay v=[]/\u=.nilIface)\/∃ p c t,ay v=(p,c) :: t/\ErrT sa w' u p c)/\Below w.heap.size w w'
theorem cj(sa:Nat->Addr)(v:Vw)(lv:Value)(w:World)(hs:F.Sents w sa)(hv:ViewAt w v lv):Calls Tryd.prog 13 #[bh v lv] w (ci sa v w):=by
 obtain ⟨N,j7⟩:=eg hv;obtain ⟨lo,lc,elv⟩:=hv.1.len;obtain ⟨n,hn⟩:=ab (v.L.length);rw [<-hn] at elv;subst elv;obtain ⟨W2,hW2⟩:=ab ((w.alloc (.cells (bW v (.slice lo n lc)).toArray 26)).alloc (.cells [Value.nilIface].toArray 36));obtain ⟨bx,iJ⟩:=ab (w.heap.size+1);have hb2:Below w.heap.size w W2:=by rw [hW2];exact (af _ _).alloc (by simp) _
 have hv2:Has W2 w.heap.size (bW v (.slice lo n lc)) 26:=by rw [hW2];exact (Has.new w _ _).alloc _
 have hx2:Has W2 bx [.nilIface] 36:=by
  have h:=Has.new (w.alloc (.cells (bW v (.slice lo n lc)).toArray 26)) [.nilIface] 36;rw [World.size_alloc] at h;rw [hW2,iJ];exact h
 have HA:=aa (cD sa w false N 51 _ (FirstJ sa bx) (FirstJ.tells sa w bx _ (by omega)) hs v _ W2 hv hb2 (.inl ⟨rfl,hx2⟩) j7.1 j7.2);have fs:=aa hb2;have gk:(w.alloc (.cells #[Value.int .i64 v.w,.int .i64 v.h,.slice lo n lc,.int .i64 v.r,.int .i64 v.c,.bool v.pd,.bool v.au] 26)).alloc (.cells #[Value.nilIface] 36)=W2:=hW2.symm;have ip:=aa iJ;have k0:=hv2.cell 0 _ rfl;have k1:=hv2.cell 1 _ rfl;have k2:=hv2.cell 2 _ rfl;have k3:=hv2.cell 3 _ rfl;have k4:=hv2.cell 4 _ rfl;have k5:=hv2.cell 5 _ rfl;have k6:=hv2.cell 6 _ rfl;unfold bh at HA ⊢;obtain ⟨vw,vh,Ls,r,c,pd,au⟩:=v;simp only at gk HA k0 k1 k2 k3 k4 k5 k6 hn ⊢;have HN:=aa hn;clear hs hv j7 hW2 hb2 hv2 hx2 iJ hn
 go_enter Tryd.func13,Tryd.ntmps13
 go_upto_region 2 with (fail)
 rw [<-ip.out];clear gk
 go_wp2_with fail
 refine HA.out.mono ?_;rintro e w3 ⟨rfl,hj,hu,hb⟩;have hF:∃ u,Has w3 bx [u] 36/\((ay ⟨vw,vh,Ls,r,c,pd,au⟩=[]/\u=.nilIface)\/∃ p c' t,ay ⟨vw,vh,Ls,r,c,pd,au⟩=(p,c') :: t/\ErrT sa w3 u p c'):=by
  cases hal:ay ⟨vw,vh,Ls,r,c,pd,au⟩ with
  |nil =>
   rw [hal] at hj
   rcases hj with ⟨_,h⟩ | ⟨_,_,_,e,_⟩
   ·exact ⟨_,h,.inl ⟨rfl,rfl⟩⟩
   ·cases e
  |cons x t =>
   rw [hal] at hj
   rcases hj with ⟨e,_⟩ | ⟨u,p,c',e,h,k⟩
   ·cases e
   ·have ex:x=(p,c'):=by
     have:[x]=[(p,c')]:=e
     simpa using this
    exact ⟨u,h,.inr ⟨p,c',t,by rw [ex],k⟩⟩
 obtain ⟨u,hx3,hF⟩:=hF;have HE:=aa (And.intro hF hb);have x0:=hx3.cell 0 _ rfl;clear hj hu hb hF hx3 k0 k1 k2 k3 k4 k5 k6;go_wp2;go_ret;exact ⟨u,ae,HE.out.1,HE.out.2⟩
theorem dm(sa:Nat->Addr)(v:Vw)(lv:Value)(w:World)(hs:F.Sents w sa)(hv:ViewAt w v lv):Calls Tryd.prog 14 #[bh v lv] w (Gives w (.bool (bT v))):=by
 obtain ⟨lo,lc,elv⟩:=hv.1.len;obtain ⟨n,hn⟩:=ab (v.L.length);rw [<-hn] at elv;subst elv;obtain ⟨W1,hW1⟩:=ab (w.alloc (.cells (bW v (.slice lo n lc)).toArray 26));have hb1:Below w.heap.size w W1:=by rw [hW1];exact af _ _
 have fO:Has W1 w.heap.size (bW v (.slice lo n lc)) 26:=by rw [hW1];exact Has.new w _ _
 have HA:=aa (cj sa v _ W1 (hs.below hb1) (hv.below hb1));have HB:=aa hb1;have fB:w.alloc (.cells #[Value.int .i64 v.w,.int .i64 v.h,.slice lo n lc,.int .i64 v.r,.int .i64 v.c,.bool v.pd,.bool v.au] 26)=W1:=hW1.symm;have k0:=fO.cell 0 _ rfl;have k1:=fO.cell 1 _ rfl;have k2:=fO.cell 2 _ rfl;have k3:=fO.cell 3 _ rfl;have k4:=fO.cell 4 _ rfl;have k5:=fO.cell 5 _ rfl;have k6:=fO.cell 6 _ rfl;unfold bh at HA ⊢;obtain ⟨vw,vh,Ls,r,c,pd,au⟩:=v;simp only at fB HA k0 k1 k2 k3 k4 k5 k6 hn ⊢;have HN:=aa hn;clear hs hv hW1 hb1 fO hn
 go_enter Tryd.func14,Tryd.ntmps14
 go_upto_region 1 with (fail)
 clear fB
 go_wp2_with fail
 refine HA.out.mono ?_;rintro e w3 ⟨u,rfl,hu,b3⟩;have B3:=aa (HB.out.trans (b3.mono HB.out.size));clear b3 k0 k1 k2 k3 k4 k5 k6
 rcases hu with ⟨ha,rfl⟩ | ⟨p,c',t,ha,he⟩
 ·have HR:=aa (show bT ⟨vw,vh,Ls,r,c,pd,au⟩=true from by unfold bT;rw [ha];rfl);clear ha;go_wp2;go_ret;exact ⟨ax (by rw [HR.out];rfl),B3.out⟩
 ·have HR:=aa (show bT ⟨vw,vh,Ls,r,c,pd,au⟩=false from by unfold bT;rw [ha];rfl);obtain ⟨T,x0,rfl⟩:=he.iface;clear ha he;go_wp2;go_ret;exact ⟨ax (by rw [HR.out];rfl),B3.out⟩
def rawE:Elem Value where
 size:=1
 zero:=undef
 rep:=fun _ _ C x=>C=[x]/\x.oneCell'=true
 len:=by rintro _ _ _ _ ⟨rfl,_⟩;rfl
 one:=by
  rintro _ _ _ _ ⟨rfl,h⟩ u hu
  simp at hu
  subst hu;exact h
 keep:=fun _ _ h=>h
theorem ee:(Tryd.prog.info? 36).map (fun i=>(i.zero,i.size,i.bytes))=some (some .nilIface,rawE.size,16):=by kernel_rfl
def LookJ(sa:Nat->Addr)(bx B:Nat)(t:List Fnd)(W:World):Prop:=∃ sv us,Has W bx [sv] 31/\OwnE rawE (fun b=>b≠bx) W B 36 sv us/\us.length=t.length/\(∀ i,i<t.length->ErrT sa W (us.getD i undef) (t.getD i ([],0)).1 (t.getD i ([],0)).2)/\B<=W.heap.size/\bx<B
theorem bR{Z:al}{W:World}{B:Nat}{sv:Value}{us:List Value}(h:OwnE rawE Z W B 36 sv us)(b:Nat)(hb:sv.ownBlock=some b):∃ C,Has W b C 36:=by
 obtain ⟨CS,h1,_,_⟩:=h
 rcases h1.2 with ⟨rfl,_⟩ | ⟨g,cap,cur,rfl,_,hh,_⟩
 ·cases hb
 ·have e:g=b:=by simpa [Value.ownBlock] using hb
  subst e;exact ⟨cur.toList,hh⟩
theorem dM{Z:al}{W:World}{B bx:Nat}{sv x:Value}{us:List Value}(h:OwnE rawE Z W B 36 sv us)(hx:Has W bx [x] 31):sv.ownBlock≠some bx:=fun e=>by
 obtain ⟨C,hC⟩:=bR h bx e;exact aV hC hx (by decide)
theorem dN(us:List Value)(u:Value)(i:Nat):(us++[u]).getD i undef=if i<us.length then us.getD i undef else if i=us.length then u else undef:=by
 simp only [List.getD_eq_getElem?_getD,List.getElem?_append]
 by_cases h:i<us.length
 ·simp [h]
 ·rw [if_neg h,if_neg h]
  by_cases h2:i=us.length
  ·subst h2;simp
  ·rw [if_neg h2,List.getElem?_eq_none (by simp;omega)]
   rfl
theorem ef(t:List Fnd)(x:Fnd)(i:Nat):(t++[x]).getD i ([],0)=if i<t.length then t.getD i ([],0) else if i=t.length then x else ([],0):=by
 simp only [List.getD_eq_getElem?_getD,List.getElem?_append]
 by_cases h:i<t.length
 ·simp [h]
 ·rw [if_neg h,if_neg h]
  by_cases h2:i=t.length
  ·subst h2;simp
  ·rw [if_neg h2,List.getElem?_eq_none (by simp;omega)]
   rfl
theorem dO(sa:Nat->Addr)(wb:World)(bx B:Nat)(jm:wb.heap.size<=bx)(t:List Fnd)(u:Value)(path:List Int)(code:Nat)(W:World)(hl:t.length<1000000000)(hJ:LookJ sa bx B t W)(he:ErrT sa W u path code) :
  Calls Tryd.prog 47 #[u,.pointer (some ⟨bx,0,none⟩)] W (fun e W'=>e=.returned (.bool true)/\LookJ sa bx B (t++[(path,code)]) W'/\Qt wb W W'):=by
 obtain ⟨sv,us,hx,ho,hlen,herr,hB,hbB⟩:=hJ;obtain ⟨T,x0,rfl⟩:=he.iface;obtain ⟨so,sc,esv⟩ : ∃ so sc,sv=.slice so us.length sc:=by
  obtain ⟨CS,h1,_,_⟩:=ho
  rcases h1.2 with ⟨rfl,h0⟩ | ⟨g,cap,cur,rfl,_⟩
  ·exact ⟨none,0,by rw [h0]⟩
  ·exact ⟨_,cap,rfl⟩
 obtain ⟨m,hm⟩:=ab (us.length);rw [<-hm] at esv;subst esv;have hne:(Value.slice so m sc).ownBlock≠some bx:=fun e=>by
  obtain ⟨C,hC⟩:=bR ho bx e;exact aV hC hx (by decide)
 obtain ⟨W1,hW1⟩:=ab (W.alloc (.cells [Value.iface T x0].toArray 36));obtain ⟨g1,hg1⟩:=ab (W.heap.size);have hb1:Below W.heap.size W W1:=by rw [hW1];exact af _ _
 have gI:HeldE rawE (fun b=>b≠bx/\(Value.slice so m sc).ownBlock≠some b) W1 (.slice (some ⟨g1,0,none⟩) 1 1) [.iface T x0]:=by
  rw [hW1,hg1];exact bA (E:=rawE) (Y:=fun _=>False) [.iface T x0] (.iface T x0) ⟨rfl,rfl⟩ (fun _ _ h=>h.elim) ⟨by have:=hx.lt;omega,fun e=>by
   have:=(ho.lt _ e).2;omega⟩
 have hx1:=hx.below hb1 hx.lt;have jM:=aa hx1;have jf:=aa (ho.below hb1);have HU1:=aa gI;have g5:=aa hb1;have fy:=aa (show B<=W1.heap.size from Nat.le_trans hB hb1.size);have HNE:=aa hne;have HER:=aa (fun i hi=>(herr i hi).keep hb1);have HEU:=aa (he.keep hb1);have ia:=aa (show m=t.length by rw [hm];exact hlen);have HM:=aa hm;have ip:=aa (And.intro jm hbB);have iq:m<1000000000:=by rw [hm,hlen];exact hl
 have jo:=aa iq;have k0:=hx.cell 0 _ rfl;have fB:W.alloc (.cells #[Value.iface T x0] 36)=W1:=hW1.symm;have hg1':=hg1.symm;clear hx ho hlen herr hB hbB he hm hne hW1 hg1 hb1 gI hx1 jm hl
 go_enter Tryd.func47,Tryd.ntmps47
 go_wp2_with (at_builtin;refine ap (E:=rawE) (Z:=fun b=>b≠bx) rfl (.tmp 4) (.tmp 6) 31 rfl .nilIface 16 Tryd.underlying31 ee rfl (by decide) rfl rfl jf.out HU1.out (by rw [<-HM.out];simp;have:=jo.out;omega) (by rw [<-HM.out];simp;have:=jo.out;omega) fy.out ?_)
 intro v2 w2 fK hb2 hk2 _;have hx2:=hk2.has jM.out HNE.out;have k2:=hx2.cell 0 _ rfl;have f2:=hx2.free 0;have j5:=dM fK hx2;have jH:Qt wb W1 w2:=⟨fun e=>hb2.mono (Nat.le_trans ip.out.1 (Nat.le_of_lt ip.out.2)),hb2.size,fun b C ty hn hh=>hk2.has hh fun e=>by
  obtain ⟨D,hD⟩:=bR jf.out b e;exact aV hh hD hn.1⟩
 obtain ⟨so2,sc2,ev2⟩ : ∃ so2 sc2,v2=.slice so2 (us++[Value.iface T x0]).length sc2:=by
  obtain ⟨CS,h1,_,_⟩:=fK
  rcases h1.2 with ⟨rfl,h0⟩ | ⟨g,cap,cur,rfl,_⟩
  ·exact ⟨none,0,by rw [h0]⟩
  ·exact ⟨_,cap,rfl⟩
 obtain ⟨m2,iS⟩:=ab ((us++[Value.iface T x0]).length);rw [<-iS] at ev2;subst ev2;have jD:Upd (fun b=>b=bx) w2 (w2.setCell ⟨bx,0,none⟩ (.slice so2 m2 sc2)):=(Upd.refl (fun b=>b=bx) w2).setCell (p:=⟨bx,0,none⟩) (.inl rfl) _;have jL:=dk (wb:=wb) hx2 (.inr rfl) ip.out.1 jD;have hq:=((Qt.ofBelow (wb:=wb) g5.out).trans jH).trans jL;have HF:=aa (show LookJ sa bx B (t++[(path,code)]) (w2.setCell ⟨bx,0,none⟩ (.slice so2 m2 sc2))/\Qt wb W (w2.setCell ⟨bx,0,none⟩ (.slice so2 m2 sc2)) from by
  refine ⟨⟨_,us++[Value.iface T x0],hx2.set 0 _,fK.upd jD (fun b hb e=>by
   have h:b=bx:=e
   rcases hb with hb | hb
   ·exact hb h
   ·exact j5 (by rw [hb,h])),by rw [List.length_append,List.length_append,<-HM.out,ia.out];rfl,fun i hi=>?_,Nat.le_trans fy.out (Nat.le_trans hb2.size jD.size),ip.out.2⟩,hq⟩
  rw [List.length_append] at hi
  simp at hi
  rw [dN,ef,<-HM.out,ia.out]
  by_cases h:i<t.length
  ·rw [if_pos h,if_pos h];exact ((HER.out i h).qt jH).qt jL
  ·rw [if_neg h,if_neg h,if_pos (by omega),if_pos (by omega)];exact (HEU.out.qt jH).qt jL)
 clear fK hb2 hk2 hx2 j5 jH jD jL hq iS k0;go_wp2;go_ret;exact ⟨ae,HF.out⟩
theorem LookJ.tells(sa:Nat->Addr)(wb:World)(bx B N:Nat)(hb:wb.heap.size<=bx)(hN:N<=1000000000):Tells sa wb true N 47 #[.pointer (some ⟨bx,0,none⟩)] (LookJ sa bx B) where
 enter:=enters_of Tryd.func47 (by kernel_rfl) rfl
 keep:=fun t A C h hb=>by
  obtain ⟨sv,us,h1,h2,h3,h4,h5,h6⟩:=h;exact ⟨sv,us,h1.below hb h1.lt,h2.below hb,h3,fun i hi=>(h4 i hi).keep hb,Nat.le_trans h5 hb.size,h6⟩
 step:=fun t u path code W _ hl hJ _ he=>dO sa wb bx B hb t u path code W (Nat.lt_of_lt_of_le hl hN) hJ he
def ErrsAt(sa:Nat->Addr)(w:World)(v:Value)(t:List Fnd):Prop:=∃ ao cap,v=.slice ao t.length cap/\t.length<=cap/\∀ i,i<t.length->∃ b u,ao=some ⟨b,0,none⟩/\b<w.heap.size/\w.cell? ⟨b,i,none⟩=some u/\ErrT sa w u (t.getD i ([],0)).1 (t.getD i ([],0)).2
theorem ErrsAt.below{sa:Nat->Addr}{w w':World}{v:Value}{t:List Fnd}(h:ErrsAt sa w v t)(hb:Below w.heap.size w w'):ErrsAt sa w' v t:=by
 obtain ⟨ao,cap,e,hc,hs⟩:=h;refine ⟨ao,cap,e,hc,fun i hi=>?_⟩;obtain ⟨b,u,e1,e2,e3,e4⟩:=hs i hi;exact ⟨b,u,e1,Nat.lt_of_lt_of_le e2 hb.size,(hb.cell (p:=⟨b,i,none⟩) e2).trans e3,e4.keep hb⟩
theorem LookJ.errs{sa:Nat->Addr}{bx B:Nat}{t:List Fnd}{W:World}(h:LookJ sa bx B t W):∃ sv,Has W bx [sv] 31/\ErrsAt sa W sv t:=by
 obtain ⟨sv,us,h1,h2,h3,h4,h5,h6⟩:=h;refine ⟨sv,h1,?_⟩;obtain ⟨CS,o1,o2,o3⟩:=h2
 rcases o1.2 with ⟨rfl,h0⟩ | ⟨g,cap,cur,rfl,hg,hh,hnc,hcap,hsz,_⟩
 ·exact ⟨none,0,by rw [<-h3,h0],by omega,fun i hi=>by omega⟩
 ·refine ⟨_,cap,by rw [h3],by omega,fun i hi=>⟨g,us.getD i undef,rfl,(o1.lt g rfl).2,?_,h4 i hi⟩⟩;have e:=o1.cellAt i (by rw [show rawE.size=1 from rfl];omega);rw [e];have hr:=o3 i (by omega);have hf:=bB (s:=1) (CS:=CS) (fun C hC=>by
   obtain ⟨j,hj,e⟩:=List.getElem_of_mem hC;have:=rawE.len (o3 j (by omega));rw [List.getD,List.getElem?_eq_getElem hj] at this;rw [<-e];exact this) i 0 (by omega) (by decide)
  rw [Nat.mul_one,Nat.add_zero] at hf;rw [hf,hr.1]
  rfl
def cB(sa:Nat->Addr)(v:Vw)(w:World)(e:Ending)(w':World):Prop:=∃ u,e=.returned u/\ErrsAt sa w' u (ay v)/\Below w.heap.size w w'
theorem cC(sa:Nat->Addr)(v:Vw)(lv:Value)(w:World)(hs:F.Sents w sa)(hv:ViewAt w v lv)(hN:(ay v).length+1<=1000000000)(hR:dB v 1000000000):Calls Tryd.prog 11 #[bh v lv] w (cB sa v w):=by
 obtain ⟨lo,lc,elv⟩:=hv.1.len;obtain ⟨n,hn⟩:=ab (v.L.length);rw [<-hn] at elv;subst elv;obtain ⟨W2,hW2⟩:=ab ((w.alloc (.cells (bW v (.slice lo n lc)).toArray 26)).alloc (.cells [Value.slice none 0 0].toArray 31));obtain ⟨bx,iJ⟩:=ab (w.heap.size+1);have hb2:Below w.heap.size w W2:=by rw [hW2];exact (af _ _).alloc (by simp) _
 have hv2:Has W2 w.heap.size (bW v (.slice lo n lc)) 26:=by rw [hW2];exact (Has.new w _ _).alloc _
 have hx2:Has W2 bx [.slice none 0 0] 31:=by
  have h:=Has.new (w.alloc (.cells (bW v (.slice lo n lc)).toArray 26)) [.slice none 0 0] 31;rw [World.size_alloc] at h;rw [hW2,iJ];exact h
 have HA:=aa (cD sa w true 1000000000 47 _ (LookJ sa bx (bx+1)) (LookJ.tells sa w bx _ _ (by omega) (Nat.le_refl _)) hs v _ W2 hv hb2 ⟨_,[],hx2,OwnE.nil _ _ _ _ _,rfl,(fun i hi=>absurd hi (Nat.not_lt_zero _)),hx2.lt,Nat.lt_succ_self _⟩ hN hR);rw [dS] at HA;have fs:=aa hb2;have gk:(w.alloc (.cells #[Value.int .i64 v.w,.int .i64 v.h,.slice lo n lc,.int .i64 v.r,.int .i64 v.c,.bool v.pd,.bool v.au] 26)).alloc (.cells #[Value.slice none 0 0] 31)=W2:=hW2.symm;have ip:=aa iJ;have k0:=hv2.cell 0 _ rfl;have k1:=hv2.cell 1 _ rfl;have k2:=hv2.cell 2 _ rfl;have k3:=hv2.cell 3 _ rfl;have k4:=hv2.cell 4 _ rfl;have k5:=hv2.cell 5 _ rfl;have k6:=hv2.cell 6 _ rfl;unfold bh at HA ⊢;obtain ⟨vw,vh,Ls,r,c,pd,au⟩:=v;simp only at gk HA k0 k1 k2 k3 k4 k5 k6 hn ⊢;have HN:=aa hn;clear hs hv hN hR hW2 hb2 hv2 hx2 iJ hn
 go_enter Tryd.func11,Tryd.ntmps11
 go_upto_region 2 with (fail)
 rw [<-ip.out];clear gk
 go_wp2_with fail
 refine HA.out.mono ?_;rintro e w3 ⟨rfl,hj,hu,hb⟩;obtain ⟨sv,hx3,hes⟩:=hj.errs;have HE:=aa (And.intro hes hb);have x0:=hx3.cell 0 _ rfl;obtain ⟨so,sc,esv,_⟩:=hes;obtain ⟨m,hm⟩:=ab ((ay ⟨vw,vh,Ls,r,c,pd,au⟩).length);rw [<-hm] at esv;subst esv;clear hj hu hb hx3 k0 k1 k2 k3 k4 k5 k6 hm;go_wp2;go_ret;exact ⟨_,ae,HE.out.1,HE.out.2⟩
def eF:Vw:=⟨1,1,[([(3,[])],false)],0,0,false,false⟩
theorem cV:ay eF=[([0,0],2)]:=by decide +kernel
theorem bl(sa:Nat->Addr)(w:World)(hs:F.Sents w sa)(hh:F.Handle w):Calls Tryd.prog 10 #[] w (Yes w):=by
 obtain ⟨W1,hW1⟩:=ab (w.alloc (.cells [Value.int .i64 3,.slice none 0 0].toArray 74));have hb1:Below w.heap.size w W1:=by rw [hW1];exact af _ _
 have hc1:HeldE cellE (fun _=>True) W1 (.slice (some ⟨w.heap.size,0,none⟩) 1 1) [(3,[])]:=by
  rw [hW1];exact bA (E:=cellE) (Y:=fun _=>True) [.int .i64 3,.slice none 0 0] (3,[]) (cell_rep.2 ⟨_,rfl,HeldE.nil _ _ _⟩) (fun _ _ _=>trivial) trivial
 obtain ⟨W2,hW2⟩:=ab (W1.alloc (.cells [Value.slice (some ⟨w.heap.size,0,none⟩) 1 1,.bool false].toArray 30));have hb2:Below w.heap.size w W2:=by rw [hW2];exact hb1.alloc hb1.size _
 have hc2:HeldE lineE (fun _=>True) W2 (.slice (some ⟨W1.heap.size,0,none⟩) 1 1) [([(3,[])],false)]:=by
  rw [hW2];exact bA (E:=lineE) (Y:=fun _=>True) [.slice (some ⟨w.heap.size,0,none⟩) 1 1,.bool false] ([(3,[])],false) (line_rep.2 ⟨_,rfl,hc1⟩) (fun _ _ _=>trivial) trivial
 have hva:ViewAt W2 eF (.slice (some ⟨W1.heap.size,0,none⟩) 1 1):=⟨hc2,by decide,by decide,by decide,by decide⟩;have HA:=aa (cC sa eF _ W2 (hs.below hb2) hva (by rw [cV];decide) (fun i hi=>by
  have:i=0:=by have:i<1:=hi;omega
  subst this
  decide +kernel))
 have hz1:W1.heap.size=w.heap.size+1:=by rw [hW1];simp
 have HS:=aa hs;have HH:=aa hh;have fs:=aa hb2;have HW:=aa (show (w.alloc (.cells #[Value.int .i64 3,.slice none 0 0] 74)).alloc (.cells #[Value.slice (some ⟨w.heap.size,0,none⟩) 1 1,.bool false] 30)=W2 from by rw [hW2,hW1]);rw [hz1] at HA;clear hW1 hb1 hc1 hW2 hb2 hc2 hva hz1 hs hh;have hWv:=HW.out;unfold bh eF at HA;simp only at HA
 go_enter Tryd.func10,Tryd.ntmps10
 go_wp2_with fail
 refine HA.out.mono ?_;rintro e w3 ⟨u,rfl,he,b3⟩;rw [show ay ⟨1,1,[([(3,[])],false)],0,0,false,false⟩=[([0,0],2)] from cV] at he;obtain ⟨ao,cap,rfl,j3,hsp⟩:=he;obtain ⟨b,x,rfl,hb,hc,her⟩:=hsp 0 (by decide);obtain ⟨T,y,rfl⟩:=her.iface;have B3:=aa (fs.out.trans (b3.mono fs.out.size));have hcp2:1<=cap:=j3;have hcp3:0<cap:=j3;have h1:=aa (F.at_any sa w3 (HH.out.keep B3.out) _ _ _ (.inr her.err));have h2:=aa (fun (w':World) (k:Below w3.heap.size w3 w')=>F.within_any sa w' (HH.out.keep (B3.out.trans (k.mono B3.out.size))) _ _ _ (.inr (her.keep k).err));have h3:=aa (fun (w':World) (k:Below w3.heap.size w3 w')=>F.code_any sa w' (HS.out.below (B3.out.trans (k.mono B3.out.size))) _ _ _ (.inr (her.keep k).err));have HC:=aa (And.intro hb hc);have c0:=hc;rw [show (([([0,0],2)]:List Fnd).getD 0 ([],0)).1=[0,0] from rfl] at h1 h2;rw [show (([([0,0],2)]:List Fnd).getD 0 ([],0)).2=2 from rfl] at h3;rw [show ([0,0]:List Int).headD (-1)=0 from rfl] at h1;rw [show ([0,0]:List Int).tail.headD (-1)=0 from rfl] at h2;clear b3 hsp j3 her hb hc hWv HA;rw [show ([([0,0],2)]:List Fnd).length=1 from rfl]
 go_wp2_with fail
 refine h1.out.mono ?_;rintro e w4 ⟨rfl,b4⟩;have B4:=aa b4;have c0:=(b4.cell (p:=⟨b,0,none⟩) HC.out.1).trans HC.out.2;clear b4 h1
 go_wp2_with fail
 refine (h2.out _ B4.out).mono ?_;rintro e w5 ⟨rfl,b5⟩;have B5:=aa (B4.out.trans (b5.mono B4.out.size));have c0:=(B5.out.cell (p:=⟨b,0,none⟩) HC.out.1).trans HC.out.2;clear b5 h2
 go_wp2_with fail
 refine (h3.out _ B5.out).mono ?_;rintro e w6 ⟨rfl,rfl⟩;have HF:=aa (B3.out.trans (B5.out.mono B3.out.size));go_wp2;go_ret;exact ⟨ae,HF.out⟩
end Go.Proofs.YthdphijabffpiaaDoor
