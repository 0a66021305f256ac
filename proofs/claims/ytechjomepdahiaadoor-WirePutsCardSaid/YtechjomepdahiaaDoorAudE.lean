import Derived.Test.YtechjomepdahiaaDoorZ0
import Derived.Test.YtechjomepdahiaaDoorAudD
import Derived.Laws.StructEq
set_option maxRecDepth 100000
set_option linter.unusedVariables false
set_option linter.unusedSimpArgs false
set_option maxHeartbeats 3000000
namespace Go.Proofs.YtechjomepdahiaaDoor
open Go.RowKit Go.ChangeShapes Go.WideShapes
theorem km{wb W W':World}{bx:Nat}{C:List Value}{t:TypeId}(hb:Has W bx C t)(ht:t=31\/t=163)(hl:wb.heap.size<=bx)(hu:Upd (fun b=>b=bx) W W'):Qt wb W W':=by
 refine ⟨fun e=>hu.below e fun b e=>by have h:b=bx:=e;omega,hu.size,fun b D ty hn hh=>hu.keep.has hh fun e=>?_⟩;have h:b=bx:=e;subst h
 rcases ht with ht | ht
 ·exact cd hh hb (by rw [ht];exact hn.1)
 ·exact cd hh hb (by rw [ht];exact hn.2)
def FirstJ(sa:Nat->Addr)(bx:Nat)(t:List Fnd)(W:World):Prop:=(t=[]/\Has W bx [.nilIface] 31)\/∃ u p c,t=[(p,c)]/\Has W bx [u] 31/\ErrT sa W u p c
theorem iC(sa:Nat->Addr)(wb:World)(bx:Nat)(wN:wb.heap.size<=bx)(u:Value)(path:List Int)(code:Nat)(W:World)(hb:Has W bx [.nilIface] 31)(he:ErrT sa W u path code) :
  Calls Tryd.prog 100 #[u,.pointer (some ⟨bx,0,none⟩)] W (fun e W'=>e=.returned (.bool false)/\FirstJ sa bx [(path,code)] W'/\Qt wb W W'):=by
 have HE:=aa (show FirstJ sa bx [(path,code)] (W.setCell ⟨bx,0,none⟩ u)/\Qt wb W (W.setCell ⟨bx,0,none⟩ u) from ⟨.inr ⟨u,path,code,rfl,hb.set 0 _,he.qt (km hb (.inl rfl) wN ((Upd.refl (fun b=>b=bx) W).setCell (p:=⟨bx,0,none⟩) (.inl rfl) u))⟩,km hb (.inl rfl) wN ((Upd.refl (fun b=>b=bx) W).setCell (p:=⟨bx,0,none⟩) (.inl rfl) u)⟩);obtain ⟨T,x0,rfl⟩:=he.iface;have k0:=hb.cell 0 _ rfl;have f0:=hb.free 0;clear hb he
 go_enter Tryd.func100,Tryd.ntmps100
 go_wp2;go_ret;exact ⟨ae,HE.out⟩
theorem FirstJ.tells(sa:Nat->Addr)(wb:World)(bx N:Nat)(hb:wb.heap.size<=bx):Tells sa wb false N 100 #[.pointer (some ⟨bx,0,none⟩)] (FirstJ sa bx) where
 enter:=enters_of Tryd.func100 (by kernel_rfl) rfl
 keep:=fun t A B h hb=>by
  rcases h with ⟨e,h⟩ | ⟨u,p,c,e,h,k⟩
  ·exact .inl ⟨e,h.below hb h.lt⟩
  ·exact .inr ⟨u,p,c,e,h.below hb h.lt,k.keep hb⟩
 step:=fun t u path code W hg _ hJ _ he=>by
  have e:t=[]:=hg.resolve_left (by decide);subst e
  rcases hJ with ⟨_,h⟩ | ⟨_,_,_,e,_⟩
  ·exact iC sa wb bx hb u path code W h he
  ·cases e
theorem ko{wb:World}{v:Vw}{lv:Value}(h:ViewAt wb v lv):∃ N,(bs v).length+1<=N/\lC v N:=by
 refine ⟨(bs v).length+9223372036854775809,by omega,fun i hi=>?_⟩;obtain ⟨lo,lc,elv⟩:=h.1.len;have hv:=h.1;rw [elv] at hv;obtain ⟨_,_,_,_,_,_,_,_,hcv⟩:=(aP hv).2.2 i hi;have hm:=hcv.max;obtain ⟨t,ht⟩:=er v.w v.L (Nat.le_of_lt hi);unfold bs;rw [ht,List.length_append,List.length_append,List.length_append,List.length_append];omega
theorem ViewAt.below{w w':World}{v:Vw}{lv:Value}(h:ViewAt w v lv)(hb:Below w.heap.size w w'):ViewAt w' v lv:=⟨h.1.below hb,h.2⟩
def iD(sa:Nat->Addr)(v:Vw)(w:World)(e:Ending)(w':World):Prop:=∃ u,e=.returned u/\((bs v=[]/\u=.nilIface)\/∃ p c t,bs v=(p,c) :: t/\ErrT sa w' u p c)/\Below w.heap.size w w'
theorem gO(sa:Nat->Addr)(v:Vw)(lv:Value)(w:World)(hs:Five w sa)(hv:ViewAt w v lv):Calls Tryd.prog 84 #[aZ v lv] w (iD sa v w):=by
 obtain ⟨N,yo⟩:=ko hv;obtain ⟨lo,lc,elv⟩:=hv.1.len;obtain ⟨n,hn⟩:=ab (v.L.length);rw [<-hn] at elv;subst elv;obtain ⟨W2,hW2⟩:=ab ((w.alloc (.cells (cl v (.slice lo n lc)).toArray 44)).alloc (.cells [Value.nilIface].toArray 31));obtain ⟨bx,rH⟩:=ab (w.heap.size+1);have hb2:Below w.heap.size w W2:=by rw [hW2];exact (l7 _ _).alloc (by simp) _
 have hv2:Has W2 w.heap.size (cl v (.slice lo n lc)) 44:=by rw [hW2];exact (Has.new w _ _).alloc _
 have hx2:Has W2 bx [.nilIface] 31:=by
  have h:=Has.new (w.alloc (.cells (cl v (.slice lo n lc)).toArray 44)) [.nilIface] 31;rw [World.size_alloc] at h;rw [hW2,rH];exact h
 have HA:=aa (iE sa w false N 100 _ (FirstJ sa bx) (FirstJ.tells sa w bx _ (by omega)) hs v _ W2 hv hb2 (.inl ⟨rfl,hx2⟩) yo.1 yo.2);have mV:=aa hb2;have rl:(w.alloc (.cells #[Value.int .i64 v.w,.int .i64 v.h,.slice lo n lc,.int .i64 v.r,.int .i64 v.c,.bool v.pd,.bool v.au] 44)).alloc (.cells #[Value.nilIface] 31)=W2:=hW2.symm;have rP:=aa rH;have k0:=hv2.cell 0 _ rfl;have k1:=hv2.cell 1 _ rfl;have k2:=hv2.cell 2 _ rfl;have k3:=hv2.cell 3 _ rfl;have k4:=hv2.cell 4 _ rfl;have k5:=hv2.cell 5 _ rfl;have k6:=hv2.cell 6 _ rfl;unfold aZ at HA ⊢;obtain ⟨vw,vh,Ls,r,c,pd,au⟩:=v;simp only at rl HA k0 k1 k2 k3 k4 k5 k6 hn ⊢;have HN:=aa hn;clear hs hv yo hW2 hb2 hv2 hx2 rH hn
 go_enter Tryd.func84,Tryd.ntmps84
 go_upto_region 2 with (fail)
 rw [<-rP.out];clear rl
 go_wp2_with fail
 refine HA.out.mono ?_;rintro e w3 ⟨rfl,hj,hu,hb⟩;have hF:∃ u,Has w3 bx [u] 31/\((bs ⟨vw,vh,Ls,r,c,pd,au⟩=[]/\u=.nilIface)\/∃ p c' t,bs ⟨vw,vh,Ls,r,c,pd,au⟩=(p,c') :: t/\ErrT sa w3 u p c'):=by
  cases qu:bs ⟨vw,vh,Ls,r,c,pd,au⟩ with
  |nil =>
   rw [qu] at hj
   rcases hj with ⟨_,h⟩ | ⟨_,_,_,e,_⟩
   ·exact ⟨_,h,.inl ⟨rfl,rfl⟩⟩
   ·cases e
  |cons x t =>
   rw [qu] at hj
   rcases hj with ⟨e,_⟩ | ⟨u,p,c',e,h,k⟩
   ·cases e
   ·have ex:x=(p,c'):=by
     have:[x]=[(p,c')]:=e
     simpa using this
    exact ⟨u,h,.inr ⟨p,c',t,by rw [ex],k⟩⟩
 obtain ⟨u,hx3,hF⟩:=hF;have HE:=aa (And.intro hF hb);have x0:=hx3.cell 0 _ rfl;clear hj hu hb hF hx3 k0 k1 k2 k3 k4 k5 k6;go_wp2;go_ret;exact ⟨u,ae,HE.out.1,HE.out.2⟩
theorem eq(sa:Nat->Addr)(v:Vw)(lv:Value)(w:World)(hs:Five w sa)(hv:ViewAt w v lv):Calls Tryd.prog 49 #[aZ v lv] w (Gives w (.bool (aH v))):=by
 obtain ⟨lo,lc,elv⟩:=hv.1.len;obtain ⟨n,hn⟩:=ab (v.L.length);rw [<-hn] at elv;subst elv;obtain ⟨W1,hW1⟩:=ab (w.alloc (.cells (cl v (.slice lo n lc)).toArray 44));have hb1:Below w.heap.size w W1:=by rw [hW1];exact l7 _ _
 have m7:Has W1 w.heap.size (cl v (.slice lo n lc)) 44:=by rw [hW1];exact Has.new w _ _
 have HA:=aa (gO sa v _ W1 (hs.below hb1) (hv.below hb1));have HB:=aa hb1;have oI:w.alloc (.cells #[Value.int .i64 v.w,.int .i64 v.h,.slice lo n lc,.int .i64 v.r,.int .i64 v.c,.bool v.pd,.bool v.au] 44)=W1:=hW1.symm;have k0:=m7.cell 0 _ rfl;have k1:=m7.cell 1 _ rfl;have k2:=m7.cell 2 _ rfl;have k3:=m7.cell 3 _ rfl;have k4:=m7.cell 4 _ rfl;have k5:=m7.cell 5 _ rfl;have k6:=m7.cell 6 _ rfl;unfold aZ at HA ⊢;obtain ⟨vw,vh,Ls,r,c,pd,au⟩:=v;simp only at oI HA k0 k1 k2 k3 k4 k5 k6 hn ⊢;have HN:=aa hn;clear hs hv hW1 hb1 m7 hn
 go_enter Tryd.func49,Tryd.ntmps49
 go_upto_region 1 with (fail)
 clear oI
 go_wp2_with fail
 refine HA.out.mono ?_;rintro e w3 ⟨u,rfl,hu,b3⟩;have B3:=aa (HB.out.trans (b3.mono HB.out.size));clear b3 k0 k1 k2 k3 k4 k5 k6
 rcases hu with ⟨ha,rfl⟩ | ⟨p,c',t,ha,he⟩
 ·have HR:=aa (show aH ⟨vw,vh,Ls,r,c,pd,au⟩=true from by unfold aH;rw [ha];rfl);clear ha;go_wp2;go_ret;exact ⟨aq (by rw [HR.out];rfl),B3.out⟩
 ·have HR:=aa (show aH ⟨vw,vh,Ls,r,c,pd,au⟩=false from by unfold aH;rw [ha];rfl);obtain ⟨T,x0,rfl⟩:=he.iface;clear ha he;go_wp2;go_ret;exact ⟨aq (by rw [HR.out];rfl),B3.out⟩
end Go.Proofs.YtechjomepdahiaaDoor
