import Derived.Test.YtoeggiplcaegoaaGreatDoorZ0
import Derived.Test.YtoeggiplcaegoaaGreatDoorMg10
import Derived.Test.YtoeggiplcaegoaaGreatDoorUallP
import Derived.Test.YtoeggiplcaegoaaGreatDoorMg6
import Derived.Test.YtoeggiplcaegoaaGreatDoorMg1
import Derived.Test.YtoeggiplcaegoaaGreatDoorMg4
import Derived.Deep.Cut
import Derived.Deep.CutRange
set_option maxRecDepth 100000
set_option linter.unusedVariables false
set_option linter.unusedSimpArgs false
set_option maxHeartbeats 8000000
namespace Go.Proofs.YtoeggiplcaegoaaGreatDoor
open Go.RowKit Go.ChangeShapes Go.WideShapes
abbrev cN(L:List Int):List Value:=L.map (Value.int .i32)
theorem ny{w:World}{b off n c:Nat}{L:List Int}(h:Held .i32 w (.slice (some ⟨b,off,none⟩) n c) L):∀ j u,(cN L)[j]? = some u->w.cell? ((⟨b,off,none⟩ : Addr).add j)=some u:=fun j u hu=>by
 obtain ⟨ao,cap,e,_,hc⟩:=h
 cases e
 have hj:j<L.length:=by
  have:=(List.getElem?_eq_some_iff.1 hu).1
  simpa using this
 obtain ⟨b2,o2,e2,_,hcell⟩:=hc j hj
 cases e2
 rw [List.getElem?_map,List.getElem?_eq_getElem hj] at hu;simp only [Option.map_some,Option.some.injEq] at hu;rw [<-hu];have e3:L.getD j 0=L[j]:=by simp [List.getD,List.getElem?_eq_getElem hj]
 rw [<-e3];simp only [Addr.add]
 split
 ·rename_i h0;subst h0;exact hcell
 ·exact hcell
theorem mi(L:List Int):∀ u ∈ cN L,u.oneCell'=true:=fun u hu=>by
 obtain ⟨x,_,rfl⟩:=List.mem_map.1 hu
 rfl
theorem qz(w:World)(B:Nat)(ty:TypeId)(v:Value)(n:Nat)(xs:List Value)(hown:w.ownsRow B 21 1 v n xs)(b off c:Nat)(L:List Int)(hu:Held .i32 w (.slice (some ⟨b,off,none⟩) L.length c) L)
  (hn:n+L.length<=2000000) (hbase:B<=w.heap.size) :
  ∃ v' w',(Builtin.append_ #[27,27] ty #[v,.slice (some ⟨b,off,none⟩) L.length c]).run Tryz.prog w=.ok v' w'/\w'.ownsRow B 21 1 v' (n+L.length) (xs++cN L)/\Below B w w'/\Kept w w' B 21 1 (xs++cN L) (cN L) L.length:=by
 obtain ⟨i0,hi,hz0,hz1,hz2⟩:=info_parts kZ;obtain ⟨v',w',hr,h2,h3,h4⟩:=kN (P:=Tryz.prog) w B 27 ty 21 i0 _ 1 4 Tryz.underlying27 hi hz0 hz1 hz2 rfl (by decide) v n xs hown ⟨b,off,none⟩ L.length c (cN L) (by simp) (ny hu) (mi L) (by unfold maxLen;omega) (by omega) hbase;exact ⟨v',w',hr,h2,(Below.refl B w).grown h3 hbase fun k hk=>(hown.lt k hk).1,h4⟩
theorem ve(w:World)(B:Nat)(ty:TypeId)(g:Nat)(hown:w.ownsRow B 21 1 (.slice (some ⟨g,0,none⟩) 0 0) 0 [])(u:Value)(L:List Int)(hu:Held .i32 w u L)(hn:L.length<=1000000)(hbase:B<=w.heap.size) :
  ∃ v' w',(Builtin.append_ #[27,27] ty #[.slice (some ⟨g,0,none⟩) 0 0,u]).run Tryz.prog w=.ok v' w'/\w'.ownsRow B 21 1 v' L.length (cN L)/\Below w.heap.size w w':=by
 obtain ⟨i0,hi,hz0,hz1,hz2⟩:=info_parts kZ
 by_cases h0:L=[]
 ·subst h0;refine ⟨_,w,?_,hown,Below.refl _ _⟩;obtain ⟨ao,cap,rfl,_⟩:=hu
  cases ao with
  |none=>simp [Builtin.append_,run_underlying Tryz.underlying27,sizeOf,typeInfo,hi,Builtin.lenOf,Builtin.firstCells,storeCells]
  |some ad=>simp [Builtin.append_,run_underlying Tryz.underlying27,sizeOf,typeInfo,hi,Builtin.lenOf,Builtin.firstCells,loadCells,loadCellsFrom,storeCells]
 ·obtain ⟨ao,cap,rfl,hh⟩:=hu.view;have Dt:0<L.length:=List.length_pos_iff.2 h0;obtain ⟨b,off,rfl,_⟩:=hh 0 Dt;obtain ⟨v',w',hr,h2,h3,_,h5⟩:=eI (P:=Tryz.prog) w B 27 ty 21 i0 _ 1 4 Tryz.underlying27 hi hz0 hz1 hz2 rfl (by decide) _ 0 [] hown ⟨b,off,none⟩ L.length cap (cN L) (by simp) (ny hu) (mi L) (by unfold maxLen;omega) (by omega) hbase;refine ⟨v',w',hr,by simpa using h2,?_⟩
  rcases h5 with h5 | ⟨g2,cap2,e1,rfl⟩
  ·exact (Below.refl _ w).grown (⟨h3.os,h3.tape,h3.output,h3.size,fun i hi _=>h5 i hi⟩ : w.grownBy w' none) (Nat.le_refl _) (by simp)
  ·exfalso;simp only [Value.slice.injEq,Option.some.injEq,Addr.mk.injEq,and_true,true_and] at e1;obtain ⟨rfl,rfl⟩:=e1
   rcases h2.2 with ⟨h',_⟩ | ⟨g3,cap3,cur3,h',_,_,IR,_⟩
   ·simp at h'
   ·simp only [Value.slice.injEq,Option.some.injEq,Addr.mk.injEq,and_true,true_and] at h';obtain ⟨rfl,_,rfl⟩:=h';omega
theorem nz{w:World}{B n:Nat}{v:Value}{L:List Int}(h:w.ownsRow B 21 1 v n (cN L)):HeldE (aF .i32) (fun b=>B<=b) w v L:=HeldE.ownedInts h
theorem mE{α:Type}{E:Elem α}{Z:an}{w W:World}{x:Value}{L:List α}{gq gz:Nat}{D:List Value}{t:TypeId}{p:Pn}{G bs:List Int}{n:Int}{v gv bv:Value}(hx:HeldE E Z w x L)(hZ:∀ b,Z b->b<w.heap.size)(h:QB w Z gq gz D t p G bs n v gv bv W):HeldE E (fun b=>((Z b\/w.heap.size<=b)/\b≠gq/\b≠gz)/\b<W.heap.size) W x L :=
 (hx.below h.2.2.2.2.2.1).zone fun b hb hz=>by
  have h1:=hZ b hz;have h2:=h.2.2.2.2.2.2.1;have h3:=h.2.2.2.2.2.2.2.1;exact ⟨⟨.inl hz,by omega,by omega⟩,hb⟩
def jG(G F:List Int)(n0 i:Nat):List Int:=G++(F.take i).drop n0
theorem vf(G F:List Int)(n0:Nat):jG G F n0 n0=G:=by
 unfold jG;rw [List.drop_eq_nil_of_le (by rw [List.length_take];omega),List.append_nil]
theorem vg(G F:List Int)(n0 i:Nat)(h0:n0<=i)(hi:i<F.length):jG G F n0 (i+1)=jG G F n0 i++[F.getD i 0]:=by
 unfold jG;rw [List.take_succ_eq_append_getElem hi,List.drop_append_of_le_length (by rw [List.length_take];omega),List.append_assoc]
 simp [List.getD,List.getElem?_eq_getElem hi]
theorem yu(G F:List Int)(n0 i:Nat):(jG G F n0 i).length<=G.length+F.length:=by
 unfold jG;rw [List.length_append,List.length_drop,List.length_take];omega
theorem yv(G F1 F2:List Int):jG G (F1++F2) F1.length (F1++F2).length=G++F2:=by
 unfold jG;rw [List.take_length,List.drop_left]
theorem sf(xs:List Int)(K:Nat)(hK:bZ xs K=xs.length):(0<(aI st0 xs).2.2->K=(aE st0 xs).length+1)/\(¬ 0<(aI st0 xs).2.2->K=(aE st0 xs).length)/\∀ i,i<(aE st0 xs).length->(cO xs (bZ xs i)).1=(aE st0 xs).getD i 0:=by
 obtain ⟨_,h2⟩:=qM xs K hK;have hl:(dm xs K).length=K:=by unfold dm;rw [List.length_map,dK]
 have hv:∀ i,i<K->(dm xs K).getD i 0=(cO xs (bZ xs i)).1:=fun i hi=>by
  unfold dm;rw [List.getD,List.getElem?_map,nM xs K i hi]
  rfl
 refine ⟨fun h=>?_,fun h=>?_,fun i hi=>?_⟩
 ·have h2:aE st0 xs++(if 0<(aI st0 xs).2.2 then [65533] else [])=dm xs K:=h2;rw [if_pos h] at h2;rw [<-hl,<-h2];simp
 ·have h2:aE st0 xs++(if 0<(aI st0 xs).2.2 then [65533] else [])=dm xs K:=h2;rw [if_neg h,List.append_nil] at h2;rw [h2,hl]
 ·have h2:aE st0 xs++(if 0<(aI st0 xs).2.2 then [65533] else [])=dm xs K:=h2;have QD:i<K:=by
   rw [<-hl,<-h2,List.length_append];omega
  rw [<-hv i QD,<-h2]
  simp [List.getD,List.getElem?_append_left hi]
theorem sR(xs:List Int):(aE st0 xs).length<=2 * xs.length:=mc st0 xs
theorem qA(Z:an)(v gv bv:Value)(p:Pn)(G bs:List Int)(n:Int)(cv:Value)(c:List Int)(w:World)(hv:HeldE lineE Z w v p.L)(hg:HeldE (aF .i32) Z w gv G)(hb:HeldE (aF .u8) Z w bv bs)(hZ:∀ b,Z b->b<w.heap.size)(hc:HeldE (aF .u8) Z w cv c)(hG:G.length<=600000)(Iu:bs.length+c.length<=100000)(hbr:inBytes bs)(Lw:inBytes c)(hn:n=((aE st0 bs).length:Nat)) :
  Calls Tryz.prog 33 #[.agg #[v,.int .i64 p.r,.int .i64 p.c,.bool p.pd,.bool p.au,gv,bv,.int .i64 n],cv] w (RFd Z w p (G++aE (aI st0 bs) c) (bs++c) ((aE st0 (bs++c)).length:Nat)):=by
 obtain ⟨W,hW,hq⟩:=mn Z w [.slice none 0 0,.int .i64 0,.int .i64 0,.bool false,.bool false,.slice none 0 0,.slice none 0 0,.int .i64 0] 66 p G bs n v gv bv hv hg hb hZ;obtain ⟨gq,D5⟩:=ae (w.heap.size);obtain ⟨gz,DR⟩:=ae (w.heap.size+1);rw [<-DR,<-D5] at hq;have HG:=ab (And.intro D5 DR);have HQ:=ab hq;obtain ⟨ao,ca,rfl⟩:=hv.len;obtain ⟨go',gk,rfl⟩:=hg.len;obtain ⟨bo,bk,rfl⟩:=hb.len;have Qg:=mE hc hZ hq;obtain ⟨co,ck,rfl⟩:=hc.len;obtain ⟨nC,Qt⟩:=ae (c.length);have hW2:W=(w.alloc (.cells #[.slice ao p.L.length ca,.int .i64 p.r,.int .i64 p.c,.bool p.pd,.bool p.au,.slice go' G.length gk,.slice bo bs.length bk,.int .i64 n] 66)).alloc (.cells #[.slice none 0 0,.int .i64 0,.int .i64 0,.bool false,.bool false,.slice none 0 0,.slice none 0 0,.int .i64 0] 66):=hW;obtain ⟨nL,Gl⟩:=ae (p.L.length);obtain ⟨nG,Gi⟩:=ae (G.length);obtain ⟨nB,F7⟩:=ae (bs.length);have HNN:=ab (And.intro Gl (And.intro Gi F7));rw [<-Gl,<-Gi,<-F7] at HQ hW2 ⊢;obtain ⟨r0',M2⟩:=ae (p.r);obtain ⟨c0',hc0⟩:=ae (p.c);obtain ⟨pd0,hpd0⟩:=ae (p.pd);obtain ⟨au0,hau0⟩:=ae (p.au);rw [<-Qt] at Qg ⊢;have HNC:=ab Qt;have HLEN:=ab (And.intro hG Iu);have Ce:inBytes (bs++c):=fun i hi=>by
  rw [List.length_append] at hi
  by_cases e:i<bs.length
  ·rw [show (bs++c).getD i 0=bs.getD i 0 from by simp [List.getD,List.getElem?_append_left e]];exact hbr i e
  ·rw [show (bs++c).getD i 0=c.getD (i - bs.length) 0 from by simp [List.getD,List.getElem?_append_right (show bs.length<=i by omega)]];exact Lw _ (by omega)
 have Gp:=ab Ce;have QN:=ab (show aE st0 (bs++c)=aE st0 bs++aE (aI st0 bs) c from fO _ _ _);obtain ⟨n0,Fa⟩:=ae ((aE st0 bs).length);obtain rfl:n=(n0:Nat):=by rw [hn,Fa]
 have HN0:=ab Fa;obtain ⟨RW,Pz⟩:=ae (bs++c);rw [<-Pz] at Gp QN ⊢;have JM:=ab (show RW.length=bs.length+c.length from by rw [Pz,List.length_append]);have HRW2:=ab Pz;obtain ⟨F,hF⟩:=ae (aE st0 RW);have HF0:=ab hF;obtain ⟨GF,Qr⟩:=ae (G++aE (aI st0 bs) c);have Oo:=ab (show GF=jG G F n0 F.length from by rw [Qr,hF,QN.out,Fa,yv]);have Jf:=ab (show n0<=F.length/\F.length<=200000 from by
  have h1:=sR RW;rw [hF];have h2:=JM.out;refine ⟨?_,by omega⟩;rw [QN.out,List.length_append,Fa];omega)
 rw [<-hF,<-Qr];obtain ⟨⟨L0,r0',c0',pd0,au0⟩,Cj⟩ : ∃ q,q=p:=⟨_,rfl⟩;subst Cj
 dsimp only at *
 -- the empty row of bytes that is made
 have E0:=AU W (.cells #[] 5);have BX:OwnE (aF .u8) (fun _=>True) (W.alloc (.cells #[] 5)) W.heap.size 5 (.slice (some ⟨W.heap.size,0,none⟩) 0 0) []:=OwnE.empty (World.ownsRow_lit W #[] 0 (Nat.le_refl _) (by decide) rfl);have hu1:HeldE (aF .u8) (fun b9=>True/\(Value.slice (some ⟨W.heap.size,0,none⟩) 0 0).ownBlock≠some b9) (W.alloc (.cells #[] 5)) (.slice bo nB bk) bs:=((gH HQ.out.2.2.2.1).below E0).zone fun b9 _ h=>⟨trivial,fun e=>by have h9:=(BX.lt _ e).1;have:=h.2;omega⟩
 have Cg:=ab BX;have Qp:=ab hu1;have Bt:=ab E0;have HQ1:=ab (HQ.out.below E0);have HCZ:=ab Qg;clear hv hg hb hZ hn D5 DR hq Gl Gi F7 hW E0 BX hu1 hG Iu hbr Lw Ce Fa Pz hF Qr Qg hc Qt
 go_enter Tryz.func33,Tryz.ntmps33
 go_upto_region 1 with (fail)
 rw [<-hW2];clear hW2;rw [<-HG.out.2];rw [<-HG.out.1];have q6:=HQ1.out.1.cell 6 _ rfl
 go_wp2_with (at_builtin;refine ax (E:=aF .u8) (Z:=fun _=>True) rfl (.tmp 7) (.tmp 9) 55 rfl (.int .u8 0) 1 Tryz.underlying55 lg rfl (by decide) rfl rfl Cg.out Qp.out (by have:=HLEN.out;simp;omega) (by have:=HLEN.out;simp;omega) Bt.out.size ?_)
 intro v2 w2 BE b2 _ _
 try rw [List.nil_append] at BE
 have BY:=ab (Bt.out.trans b2);have hcz2:=HCZ.out.below BY.out;have BJ:=BE.lt;have HU2:=ab (show HeldE (aF .u8) (fun b=>True/\v2.ownBlock≠some b) w2 (.slice co nC ck) c from hcz2.zone fun b9 _ h=>⟨trivial,fun e=>by have h9:=(BJ _ e).1;have:=h.2;omega⟩);have Hm:=ab BE;clear q6 b2 hcz2 BJ BE
 go_wp2_with (at_builtin;refine ax (E:=aF .u8) (Z:=fun _=>True) rfl (.tmp 10) (.tmp 11) 55 rfl (.int .u8 0) 1 Tryz.underlying55 lg rfl (by decide) rfl rfl Hm.out HU2.out (by have:=HLEN.out;omega) (by have:=HLEN.out;omega) BY.out.size ?_)
 intro v3 w3 Fi b3 _ _;rw [<-HRW2.out] at Fi;have Dl:HeldE (aF .u8) (fun b=>W.heap.size<=b) w3 v3 RW:=(dM (Z:=fun b=>W.heap.size<=b) Fi.ints).held fun b hb _=>hb
 have OH:=BY.out.trans b3;obtain ⟨o3,k3,rfl⟩:=Dl.len;have hcap3:sZ (.slice o3 RW.length k3):=fun ao n c e=>by
  cases e
  obtain ⟨_,h2,_⟩:=Dl.spots;exact h2
 have IV:=HQ.out.below OH;have q6:=IV.1.cell 6 _ rfl;have f6:=IV.1.free 6;obtain ⟨w4,hw4⟩:=ae (w3.setCell ⟨gq,6,none⟩ (.slice o3 RW.length k3));have Fh:Upd (fun b=>b=gq) w3 w4:=by rw [hw4];exact (Upd.refl (fun b=>b=gq) w3).setCell (p:=⟨gq,6,none⟩) (.inl rfl) _
 have h4:QB w Z gq gz [.slice none 0 0,.int .i64 0,.int .i64 0,.bool false,.bool false,.slice none 0 0,.slice none 0 0,.int .i64 0] 66 ⟨L0,r0',c0',pd0,au0⟩ G RW (n0:Nat) (.slice ao nL ca) (.slice go' nG gk) (.slice o3 RW.length k3) w4:=QB.own HQ.out OH Fh (by rw [hw4];exact IV.1.set 6 _) (QB.old HQ.out.2.1 OH) (QB.old HQ.out.2.2.1 OH) (Dl.zone fun b _ h=>.inr h);have Ki:=ab (qI (.slice o3 RW.length k3) RW w4 h4.2.2.2.1.ints hcap3 (by have:=JM.out;have:=HLEN.out;omega) Gp.out);have KX:=ab (show ∀ w',Below w4.heap.size w4 w'->Calls Tryz.prog 38 #[.agg #[.slice ao nL ca,.int .i64 r0',.int .i64 c0',.bool pd0,.bool au0,.slice go' nG gk,.slice o3 RW.length k3,.int .i64 (n0:Nat)]] w' (Gives w' (.int .i64 (aI st0 RW).2.2)) from fun w' h=>mm _ _ _ _ ⟨L0,r0',c0',pd0,au0⟩ G RW (n0:Nat) w' (gH (h4.below h).2.1) (gH (h4.below h).2.2.1) (gH (h4.below h).2.2.2.1) (by have:=JM.out;have:=HLEN.out;omega) Gp.out);obtain ⟨rn,Nj⟩:=ae (RW.length);rw [<-Nj] at hw4 h4 Ki KX ⊢;have H4:=ab h4;have KM:=ab hw4;have PX:=ab Nj;clear Fi b3 Dl OH hcap3 IV hw4 Fh h4 Nj
 go_upto_region 2 with (fail)
 rw [<-KM.out];clear q6 f6;have q6:=H4.out.1.cell 6 _ rfl
 go_wp2_with fail
 refine Ki.out.mono ?_;rintro e w5 ⟨K,vl,rfl,hK,Dd,b5⟩;obtain ⟨pt1,pt2,pt3⟩:=sf RW K hK;rw [<-HF0.out] at pt1 pt2 pt3;have Qo:=iK Dd;have hlt5:=fun k hk=>(Dd.lt k hk)
 have hcap5:∀ a9 n9 c9,vl=.slice a9 n9 c9->n9<=c9/\n9=K:=fun a9 n9 c9 e=>by
  rcases Dd.2 with ⟨e2,Ex⟩ | ⟨g9,cap9,cur9,e2,_,_,IR,_⟩
  ·rw [e2] at e;cases e;exact ⟨Nat.le_refl _,Ex.symm⟩
  ·rw [e2] at e;cases e;exact ⟨IR,rfl⟩
 obtain ⟨lo,lk,KU,_⟩:=id Qo;have hpl:(bI RW K).length=K:=dK RW K;rw [hpl] at KU;subst KU;have NO:=(hcap5 _ _ _ rfl).1;obtain ⟨hd,JH⟩:=ae ((aI st0 RW).2.2);rw [<-JH] at pt1 pt2;have HHD:=ab (show ∀ w',Below w4.heap.size w4 w'->Calls Tryz.prog 38 #[.agg #[.slice ao nL ca,.int .i64 r0',.int .i64 c0',.bool pd0,.bool au0,.slice go' nG gk,.slice o3 rn k3,.int .i64 (n0:Nat)]] w' (Gives w' (.int .i64 hd)) from fun w' h=>by rw [JH];exact KX.out w' h);have KL:=ab (H4.out.below b5);have B5:=ab b5;have JY:=ab (show ∀ i,i<F.length->∃ b off,lo=some ⟨b,off,none⟩/\b≠gq/\b<w5.heap.size/\w5.cell? ⟨b,off+i * 5,none⟩=some (.int .i32 (F.getD i 0)) from fun i hi=>by
  have QD:i<K:=by by_cases h:0<hd;have:=pt1 h;omega;have:=pt2 h;omega
  obtain ⟨b,off,e,h1,h2,_⟩:=qR Qo i QD;have hown:=(hlt5 b (by rw [e];rcases Dd.2 with ⟨e2,Ex⟩ | ⟨g9,cap9,cur9,e2,_⟩;(cases e2;cases e);(rw [e] at e2;cases e2;rfl))).1;exact ⟨b,off,e,by have:=H4.out.1.lt;omega,h1,by rw [h2,pt3 i hi]⟩)
 have OY:=ab (And.intro pt1 (And.intro pt2 NO));clear q6 Dd b5 hK pt1 pt2 pt3 Qo hlt5 hcap5 hpl JH Ki KX NO;obtain ⟨FN,PH⟩:=ae (F.length);have KF:=ab PH;obtain ⟨tb,QL⟩ : ∃ tb:Bool,decide ((0:Int)<hd)=tb:=⟨_,rfl⟩;have HTB:=ab (show (tb=true->K=FN+1)/\(tb=false->K=FN) from ⟨fun e=>by rw [PH];exact OY.out.1 (of_decide_eq_true (QL.trans e)),fun e=>by rw [PH];exact OY.out.2.1 (of_decide_eq_false (QL.trans e))⟩);have QA:=ab OY.out.2.2;clear PH OY;have q0:=KL.out.1.cell 0 _ rfl;have q1:=KL.out.1.cell 1 _ rfl;have q2:=KL.out.1.cell 2 _ rfl;have q3:=KL.out.1.cell 3 _ rfl;have q4:=KL.out.1.cell 4 _ rfl;have q5:=KL.out.1.cell 5 _ rfl;have q6:=KL.out.1.cell 6 _ rfl;have q7:=KL.out.1.cell 7 _ rfl
 go_wp2_with fail
 refine (HHD.out w5 B5.out).mono ?_;rintro e w6 ⟨rfl,b6⟩;have HQ6:=ab (KL.out.below b6);have B6:=ab b6;clear b6 q0 q1 q2 q3 q4 q5 q6 q7
 go_upto_if 19 with (fail)
 clear QL
 go_cut [5] from 19 to 24 (fun lv wx=>lv=.slice lo FN lk/\wx=w6)
 case first =>
  cases tb with
  |true =>
   have hKe:=HTB.out.1 rfl;have hwK:IntKind.i64.wrap ((K:Int) - 1)=(FN:Int):=by have:=Jf.out;have:=KF.out;rw [IntKind.wrap_i64];omega
   have NO:=QA.out;have hFc:FN<=lk:=by omega
   have hFci:(FN:Int)<=(lk:Int):=by omega
   clear hKe NO;go_wp2;go_meet
   case rel=>exact ⟨rfl,rfl⟩
  |false =>
   go_wp2;go_meet
   case rel=>exact ⟨by rw [HTB.out.2 (by trivial)],rfl⟩
 case rest =>
  obtain ⟨rfl,rfl⟩:=hcut;obtain ⟨w6,ED⟩:=ae (wc);subst ED;have q7:=HQ6.out.1.cell 7 _ rfl;go_wp2
  go_loopw [6] (fun iv wr=>∃ (i:Nat) (gv2:Value),n0<=i/\i<=FN/\iv=.int .i64 i/\QB w Z gq gz [.slice none 0 0,.int .i64 0,.int .i64 0,.bool false,.bool false,.slice none 0 0,.slice none 0 0,.int .i64 0] 66 ⟨L0,r0',c0',pd0,au0⟩ (jG G F n0 i) RW (n0:Nat) (.slice ao nL ca) gv2 (.slice o3 rn k3) wr/\Upd (fun b=>b=gq) w6 wr) (fun iv _=>FN - (intOf iv).toNat)
  case atStart=>exact ⟨n0,_,Nat.le_refl _,by rw [KF.out];exact Jf.out.1,rfl,by rw [vf];exact HQ6.out,Upd.refl _ _⟩
  case round =>
   obtain ⟨i,gv2,Ll,hi,rfl,Gz,ON⟩:=hrel;obtain ⟨wv,C9⟩:=ae (wr);subst C9;clear q7
   by_cases hlt:i<FN
   ·have j1:decide ((i:Int)<(FN:Int))=true:=ah (by omega);have j2:decide (i<FN)=true:=ah (by omega);have O6:(i:Int)<(FN:Int):=by omega
    have PW:IntKind.i64.wrap ((i:Int)+1)=(i:Int)+1:=by have:=Jf.out;have:=KF.out;rw [IntKind.wrap_i64];omega
    obtain ⟨bl,ol,rfl,Ob,hbl,DU⟩:=JY.out i (by rw [<-KF.out];exact hlt);obtain ⟨r,hr⟩:=ae (F.getD i 0);rw [<-hr] at DU;obtain ⟨H,hH⟩:=ae (jG G F n0 i);have Co:=ab (show jG G F n0 (i+1)=H++[r] from by rw [hH,hr];exact vg G F n0 i Ll (by rw [<-KF.out];exact hlt));have Pf:=ab (show H.length<=999998 from by rw [hH];have:=yu G F n0 i;have:=Jf.out;have:=HLEN.out;omega);rw [<-hH] at Gz;obtain ⟨hoo,Kh,rfl⟩:=Gz.2.2.1.len;have LE:=ab Gz;have HUI:=ab ON;have Jp:=ab (show ∀ w',Upd (fun b=>b=gq) wv w'->w'.cell? ⟨bl,ol+i * 5,none⟩=some (.int .i32 r) from fun w' h=>(World.cell?_of_block (a:=⟨bl,ol+i * 5,none⟩) ((ON.trans h).block bl (Nat.lt_of_lt_of_le hbl B6.out.size) Ob)).trans ((B6.out.cell (p:=⟨bl,ol+i * 5,none⟩) hbl).trans DU));obtain ⟨nH,Nu⟩:=ae (H.length);have HNH:=ab Nu;rw [<-Nu] at LE;have D5:=Gz.1.lt;have hgle:=Gz.2.2.2.2.2.1.size;clear Gz ON DU hr hH Nu
    go_upto_region 8 with (fail)
    obtain ⟨DK,Gm⟩ : ∃ CC:Array Bool->World->Prop,CC=fun L8 w'=>Upd (fun b=>b=gq) wv w'/\(Mix.one L8 12=0->Below wv.heap.size wv w')/\(Mix.one L8 12=1->∃ gv3,QB w Z gq gz [.slice none 0 0,.int .i64 0,.int .i64 0,.bool false,.bool false,.slice none 0 0,.slice none 0 0,.int .i64 0] 66 ⟨L0,r0',c0',pd0,au0⟩ (H++[r]) RW (n0:Nat) (.slice ao nL ca) gv3 (.slice o3 rn k3) w'):=⟨_,rfl⟩
    obtain ⟨Km,Ed⟩ : ∃ XX:World->World->Prop,XX=fun x y=>Kept x y wv.heap.size 21 1 (cN H++cN [r]) (cN [r]) 1:=⟨_,rfl⟩
    obtain ⟨Me,Hrgbst,IF,Hj,GN,Hn,GS,Ib,GQ,Hr,GL,Hk,FL,FJ,Hrgbe12,_,_,_⟩:=Reg.e16 Km
     (fun x w=>∃ g,x=.slice (some ⟨g,0,none⟩) 0 0/\w.ownsRow wv.heap.size 21 1 (.slice (some ⟨g,0,none⟩) 0 0) 0 [])
     (fun xx _=>xx=.pointer (some ⟨gq,5,none⟩))
     (fun xx _=>xx=.slice hoo nH Kh)
     (fun x w=>w.ownsRow wv.heap.size 21 1 x H.length (cN H))
     (fun xx _=>xx=.slice (some ⟨bl,ol,none⟩) FN lk)
     (fun xx _=>xx=.int .i64 i)
     (fun xx _=>xx=.pointer (some ⟨bl,ol+i * 5,none⟩))
     (fun xx _=>xx=.pointer (some ⟨bl,ol+i * 5,none⟩))
     (fun xx _=>xx=.int .i32 r)
     (fun x w=>∃ g,x=.slice (some ⟨g,0,none⟩) 1 1/\w.ownsRow wv.heap.size 21 1 (.slice (some ⟨g,0,none⟩) 1 1) 1 (cN [r]))
     (fun x w=>w.ownsRow wv.heap.size 21 1 x (H.length+1) (cN H++cN [r]))
     (fun xx _=>xx=.pointer (some ⟨gq,5,none⟩))
     (fun xx _=>xx=undef)
     (fun _ _=>True) (fun _ _=>True) (fun _ _=>True)
     (s0:=fun x w w1 hx h=>by rw [Ed] at hx;first | exact hx.1 _ _ _ h (List.prefix_append _ _) | exact hx.1 _ _ _ h (List.prefix_refl _) | (obtain ⟨g,e,h⟩:=h;exact ⟨g,e,hx.1 _ _ _ h (List.nil_prefix)⟩) | (obtain ⟨g,e,h⟩:=h;exact ⟨g,e,hx.2 _ h⟩))
     (s3:=fun x w w1 hx h=>by rw [Ed] at hx;first | exact hx.1 _ _ _ h (List.prefix_append _ _) | exact hx.1 _ _ _ h (List.prefix_refl _) | (obtain ⟨g,e,h⟩:=h;exact ⟨g,e,hx.1 _ _ _ h (List.nil_prefix)⟩) | (obtain ⟨g,e,h⟩:=h;exact ⟨g,e,hx.2 _ h⟩))
     (s9:=fun x w w1 hx h=>by rw [Ed] at hx;first | exact hx.1 _ _ _ h (List.prefix_append _ _) | exact hx.1 _ _ _ h (List.prefix_refl _) | (obtain ⟨g,e,h⟩:=h;exact ⟨g,e,hx.1 _ _ _ h (List.nil_prefix)⟩) | (obtain ⟨g,e,h⟩:=h;exact ⟨g,e,hx.2 _ h⟩))
     (s10:=fun x w w1 hx h=>by rw [Ed] at hx;first | exact hx.1 _ _ _ h (List.prefix_append _ _) | exact hx.1 _ _ _ h (List.prefix_refl _) | (obtain ⟨g,e,h⟩:=h;exact ⟨g,e,hx.1 _ _ _ h (List.nil_prefix)⟩) | (obtain ⟨g,e,h⟩:=h;exact ⟨g,e,hx.2 _ h⟩))
    have Fg:Hid (∀ i L w,(i == 12)=false ->  DK L w->DK (L.setIfInBounds i true) w):=ab (by
     intro i L w q h;simp only [Bool.or_eq_false_iff,beq_eq_false_iff_ne] at q;rw [Gm] at h ⊢;simp only [Mix.one_ne q];exact h)
    have IS:Hid (∀ L w w1,DK L w->Below w.heap.size w w1->DK L w1):=ab (by
     intro L w w1 h hb;rw [Gm] at h ⊢
     (obtain ⟨q1,q2,q4⟩:=h;exact ⟨q1.trans (Upd.ofBelow hb |>.mono fun b hb e=>absurd hb (by have:=q1.size;omega)),fun e=>(q2 e).trans (hb.mono (q2 e).size),fun e=>by obtain ⟨gv3,h1⟩:=q4 e;exact ⟨gv3,h1.below hb⟩⟩))
    have Hrgbx:=ab (show ∀ w,Km w w from fun w=>by rw [Ed];exact Kept.refl _ _ _ _ _ _ _);have Ft:=ab (show ∀ w w1,Below w.heap.size w w1->Km w w1 from fun w w1 hb=>by rw [Ed];exact Kept.below hb _ _ _ _ _ _);have Hrgbc:=ab (show DK (Array.replicate 13 false) wv.drew from by rw [Gm];exact ⟨(Upd.refl _ _).drew,fun _=>(Below.refl _ _).drew,fun e=>absurd e (by decide)⟩);have D3:=ab (fun (i:Nat) L w v q (h:DK L w) (e:Me i v w)=>Reg.hk (Fg.out i L w q h) e (Hrgbx.out w));have Cr:=ab Gm;have Hz:=ab Ed;clear Gm Ed
    go_wp2_with fail
    refine Reg.regionF Me DK Km Hrgbst.out (by kernel_rfl) (by kernel_rfl) (by kernel_rfl) Hrgbc.out (fun Frgb Cn=>?_);simp only [Reg.frame,Reg.dsts,List.map_cons,List.map_nil,Mix.put_lit,Reg.put_none,List.set_cons_succ,List.set_cons_zero,Nat.zero_add,Nat.reduceAdd] at Cn;refine ⟨⟨?_,?_,?_,?_,?_,?_,?_,?_,?_,?_,?_,?_,?_,trivial⟩,?_⟩
    ·intro Lq wq xq hh;simp only [Cn];refine Reg.go rfl ?_;unfold Reg.upon;have hc:DK Lq wq:=hh.cls;rw [Cr.out] at hc;have hsz:=hc.1.size;clear hc;go_simp;have hb1:=AU wq (.cells #[] 21);refine ⟨Fg.out 0 Lq _ rfl  (IS.out Lq wq _ hh.cls hb1),?_,Ft.out wq _ hb1⟩;rw [IF.out];exact ⟨_,rfl,World.ownsRow_lit wq #[] 0 hsz (by decide) rfl⟩
    ·intro Lq wq xq hh;simp only [Cn];refine Reg.go rfl ?_;have HK:=D3.out 1 _ _ _ rfl hh.cls ((Hj.out _ _).mpr rfl);go_simp;exact HK.out
    ·intro Lq wq xq hh;simp only [Cn,(Hj.out _ _).mp (hh.v 1)];refine Reg.go rfl ?_;have hc:DK Lq wq:=hh.cls;rw [Cr.out] at hc;have q5:=(LE.out.below (hc.2.1 (Mix.one_un (hh.notYet 12 (by kernel_rfl))))).1.cell 5 _ rfl;clear hc;have HK:=D3.out 2 _ _ _ rfl hh.cls ((GN.out _ _).mpr rfl);go_simp;exact HK.out
    ·intro Lq wq xq hh;have d0:=(IF.out _ _).mp (hh.v 0);simp only [Cn,(GN.out _ _).mp (hh.v 2)];refine Reg.go rfl ?_;unfold Reg.upon;obtain ⟨g,e0,h0⟩:=d0;rw [e0];have hc:DK Lq wq:=hh.cls;rw [Cr.out] at hc;have Cp:=hc.2.1 (Mix.one_un (hh.notYet 12 (by kernel_rfl)));obtain ⟨v',w',hr,h2,hb1⟩:=ve wq _ 27 g h0 _ H (LE.out.below Cp).2.2.1.ints (by have:=Pf.out;omega) Cp.size;rw [kJ rfl rfl rfl hr];refine ⟨Fg.out 3 Lq _ rfl  (IS.out Lq wq _ hh.cls hb1),?_,Ft.out wq _ hb1⟩;rw [Hn.out];exact h2
    ·intro Lq wq xq hh;simp only [Cn];refine Reg.go rfl ?_;have HK:=D3.out 4 _ _ _ rfl hh.cls ((GS.out _ _).mpr rfl);go_simp;exact HK.out
    ·intro Lq wq xq hh;simp only [Cn];refine Reg.go rfl ?_;have HK:=D3.out 5 _ _ _ rfl hh.cls ((Ib.out _ _).mpr rfl);go_simp;exact HK.out
    ·intro Lq wq xq hh;simp only [Cn,(GS.out _ _).mp (hh.v 4),(Ib.out _ _).mp (hh.v 5)];refine Reg.go rfl ?_;have HK:=D3.out 6 _ _ _ rfl hh.cls ((GQ.out _ _).mpr rfl);go_simp;exact HK.out
    ·intro Lq wq xq hh;simp only [Cn,(GQ.out _ _).mp (hh.v 6)];refine Reg.go rfl ?_;have HK:=D3.out 7 _ _ _ rfl hh.cls ((Hr.out _ _).mpr rfl);go_simp;exact HK.out
    ·intro Lq wq xq hh;simp only [Cn,(Hr.out _ _).mp (hh.v 7)];refine Reg.go rfl ?_;have hc:DK Lq wq:=hh.cls;rw [Cr.out] at hc;have q5:=Jp.out wq hc.1;clear hc;have HK:=D3.out 8 _ _ _ rfl hh.cls ((GL.out _ _).mpr rfl);go_simp;exact HK.out
    ·intro Lq wq xq hh;simp only [Cn,(GL.out _ _).mp (hh.v 8)];refine Reg.go rfl ?_;unfold Reg.upon;have hc:DK Lq wq:=hh.cls;rw [Cr.out] at hc;have hsz:=hc.1.size;clear hc;go_simp;have hb1:=AU wq (.cells #[.int .i32 r] 21);refine ⟨Fg.out 9 Lq _ rfl  (IS.out Lq wq _ hh.cls hb1),?_,Ft.out wq _ hb1⟩;rw [Hk.out];exact ⟨_,rfl,World.ownsRow_lit wq #[.int .i32 r] 1 hsz (by decide) rfl⟩
    ·intro Lq wq xq hh;have d3:=(Hn.out _ _).mp (hh.v 3);have d9:=(Hk.out _ _).mp (hh.v 9);simp only [Cn];refine Reg.go rfl ?_;unfold Reg.upon;obtain ⟨g,e9,h9⟩:=d9;rw [e9];have hc:DK Lq wq:=hh.cls;rw [Cr.out] at hc;have Cp:=hc.2.1 (Mix.one_un (hh.notYet 12 (by kernel_rfl)));obtain ⟨v',w',hr,h2,hb1,hk⟩:=qz wq _ 27 _ _ _ d3 g 0 1 [r] (nz h9).ints (by have:=Pf.out;simp;omega) Cp.size;rw [kJ rfl rfl rfl hr];refine ⟨Fg.out 10 Lq _ rfl  (by rw [Cr.out];exact ⟨Upd.ofBelow (Cp.trans hb1) |>.mono fun b h e=>absurd h (by omega),fun _=>Cp.trans hb1,fun e=>by rw [Mix.one_un (hh.notYet 12 (by kernel_rfl))] at e;exact absurd e (by decide)⟩),?_,by rw [Hz.out];exact hk⟩;rw [FL.out];exact h2
    ·intro Lq wq xq hh;simp only [Cn];refine Reg.go rfl ?_;have HK:=D3.out 11 _ _ _ rfl hh.cls ((FJ.out _ _).mpr rfl);go_simp;exact HK.out
    ·intro Lq wq xq hh;have d10:=(FL.out _ _).mp (hh.v 10);simp only [Cn,(FJ.out _ _).mp (hh.v 11)];refine Reg.go rfl ?_;unfold Reg.upon;have hc:DK Lq wq:=hh.cls;rw [Cr.out] at hc;have Cp:=hc.2.1 hh.un;have hrow:HeldE (aF .i32) (fun b=>wv.heap.size<=b) wq (xq 10) (H++[r]):=by
      have h9:wq.ownsRow wv.heap.size 21 1 (xq 10) (H.length+1) (cN (H++[r])):=by rw [show cN (H++[r])=cN H++cN [r] from by simp [cN]];exact d10
      exact nz h9
     obtain ⟨xo,xk,ex⟩:=hrow.len;have O4:=LE.out.below Cp;have s5:=O4.1.cell 5 _ rfl;have f5:=O4.1.free 5;obtain ⟨nX,hnX⟩:=ae ((H++[r]).length);rw [<-hnX] at ex;have MK:=QB.own (v':=.slice ao nL ca) (gv':=.slice xo nX xk) (bv':=.slice o3 rn k3) (p':=⟨L0,r0',c0',pd0,au0⟩) (n':=(n0:Nat)) LE.out Cp ((Upd.refl (fun b=>b=gq) wq).setCell (p:=⟨gq,5,none⟩) (.inl rfl) (.slice xo nX xk)) (O4.1.set 5 _) (QB.old LE.out.2.1 Cp) (by rw [<-ex];exact hrow.zone fun b _ h=>.inr h) (QB.old LE.out.2.2.2.1 Cp);have hF:DK (Lq.setIfInBounds 12 true) (wq.setCell ⟨gq,5,none⟩ (.slice xo nX xk)):=by
      rw [Cr.out];refine ⟨hc.1.trans ((Upd.refl (fun b=>b=gq) wq).setCell (p:=⟨gq,5,none⟩) (.inl rfl) _),fun e=>?_,fun _=>⟨_,MK⟩⟩;rw [Mix.one_set (by rw [hh.size];decide)] at e;exact absurd e (by decide)
     have hE:Me 12 undef (wq.setCell ⟨gq,5,none⟩ (.slice xo nX xk)):=by rw [Hrgbe12.out]
     have hX:Km wq (wq.setCell ⟨gq,5,none⟩ (.slice xo nX xk)):=by
      rw [Hz.out];have GE:=LE.out.1.lt;have Hu:=(Upd.refl (fun b=>b=gq) wq).setCell (p:=⟨gq,5,none⟩) (.inl rfl) (.slice xo nX xk);exact ⟨fun v n xs h _=>dt h fun g hg=>Hu.block g (h.lt g hg).2 (by have:=(h.lt g hg).1;omega),fun g h=>dt h fun g2 hg=>Hu.block g2 (h.lt g2 hg).2 (by have:=(h.lt g2 hg).1;omega)⟩
     rw [ex];clear hc Cp hrow O4 MK hnX;go_simp;exact ⟨hF,hE,hX⟩
    intro xq wrgb hcrgb hvrgb;rw [Cr.out] at hcrgb;simp only [Cn];clear hvrgb Cn D3 Fg Hrgbx Hrgbst Hrgbc Cr Hz IS Ft IF Hj GN Hn GS Ib GQ Hr GL Hk FL FJ Hrgbe12;obtain ⟨u9,_,GX⟩:=hcrgb;obtain ⟨gv3,MK⟩:=GX (by kernel_rfl);have BM:=ab (And.intro MK (HUI.out.trans u9));clear u9 GX MK;go_wp2
    go_roundw
    case rel=>exact ⟨i+1,gv3,by omega,by omega,by go_num,by rw [Co.out];exact BM.out.1,BM.out.2⟩
    case measure=>simp [intOf] <;> omega
   ·obtain rfl:i=FN:=by omega
    have j1:decide ((i:Int)<(i:Int))=false:=ai (by omega);obtain ⟨go2,gk2,rfl⟩:=Gz.2.2.1.len;obtain ⟨nH,Nu⟩:=ae ((jG G F n0 i).length);rw [<-Nu] at Gz;have q7:=Gz.1.cell 7 _ rfl;have f7:=Gz.1.free 7;obtain ⟨w4,hw4⟩:=ae (wv.setCell ⟨gq,7,none⟩ (.int .i64 (i:Nat)));have Fh:Upd (fun b=>b=gq) wv w4:=by rw [hw4];exact (Upd.refl (fun b=>b=gq) wv).setCell (p:=⟨gq,7,none⟩) (.inl rfl) _
    have h4:=QB.own (v':=.slice ao nL ca) (gv':=.slice go2 nH gk2) (bv':=.slice o3 rn k3) (p':=⟨L0,r0',c0',pd0,au0⟩) (n':=(i:Nat)) Gz (Below.refl _ _) Fh (by rw [hw4];exact Gz.1.set 7 _) (QB.old Gz.2.1 (Below.refl _ _)) (QB.old Gz.2.2.1 (Below.refl _ _)) (QB.old Gz.2.2.2.1 (Below.refl _ _));have H4':=ab (show QB w Z gq gz [.slice none 0 0,.int .i64 0,.int .i64 0,.bool false,.bool false,.slice none 0 0,.slice none 0 0,.int .i64 0] 66 ⟨L0,r0',c0',pd0,au0⟩ GF RW (i:Nat) (.slice ao nL ca) (.slice go2 nH gk2) (.slice o3 rn k3) w4 from by rw [Oo.out,<-KF.out];exact h4);have HIF:=ab (show F.length=i from KF.out.symm);have HW4':=ab hw4;clear Gz ON hw4 Fh h4 Nu
    go_upto_region 10 with (fail)
    rw [<-HW4'.out];clear q7 f7;have q0:=H4'.out.1.cell 0 _ rfl;have q1:=H4'.out.1.cell 1 _ rfl;have q2:=H4'.out.1.cell 2 _ rfl;have q3:=H4'.out.1.cell 3 _ rfl;have q4:=H4'.out.1.cell 4 _ rfl;have q5:=H4'.out.1.cell 5 _ rfl;have q6:=H4'.out.1.cell 6 _ rfl;have q7:=H4'.out.1.cell 7 _ rfl;have s0:=H4'.out.2.2.2.2.1.cell 0 _ rfl;have s1:=H4'.out.2.2.2.2.1.cell 1 _ rfl;have s2:=H4'.out.2.2.2.2.1.cell 2 _ rfl;have s3:=H4'.out.2.2.2.2.1.cell 3 _ rfl;have s4:=H4'.out.2.2.2.2.1.cell 4 _ rfl;have s5:=H4'.out.2.2.2.2.1.cell 5 _ rfl;have s6:=H4'.out.2.2.2.2.1.cell 6 _ rfl;have s7:=H4'.out.2.2.2.2.1.cell 7 _ rfl;have y0:=H4'.out.2.2.2.2.1.free 0;have y1:=H4'.out.2.2.2.2.1.free 1;have y2:=H4'.out.2.2.2.2.1.free 2;have y3:=H4'.out.2.2.2.2.1.free 3;have y4:=H4'.out.2.2.2.2.1.free 4;have y5:=H4'.out.2.2.2.2.1.free 5;have y6:=H4'.out.2.2.2.2.1.free 6;have y7:=H4'.out.2.2.2.2.1.free 7;obtain ⟨W5,CK⟩:=ae (((((((((w4.setCell ⟨gz,0,none⟩ (.slice ao nL ca)).setCell ⟨gz,1,none⟩ (.int .i64 r0')).setCell ⟨gz,2,none⟩ (.int .i64 c0')).setCell ⟨gz,3,none⟩ (.bool pd0)).setCell ⟨gz,4,none⟩ (.bool au0)).setCell ⟨gz,5,none⟩ (.slice go2 nH gk2)).setCell ⟨gz,6,none⟩ (.slice o3 rn k3)).setCell ⟨gz,7,none⟩ (.int .i64 (i:Nat))));have GB:=ab (QB.fin H4'.out (show Upd (fun b=>b=gz) w4 W5 from by rw [CK];exact mj w4 gz (.slice ao nL ca) (.int .i64 r0') (.int .i64 c0') (.bool pd0) (.bool au0) (.slice go2 nH gk2) (.slice o3 rn k3) (.int .i64 (i:Nat))));have Gj:=ab (show Has W5 gz [.slice ao nL ca,.int .i64 r0',.int .i64 c0',.bool pd0,.bool au0,.slice go2 nH gk2,.slice o3 rn k3,.int .i64 (i:Nat)] 66 from by rw [CK];exact ml H4'.out.2.2.2.2.1 (.slice ao nL ca) (.int .i64 r0') (.int .i64 c0') (.bool pd0) (.bool au0) (.slice go2 nH gk2) (.slice o3 rn k3) (.int .i64 (i:Nat)));have DW:=ab CK;clear CK;go_wp2;rw [<-DW.out];have e0:=Gj.out.cell 0 _ rfl;have e1:=Gj.out.cell 1 _ rfl;have e2:=Gj.out.cell 2 _ rfl;have e3:=Gj.out.cell 3 _ rfl;have e4:=Gj.out.cell 4 _ rfl;have e5:=Gj.out.cell 5 _ rfl;have e6:=Gj.out.cell 6 _ rfl;have e7:=Gj.out.cell 7 _ rfl;refine bodyPost_ret (v:=.agg #[.slice ao nL ca,.int .i64 r0',.int .i64 c0',.bool pd0,.bool au0,.slice go2 nH gk2,.slice o3 rn k3,.int .i64 (i:Nat)]) (by simp [results,Tryz.results33,go_sem,e0,e1,e2,e3,e4,e5,e6,e7]) rfl ?_;rw [HIF.out];exact ⟨_,_,_,rfl,GB.out.1,GB.out.2.1,GB.out.2.2.1,GB.out.2.2.2⟩
end Go.Proofs.YtoeggiplcaegoaaGreatDoor
