import Derived.Test.YtoeggiplcaegoaaGreatDoorZ0
import Derived.Test.YtoeggiplcaegoaaGreatDoorMg10
import Derived.Test.YtoeggiplcaegoaaGreatDoorUallP
import Derived.Test.YtoeggiplcaegoaaGreatDoorMg6
import Derived.Test.YtoeggiplcaegoaaGreatDoorMg1
import Derived.Test.YtoeggiplcaegoaaGreatDoorMg4
import Derived.Deep.Cut
import Derived.Deep.CutRange
set_option maxRecDepth 100000
set_option linter.unusedVariables false
set_option linter.unusedSimpArgs false
set_option maxHeartbeats 8000000
namespace Go.Proofs.YtoeggiplcaegoaaGreatDoor
open Go.RowKit Go.ChangeShapes Go.WideShapes
abbrev cM(L:List Int):List Value:=L.map (Value.int .i32)
theorem m8{w:World}{b off n c:Nat}{L:List Int}(h:Held .i32 w (.slice (some ⟨b,off,none⟩) n c) L):∀ j u,(cM L)[j]? = some u->w.cell? ((⟨b,off,none⟩ : Addr).add j)=some u:=fun j u hu=>by
 obtain ⟨ao,cap,e,_,hc⟩:=h
 cases e
 have hj:j<L.length:=by
  have:=(List.getElem?_eq_some_iff.1 hu).1
  simpa using this
 obtain ⟨b2,o2,e2,_,hcell⟩:=hc j hj
 cases e2
 rw [List.getElem?_map,List.getElem?_eq_getElem hj] at hu;simp only [Option.map_some,Option.some.injEq] at hu;rw [<-hu];have e3:L.getD j 0=L[j]:=by simp [List.getD,List.getElem?_eq_getElem hj]
 rw [<-e3];simp only [Addr.add]
 split
 ·rename_i h0;subst h0;exact hcell
 ·exact hcell
theorem lT(L:List Int):∀ u ∈ cM L,u.oneCell'=true:=fun u hu=>by
 obtain ⟨x,_,rfl⟩:=List.mem_map.1 hu
 rfl
theorem p8(w:World)(B:Nat)(ty:TypeId)(v:Value)(n:Nat)(xs:List Value)(hown:w.ownsRow B 21 1 v n xs)(b off c:Nat)(L:List Int)(hu:Held .i32 w (.slice (some ⟨b,off,none⟩) L.length c) L)
  (hn:n+L.length<=2000000) (hbase:B<=w.heap.size) :
  ∃ v' w',(Builtin.append_ #[27,27] ty #[v,.slice (some ⟨b,off,none⟩) L.length c]).run Tryz.prog w=.ok v' w'/\w'.ownsRow B 21 1 v' (n+L.length) (xs++cM L)/\Below B w w'/\Kept w w' B 21 1 (xs++cM L) (cM L) L.length:=by
 obtain ⟨i0,hi,hz0,hz1,hz2⟩:=info_parts fw;obtain ⟨v',w',hr,h2,h3,h4⟩:=kG (P:=Tryz.prog) w B 27 ty 21 i0 _ 1 4 Tryz.underlying27 hi hz0 hz1 hz2 rfl (by decide) v n xs hown ⟨b,off,none⟩ L.length c (cM L) (by simp) (m8 hu) (lT L) (by unfold maxLen;omega) (by omega) hbase;exact ⟨v',w',hr,h2,(Below.refl B w).grown h3 hbase fun k hk=>(hown.lt k hk).1,h4⟩
theorem ua(w:World)(B:Nat)(ty:TypeId)(g:Nat)(hown:w.ownsRow B 21 1 (.slice (some ⟨g,0,none⟩) 0 0) 0 [])(u:Value)(L:List Int)(hu:Held .i32 w u L)(hn:L.length<=1000000)(hbase:B<=w.heap.size) :
  ∃ v' w',(Builtin.append_ #[27,27] ty #[.slice (some ⟨g,0,none⟩) 0 0,u]).run Tryz.prog w=.ok v' w'/\w'.ownsRow B 21 1 v' L.length (cM L)/\Below w.heap.size w w':=by
 obtain ⟨i0,hi,hz0,hz1,hz2⟩:=info_parts fw
 by_cases h0:L=[]
 ·subst h0;refine ⟨_,w,?_,hown,Below.refl _ _⟩;obtain ⟨ao,cap,rfl,_⟩:=hu
  cases ao with
  |none=>simp [Builtin.append_,run_underlying Tryz.underlying27,sizeOf,typeInfo,hi,Builtin.lenOf,Builtin.firstCells,storeCells]
  |some ad=>simp [Builtin.append_,run_underlying Tryz.underlying27,sizeOf,typeInfo,hi,Builtin.lenOf,Builtin.firstCells,loadCells,loadCellsFrom,storeCells]
 ·obtain ⟨ao,cap,rfl,hh⟩:=hu.view;have Ci:0<L.length:=List.length_pos_iff.2 h0;obtain ⟨b,off,rfl,_⟩:=hh 0 Ci;obtain ⟨v',w',hr,h2,h3,_,h5⟩:=eG (P:=Tryz.prog) w B 27 ty 21 i0 _ 1 4 Tryz.underlying27 hi hz0 hz1 hz2 rfl (by decide) _ 0 [] hown ⟨b,off,none⟩ L.length cap (cM L) (by simp) (m8 hu) (lT L) (by unfold maxLen;omega) (by omega) hbase;refine ⟨v',w',hr,by simpa using h2,?_⟩
  rcases h5 with h5 | ⟨g2,cap2,e1,rfl⟩
  ·exact (Below.refl _ w).grown (⟨h3.os,h3.tape,h3.output,h3.size,fun i hi _=>h5 i hi⟩ : w.grownBy w' none) (Nat.le_refl _) (by simp)
  ·exfalso;simp only [Value.slice.injEq,Option.some.injEq,Addr.mk.injEq,and_true,true_and] at e1;obtain ⟨rfl,rfl⟩:=e1
   rcases h2.2 with ⟨h',_⟩ | ⟨g3,cap3,cur3,h',_,_,KI,_⟩
   ·simp at h'
   ·simp only [Value.slice.injEq,Option.some.injEq,Addr.mk.injEq,and_true,true_and] at h';obtain ⟨rfl,_,rfl⟩:=h';omega
theorem na{w:World}{B n:Nat}{v:Value}{L:List Int}(h:w.ownsRow B 21 1 v n (cM L)):HeldE (aE .i32) (fun b=>B<=b) w v L:=HeldE.ownedInts h
theorem mg{α:Type}{E:Elem α}{Z:an}{w W:World}{x:Value}{L:List α}{gq gz:Nat}{D:List Value}{t:TypeId}{p:Pn}{G bs:List Int}{n:Int}{v gv bv:Value}(hx:HeldE E Z w x L)(hZ:∀ b,Z b->b<w.heap.size)(h:QB w Z gq gz D t p G bs n v gv bv W):HeldE E (fun b=>((Z b\/w.heap.size<=b)/\b≠gq/\b≠gz)/\b<W.heap.size) W x L :=
 (hx.below h.2.2.2.2.2.1).zone fun b hb hz=>by
  have h1:=hZ b hz;have h2:=h.2.2.2.2.2.2.1;have h3:=h.2.2.2.2.2.2.2.1;exact ⟨⟨.inl hz,by omega,by omega⟩,hb⟩
def jy(G F:List Int)(n0 i:Nat):List Int:=G++(F.take i).drop n0
theorem ub(G F:List Int)(n0:Nat):jy G F n0 n0=G:=by
 unfold jy;rw [List.drop_eq_nil_of_le (by rw [List.length_take];omega),List.append_nil]
theorem ud(G F:List Int)(n0 i:Nat)(h0:n0<=i)(hi:i<F.length):jy G F n0 (i+1)=jy G F n0 i++[F.getD i 0]:=by
 unfold jy;rw [List.take_succ_eq_append_getElem hi,List.drop_append_of_le_length (by rw [List.length_take];omega),List.append_assoc]
 simp [List.getD,List.getElem?_eq_getElem hi]
theorem xe(G F:List Int)(n0 i:Nat):(jy G F n0 i).length<=G.length+F.length:=by
 unfold jy;rw [List.length_append,List.length_drop,List.length_take];omega
theorem xf(G F1 F2:List Int):jy G (F1++F2) F1.length (F1++F2).length=G++F2:=by
 unfold jy;rw [List.take_length,List.drop_left]
theorem rv(xs:List Int)(K:Nat)(hK:cx xs K=xs.length):(0<(aF st0 xs).2.2->K=(aA st0 xs).length+1)/\(¬ 0<(aF st0 xs).2.2->K=(aA st0 xs).length)/\∀ i,i<(aA st0 xs).length->(cO xs (cx xs i)).1=(aA st0 xs).getD i 0:=by
 obtain ⟨_,h2⟩:=xy xs K hK;have hl:(ef xs K).length=K:=by unfold ef;rw [List.length_map,em]
 have hv:∀ i,i<K->(ef xs K).getD i 0=(cO xs (cx xs i)).1:=fun i hi=>by
  unfold ef;rw [List.getD,List.getElem?_map,nj xs K i hi]
  rfl
 refine ⟨fun h=>?_,fun h=>?_,fun i hi=>?_⟩
 ·have h2:aA st0 xs++(if 0<(aF st0 xs).2.2 then [65533] else [])=ef xs K:=h2;rw [if_pos h] at h2;rw [<-hl,<-h2];simp
 ·have h2:aA st0 xs++(if 0<(aF st0 xs).2.2 then [65533] else [])=ef xs K:=h2;rw [if_neg h,List.append_nil] at h2;rw [h2,hl]
 ·have h2:aA st0 xs++(if 0<(aF st0 xs).2.2 then [65533] else [])=ef xs K:=h2;have OH:i<K:=by
   rw [<-hl,<-h2,List.length_append];omega
  rw [<-hv i OH,<-h2]
  simp [List.getD,List.getElem?_append_left hi]
theorem yq(xs:List Int):(aA st0 xs).length<=2 * xs.length:=iT st0 xs
theorem p9(Z:an)(v gv bv:Value)(p:Pn)(G bs:List Int)(n:Int)(cv:Value)(c:List Int)(w:World)(hv:HeldE lineE Z w v p.L)(hg:HeldE (aE .i32) Z w gv G)(hb:HeldE (aE .u8) Z w bv bs)(hZ:∀ b,Z b->b<w.heap.size)(hc:HeldE (aE .u8) Z w cv c)(hG:G.length<=600000)(FU:bs.length+c.length<=100000)(hbr:inBytes bs)(KQ:inBytes c)(hn:n=((aA st0 bs).length:Nat)) :
  Calls Tryz.prog 33 #[.agg #[v,.int .i64 p.r,.int .i64 p.c,.bool p.pd,.bool p.au,gv,bv,.int .i64 n],cv] w (RFd Z w p (G++aA (aF st0 bs) c) (bs++c) ((aA st0 (bs++c)).length:Nat)):=by
 obtain ⟨W,hW,hq⟩:=gW Z w [.slice none 0 0,.int .i64 0,.int .i64 0,.bool false,.bool false,.slice none 0 0,.slice none 0 0,.int .i64 0] 66 p G bs n v gv bv hv hg hb hZ;obtain ⟨gq,BS⟩:=ae (w.heap.size);obtain ⟨gz,BW⟩:=ae (w.heap.size+1);rw [<-BW,<-BS] at hq;have HG:=ab (And.intro BS BW);have HQ:=ab hq;obtain ⟨ao,ca,rfl⟩:=hv.len;obtain ⟨go',gk,rfl⟩:=hg.len;obtain ⟨bo,bk,rfl⟩:=hb.len;have PE:=mg hc hZ hq;obtain ⟨co,ck,rfl⟩:=hc.len;obtain ⟨nC,OC⟩:=ae (c.length);have hW2:W=(w.alloc (.cells #[.slice ao p.L.length ca,.int .i64 p.r,.int .i64 p.c,.bool p.pd,.bool p.au,.slice go' G.length gk,.slice bo bs.length bk,.int .i64 n] 66)).alloc (.cells #[.slice none 0 0,.int .i64 0,.int .i64 0,.bool false,.bool false,.slice none 0 0,.slice none 0 0,.int .i64 0] 66):=hW;obtain ⟨nL,CJ⟩:=ae (p.L.length);obtain ⟨nG,CG⟩:=ae (G.length);obtain ⟨nB,CK⟩:=ae (bs.length);have OJ:=ab (And.intro CJ (And.intro CG CK));rw [<-CJ,<-CG,<-CK] at HQ hW2 ⊢;obtain ⟨r0',KB⟩:=ae (p.r);obtain ⟨c0',hc0⟩:=ae (p.c);obtain ⟨pd0,Li⟩:=ae (p.pd);obtain ⟨au0,LZ⟩:=ae (p.au);rw [<-OC] at PE ⊢;have HNC:=ab OC;have HLEN:=ab (And.intro hG FU);have Bb:inBytes (bs++c):=fun i hi=>by
  rw [List.length_append] at hi
  by_cases e:i<bs.length
  ·rw [show (bs++c).getD i 0=bs.getD i 0 from by simp [List.getD,List.getElem?_append_left e]];exact hbr i e
  ·rw [show (bs++c).getD i 0=c.getD (i - bs.length) 0 from by simp [List.getD,List.getElem?_append_right (show bs.length<=i by omega)]];exact KQ _ (by omega)
 have IJ:=ab Bb;have OD:=ab (show aA st0 (bs++c)=aA st0 bs++aA (aF st0 bs) c from iB _ _ _);obtain ⟨n0,Du⟩:=ae ((aA st0 bs).length);obtain rfl:n=(n0:Nat):=by rw [hn,Du]
 have HN0:=ab Du;obtain ⟨RW,Oa⟩:=ae (bs++c);rw [<-Oa] at IJ OD ⊢;have JG:=ab (show RW.length=bs.length+c.length from by rw [Oa,List.length_append]);have HRW2:=ab Oa;obtain ⟨F,hF⟩:=ae (aA st0 RW);have NI:=ab hF;obtain ⟨GF,PB⟩:=ae (G++aA (aF st0 bs) c);have HGF:=ab (show GF=jy G F n0 F.length from by rw [PB,hF,OD.out,Du,xf]);have IZ:=ab (show n0<=F.length/\F.length<=200000 from by
  have h1:=yq RW;rw [hF];have h2:=JG.out;refine ⟨?_,by omega⟩;rw [OD.out,List.length_append,Du];omega)
 rw [<-hF,<-PB];obtain ⟨⟨L0,r0',c0',pd0,au0⟩,A5⟩ : ∃ q,q=p:=⟨_,rfl⟩;subst A5
 dsimp only at *
 -- the empty row of bytes that is made
 have Dn:=zI W (.cells #[] 5);have AA:OwnE (aE .u8) (fun _=>True) (W.alloc (.cells #[] 5)) W.heap.size 5 (.slice (some ⟨W.heap.size,0,none⟩) 0 0) []:=OwnE.empty (World.ownsRow_lit W #[] 0 (Nat.le_refl _) (by decide) rfl);have Nz:HeldE (aE .u8) (fun b9=>True/\(Value.slice (some ⟨W.heap.size,0,none⟩) 0 0).ownBlock≠some b9) (W.alloc (.cells #[] 5)) (.slice bo nB bk) bs:=((cA HQ.out.2.2.2.1).below Dn).zone fun b9 _ h=>⟨trivial,fun e=>by have h9:=(AA.lt _ e).1;have:=h.2;omega⟩
 have A4:=ab AA;have ML:=ab Nz;have Ah:=ab Dn;have BM:=ab (HQ.out.below Dn);have HCZ:=ab PE;clear hv hg hb hZ hn BS BW hq CJ CG CK hW Dn AA Nz hG FU hbr KQ Bb Du Oa hF PB PE hc OC
 go_enter Tryz.func33,Tryz.ntmps33
 go_upto_region 1 with (fail)
 rw [<-hW2];clear hW2;rw [<-HG.out.2];rw [<-HG.out.1];have q6:=BM.out.1.cell 6 _ rfl
 go_wp2_with (at_builtin;refine aw (E:=aE .u8) (Z:=fun _=>True) rfl (.tmp 7) (.tmp 9) 55 rfl (.int .u8 0) 1 Tryz.underlying55 kQ rfl (by decide) rfl rfl A4.out ML.out (by have:=HLEN.out;simp;omega) (by have:=HLEN.out;simp;omega) Ah.out.size ?_)
 intro v2 w2 Ap b2 _ _
 try rw [List.nil_append] at Ap
 have AM:=ab (Ah.out.trans b2);have hcz2:=HCZ.out.below AM.out;have AF:=Ap.lt;have HU2:=ab (show HeldE (aE .u8) (fun b=>True/\v2.ownBlock≠some b) w2 (.slice co nC ck) c from hcz2.zone fun b9 _ h=>⟨trivial,fun e=>by have h9:=(AF _ e).1;have:=h.2;omega⟩);have E3:=ab Ap;clear q6 b2 hcz2 AF Ap
 go_wp2_with (at_builtin;refine aw (E:=aE .u8) (Z:=fun _=>True) rfl (.tmp 10) (.tmp 11) 55 rfl (.int .u8 0) 1 Tryz.underlying55 kQ rfl (by decide) rfl rfl E3.out HU2.out (by have:=HLEN.out;omega) (by have:=HLEN.out;omega) AM.out.size ?_)
 intro v3 w3 DF b3 _ _;rw [<-HRW2.out] at DF;have Cq:HeldE (aE .u8) (fun b=>W.heap.size<=b) w3 v3 RW:=(dH (Z:=fun b=>W.heap.size<=b) DF.ints).held fun b hb _=>hb
 have Gb:=AM.out.trans b3;obtain ⟨o3,k3,rfl⟩:=Cq.len;have hcap3:yI (.slice o3 RW.length k3):=fun ao n c e=>by
  cases e
  obtain ⟨_,h2,_⟩:=Cq.spots;exact h2
 have DZ:=HQ.out.below Gb;have q6:=DZ.1.cell 6 _ rfl;have f6:=DZ.1.free 6;obtain ⟨w4,hw4⟩:=ae (w3.setCell ⟨gq,6,none⟩ (.slice o3 RW.length k3));have DI:Upd (fun b=>b=gq) w3 w4:=by rw [hw4];exact (Upd.refl (fun b=>b=gq) w3).setCell (p:=⟨gq,6,none⟩) (.inl rfl) _
 have h4:QB w Z gq gz [.slice none 0 0,.int .i64 0,.int .i64 0,.bool false,.bool false,.slice none 0 0,.slice none 0 0,.int .i64 0] 66 ⟨L0,r0',c0',pd0,au0⟩ G RW (n0:Nat) (.slice ao nL ca) (.slice go' nG gk) (.slice o3 RW.length k3) w4:=QB.own HQ.out Gb DI (by rw [hw4];exact DZ.1.set 6 _) (QB.old HQ.out.2.1 Gb) (QB.old HQ.out.2.2.1 Gb) (Cq.zone fun b _ h=>.inr h);have JU:=ab (xt (.slice o3 RW.length k3) RW w4 h4.2.2.2.1.ints hcap3 (by have:=JG.out;have:=HLEN.out;omega) IJ.out);have FF:=ab (show ∀ w',Below w4.heap.size w4 w'->Calls Tryz.prog 38 #[.agg #[.slice ao nL ca,.int .i64 r0',.int .i64 c0',.bool pd0,.bool au0,.slice go' nG gk,.slice o3 RW.length k3,.int .i64 (n0:Nat)]] w' (Gives w' (.int .i64 (aF st0 RW).2.2)) from fun w' h=>iV _ _ _ _ ⟨L0,r0',c0',pd0,au0⟩ G RW (n0:Nat) w' (cA (h4.below h).2.1) (cA (h4.below h).2.2.1) (cA (h4.below h).2.2.2.1) (by have:=JG.out;have:=HLEN.out;omega) IJ.out);obtain ⟨rn,J4⟩:=ae (RW.length);rw [<-J4] at hw4 h4 JU FF ⊢;have H4:=ab h4;have FO:=ab hw4;have HRN:=ab J4;clear DF b3 Cq Gb hcap3 DZ hw4 DI h4 J4
 go_upto_region 2 with (fail)
 rw [<-FO.out];clear q6 f6;have q6:=H4.out.1.cell 6 _ rfl
 go_wp2_with fail
 refine JU.out.mono ?_;rintro e w5 ⟨K,vl,rfl,hK,EQ,b5⟩;obtain ⟨pt1,pt2,pt3⟩:=rv RW K hK;rw [<-NI.out] at pt1 pt2 pt3;have OI:=mi EQ;have hlt5:=fun k hk=>(EQ.lt k hk)
 have hcap5:∀ a9 n9 c9,vl=.slice a9 n9 c9->n9<=c9/\n9=K:=fun a9 n9 c9 e=>by
  rcases EQ.2 with ⟨e2,DW⟩ | ⟨g9,cap9,cur9,e2,_,_,KI,_⟩
  ·rw [e2] at e;cases e;exact ⟨Nat.le_refl _,DW.symm⟩
  ·rw [e2] at e;cases e;exact ⟨KI,rfl⟩
 obtain ⟨lo,lk,Kh,_⟩:=id OI;have hpl:(bK RW K).length=K:=em RW K;rw [hpl] at Kh;subst Kh;have Nf:=(hcap5 _ _ _ rfl).1;obtain ⟨hd,JM⟩:=ae ((aF st0 RW).2.2);rw [<-JM] at pt1 pt2;have HHD:=ab (show ∀ w',Below w4.heap.size w4 w'->Calls Tryz.prog 38 #[.agg #[.slice ao nL ca,.int .i64 r0',.int .i64 c0',.bool pd0,.bool au0,.slice go' nG gk,.slice o3 rn k3,.int .i64 (n0:Nat)]] w' (Gives w' (.int .i64 hd)) from fun w' h=>by rw [JM];exact FF.out w' h);have Kn:=ab (H4.out.below b5);have B5:=ab b5;have JP:=ab (show ∀ i,i<F.length->∃ b off,lo=some ⟨b,off,none⟩/\b≠gq/\b<w5.heap.size/\w5.cell? ⟨b,off+i * 5,none⟩=some (.int .i32 (F.getD i 0)) from fun i hi=>by
  have OH:i<K:=by by_cases h:0<hd;have:=pt1 h;omega;have:=pt2 h;omega
  obtain ⟨b,off,e,h1,h2,_⟩:=xC OI i OH;have hown:=(hlt5 b (by rw [e];rcases EQ.2 with ⟨e2,DW⟩ | ⟨g9,cap9,cur9,e2,_⟩;(cases e2;cases e);(rw [e] at e2;cases e2;rfl))).1;exact ⟨b,off,e,by have:=H4.out.1.lt;omega,h1,by rw [h2,pt3 i hi]⟩)
 have NR:=ab (And.intro pt1 (And.intro pt2 Nf));clear q6 EQ b5 hK pt1 pt2 pt3 OI hlt5 hcap5 hpl JM JU FF Nf;obtain ⟨FN,NU⟩:=ae (F.length);have J9:=ab NU;obtain ⟨tb,OR⟩ : ∃ tb:Bool,decide ((0:Int)<hd)=tb:=⟨_,rfl⟩;have HTB:=ab (show (tb=true->K=FN+1)/\(tb=false->K=FN) from ⟨fun e=>by rw [NU];exact NR.out.1 (of_decide_eq_true (OR.trans e)),fun e=>by rw [NU];exact NR.out.2.1 (of_decide_eq_false (OR.trans e))⟩);have Pa:=ab NR.out.2.2;clear NU NR;have q0:=Kn.out.1.cell 0 _ rfl;have q1:=Kn.out.1.cell 1 _ rfl;have q2:=Kn.out.1.cell 2 _ rfl;have q3:=Kn.out.1.cell 3 _ rfl;have q4:=Kn.out.1.cell 4 _ rfl;have q5:=Kn.out.1.cell 5 _ rfl;have q6:=Kn.out.1.cell 6 _ rfl;have q7:=Kn.out.1.cell 7 _ rfl
 go_wp2_with fail
 refine (HHD.out w5 B5.out).mono ?_;rintro e w6 ⟨rfl,b6⟩;have HQ6:=ab (Kn.out.below b6);have B6:=ab b6;clear b6 q0 q1 q2 q3 q4 q5 q6 q7
 go_upto_if 19 with (fail)
 clear OR
 go_cut [5] from 19 to 24 (fun lv wx=>lv=.slice lo FN lk/\wx=w6)
 case first =>
  cases tb with
  |true =>
   have hKe:=HTB.out.1 rfl;have hwK:IntKind.i64.wrap ((K:Int) - 1)=(FN:Int):=by have:=IZ.out;have:=J9.out;rw [IntKind.wrap_i64];omega
   have Nf:=Pa.out;have hFc:FN<=lk:=by omega
   have hFci:(FN:Int)<=(lk:Int):=by omega
   clear hKe Nf;go_wp2;go_meet
   case rel=>exact ⟨rfl,rfl⟩
  |false =>
   go_wp2;go_meet
   case rel=>exact ⟨by rw [HTB.out.2 (by trivial)],rfl⟩
 case rest =>
  obtain ⟨rfl,rfl⟩:=hcut;obtain ⟨w6,DO⟩:=ae (wc);subst DO;have q7:=HQ6.out.1.cell 7 _ rfl;go_wp2
  go_loopw [6] (fun iv wr=>∃ (i:Nat) (gv2:Value),n0<=i/\i<=FN/\iv=.int .i64 i/\QB w Z gq gz [.slice none 0 0,.int .i64 0,.int .i64 0,.bool false,.bool false,.slice none 0 0,.slice none 0 0,.int .i64 0] 66 ⟨L0,r0',c0',pd0,au0⟩ (jy G F n0 i) RW (n0:Nat) (.slice ao nL ca) gv2 (.slice o3 rn k3) wr/\Upd (fun b=>b=gq) w6 wr) (fun iv _=>FN - (intOf iv).toNat)
  case atStart=>exact ⟨n0,_,Nat.le_refl _,by rw [J9.out];exact IZ.out.1,rfl,by rw [ub];exact HQ6.out,Upd.refl _ _⟩
  case round =>
   obtain ⟨i,gv2,Ki,hi,rfl,Gj,Oh⟩:=hrel;obtain ⟨wv,Cb⟩:=ae (wr);subst Cb;clear q7
   by_cases hlt:i<FN
   ·have j1:decide ((i:Int)<(FN:Int))=true:=ah (by omega);have j2:decide (i<FN)=true:=ah (by omega);have OA:(i:Int)<(FN:Int):=by omega
    have OP:IntKind.i64.wrap ((i:Int)+1)=(i:Int)+1:=by have:=IZ.out;have:=J9.out;rw [IntKind.wrap_i64];omega
    obtain ⟨bl,ol,rfl,MX,hbl,DH⟩:=JP.out i (by rw [<-J9.out];exact hlt);obtain ⟨r,hr⟩:=ae (F.getD i 0);rw [<-hr] at DH;obtain ⟨H,hH⟩:=ae (jy G F n0 i);have Bh:=ab (show jy G F n0 (i+1)=H++[r] from by rw [hH,hr];exact ud G F n0 i Ki (by rw [<-J9.out];exact hlt));have NS:=ab (show H.length<=999998 from by rw [hH];have:=xe G F n0 i;have:=IZ.out;have:=HLEN.out;omega);rw [<-hH] at Gj;obtain ⟨hoo,M5,rfl⟩:=Gj.2.2.1.len;have KH:=ab Gj;have HUI:=ab Oh;have Gp:=ab (show ∀ w',Upd (fun b=>b=gq) wv w'->w'.cell? ⟨bl,ol+i * 5,none⟩=some (.int .i32 r) from fun w' h=>(World.cell?_of_block (a:=⟨bl,ol+i * 5,none⟩) ((Oh.trans h).block bl (Nat.lt_of_lt_of_le hbl B6.out.size) MX)).trans ((B6.out.cell (p:=⟨bl,ol+i * 5,none⟩) hbl).trans DH));obtain ⟨nH,Mn⟩:=ae (H.length);have HNH:=ab Mn;rw [<-Mn] at KH;have BS:=Gj.1.lt;have hgle:=Gj.2.2.2.2.2.1.size;clear Gj Oh DH hr hH Mn
    go_upto_region 8 with (fail)
    obtain ⟨A2,CB⟩ : ∃ CC:Array Bool->World->Prop,CC=fun L8 w'=>Upd (fun b=>b=gq) wv w'/\(Mix.one L8 12=0->Below wv.heap.size wv w')/\(Mix.one L8 12=1->∃ gv3,QB w Z gq gz [.slice none 0 0,.int .i64 0,.int .i64 0,.bool false,.bool false,.slice none 0 0,.slice none 0 0,.int .i64 0] 66 ⟨L0,r0',c0',pd0,au0⟩ (H++[r]) RW (n0:Nat) (.slice ao nL ca) gv3 (.slice o3 rn k3) w'):=⟨_,rfl⟩
    obtain ⟨Fb,BY⟩ : ∃ XX:World->World->Prop,XX=fun x y=>Kept x y wv.heap.size 21 1 (cM H++cM [r]) (cM [r]) 1:=⟨_,rfl⟩
    obtain ⟨Hv,Eg,C8,CZ,Df,CX,Da,C0,C7,DC,GZ,Hp,Ft,E5,Hrgbe12,_,_,_⟩:=Reg.e16 Fb
     (fun x w=>∃ g,x=.slice (some ⟨g,0,none⟩) 0 0/\w.ownsRow wv.heap.size 21 1 (.slice (some ⟨g,0,none⟩) 0 0) 0 [])
     (fun xx _=>xx=.pointer (some ⟨gq,5,none⟩))
     (fun xx _=>xx=.slice hoo nH M5)
     (fun x w=>w.ownsRow wv.heap.size 21 1 x H.length (cM H))
     (fun xx _=>xx=.slice (some ⟨bl,ol,none⟩) FN lk)
     (fun xx _=>xx=.int .i64 i)
     (fun xx _=>xx=.pointer (some ⟨bl,ol+i * 5,none⟩))
     (fun xx _=>xx=.pointer (some ⟨bl,ol+i * 5,none⟩))
     (fun xx _=>xx=.int .i32 r)
     (fun x w=>∃ g,x=.slice (some ⟨g,0,none⟩) 1 1/\w.ownsRow wv.heap.size 21 1 (.slice (some ⟨g,0,none⟩) 1 1) 1 (cM [r]))
     (fun x w=>w.ownsRow wv.heap.size 21 1 x (H.length+1) (cM H++cM [r]))
     (fun xx _=>xx=.pointer (some ⟨gq,5,none⟩))
     (fun xx _=>xx=undef)
     (fun _ _=>True) (fun _ _=>True) (fun _ _=>True)
     (s0:=fun x w w1 hx h=>by rw [BY] at hx;first | exact hx.1 _ _ _ h (List.prefix_append _ _) | exact hx.1 _ _ _ h (List.prefix_refl _) | (obtain ⟨g,e,h⟩:=h;exact ⟨g,e,hx.1 _ _ _ h (List.nil_prefix)⟩) | (obtain ⟨g,e,h⟩:=h;exact ⟨g,e,hx.2 _ h⟩))
     (s3:=fun x w w1 hx h=>by rw [BY] at hx;first | exact hx.1 _ _ _ h (List.prefix_append _ _) | exact hx.1 _ _ _ h (List.prefix_refl _) | (obtain ⟨g,e,h⟩:=h;exact ⟨g,e,hx.1 _ _ _ h (List.nil_prefix)⟩) | (obtain ⟨g,e,h⟩:=h;exact ⟨g,e,hx.2 _ h⟩))
     (s9:=fun x w w1 hx h=>by rw [BY] at hx;first | exact hx.1 _ _ _ h (List.prefix_append _ _) | exact hx.1 _ _ _ h (List.prefix_refl _) | (obtain ⟨g,e,h⟩:=h;exact ⟨g,e,hx.1 _ _ _ h (List.nil_prefix)⟩) | (obtain ⟨g,e,h⟩:=h;exact ⟨g,e,hx.2 _ h⟩))
     (s10:=fun x w w1 hx h=>by rw [BY] at hx;first | exact hx.1 _ _ _ h (List.prefix_append _ _) | exact hx.1 _ _ _ h (List.prefix_refl _) | (obtain ⟨g,e,h⟩:=h;exact ⟨g,e,hx.1 _ _ _ h (List.nil_prefix)⟩) | (obtain ⟨g,e,h⟩:=h;exact ⟨g,e,hx.2 _ h⟩))
    have Dm:Hid (∀ i L w,(i == 12)=false ->  A2 L w->A2 (L.setIfInBounds i true) w):=ab (by
     intro i L w q h;simp only [Bool.or_eq_false_iff,beq_eq_false_iff_ne] at q;rw [CB] at h ⊢;simp only [Mix.one_ne q];exact h)
    have EO:Hid (∀ L w w1,A2 L w->Below w.heap.size w w1->A2 L w1):=ab (by
     intro L w w1 h hb;rw [CB] at h ⊢
     (obtain ⟨q1,q2,q4⟩:=h;exact ⟨q1.trans (Upd.ofBelow hb |>.mono fun b hb e=>absurd hb (by have:=q1.size;omega)),fun e=>(q2 e).trans (hb.mono (q2 e).size),fun e=>by obtain ⟨gv3,h1⟩:=q4 e;exact ⟨gv3,h1.below hb⟩⟩))
    have F5:=ab (show ∀ w,Fb w w from fun w=>by rw [BY];exact Kept.refl _ _ _ _ _ _ _);have DD:=ab (show ∀ w w1,Below w.heap.size w w1->Fb w w1 from fun w w1 hb=>by rw [BY];exact Kept.below hb _ _ _ _ _ _);have FK:=ab (show A2 (Array.replicate 13 false) wv.drew from by rw [CB];exact ⟨(Upd.refl _ _).drew,fun _=>(Below.refl _ _).drew,fun e=>absurd e (by decide)⟩);have A7:=ab (fun (i:Nat) L w v q (h:A2 L w) (e:Hv i v w)=>Reg.hk (Dm.out i L w q h) e (F5.out w));have Az:=ab CB;have C5:=ab BY;clear CB BY
    go_wp2_with fail
    refine Reg.regionF Hv A2 Fb Eg.out (by kernel_rfl) (by kernel_rfl) (by kernel_rfl) FK.out (fun Frgb Aw=>?_);simp only [Reg.frame,Reg.dsts,List.map_cons,List.map_nil,Mix.put_lit,Reg.put_none,List.set_cons_succ,List.set_cons_zero,Nat.zero_add,Nat.reduceAdd] at Aw;refine ⟨⟨?_,?_,?_,?_,?_,?_,?_,?_,?_,?_,?_,?_,?_,trivial⟩,?_⟩
    ·intro Lq wq xq hh;simp only [Aw];refine Reg.go rfl ?_;unfold Reg.upon;have hc:A2 Lq wq:=hh.cls;rw [Az.out] at hc;have hsz:=hc.1.size;clear hc;go_simp;have hb1:=zI wq (.cells #[] 21);refine ⟨Dm.out 0 Lq _ rfl  (EO.out Lq wq _ hh.cls hb1),?_,DD.out wq _ hb1⟩;rw [C8.out];exact ⟨_,rfl,World.ownsRow_lit wq #[] 0 hsz (by decide) rfl⟩
    ·intro Lq wq xq hh;simp only [Aw];refine Reg.go rfl ?_;have HK:=A7.out 1 _ _ _ rfl hh.cls ((CZ.out _ _).mpr rfl);go_simp;exact HK.out
    ·intro Lq wq xq hh;simp only [Aw,(CZ.out _ _).mp (hh.v 1)];refine Reg.go rfl ?_;have hc:A2 Lq wq:=hh.cls;rw [Az.out] at hc;have q5:=(KH.out.below (hc.2.1 (Mix.one_un (hh.notYet 12 (by kernel_rfl))))).1.cell 5 _ rfl;clear hc;have HK:=A7.out 2 _ _ _ rfl hh.cls ((Df.out _ _).mpr rfl);go_simp;exact HK.out
    ·intro Lq wq xq hh;have d0:=(C8.out _ _).mp (hh.v 0);simp only [Aw,(Df.out _ _).mp (hh.v 2)];refine Reg.go rfl ?_;unfold Reg.upon;obtain ⟨g,e0,h0⟩:=d0;rw [e0];have hc:A2 Lq wq:=hh.cls;rw [Az.out] at hc;have Bj:=hc.2.1 (Mix.one_un (hh.notYet 12 (by kernel_rfl)));obtain ⟨v',w',hr,h2,hb1⟩:=ua wq _ 27 g h0 _ H (KH.out.below Bj).2.2.1.ints (by have:=NS.out;omega) Bj.size;rw [kC rfl rfl rfl hr];refine ⟨Dm.out 3 Lq _ rfl  (EO.out Lq wq _ hh.cls hb1),?_,DD.out wq _ hb1⟩;rw [CX.out];exact h2
    ·intro Lq wq xq hh;simp only [Aw];refine Reg.go rfl ?_;have HK:=A7.out 4 _ _ _ rfl hh.cls ((Da.out _ _).mpr rfl);go_simp;exact HK.out
    ·intro Lq wq xq hh;simp only [Aw];refine Reg.go rfl ?_;have HK:=A7.out 5 _ _ _ rfl hh.cls ((C0.out _ _).mpr rfl);go_simp;exact HK.out
    ·intro Lq wq xq hh;simp only [Aw,(Da.out _ _).mp (hh.v 4),(C0.out _ _).mp (hh.v 5)];refine Reg.go rfl ?_;have HK:=A7.out 6 _ _ _ rfl hh.cls ((C7.out _ _).mpr rfl);go_simp;exact HK.out
    ·intro Lq wq xq hh;simp only [Aw,(C7.out _ _).mp (hh.v 6)];refine Reg.go rfl ?_;have HK:=A7.out 7 _ _ _ rfl hh.cls ((DC.out _ _).mpr rfl);go_simp;exact HK.out
    ·intro Lq wq xq hh;simp only [Aw,(DC.out _ _).mp (hh.v 7)];refine Reg.go rfl ?_;have hc:A2 Lq wq:=hh.cls;rw [Az.out] at hc;have q5:=Gp.out wq hc.1;clear hc;have HK:=A7.out 8 _ _ _ rfl hh.cls ((GZ.out _ _).mpr rfl);go_simp;exact HK.out
    ·intro Lq wq xq hh;simp only [Aw,(GZ.out _ _).mp (hh.v 8)];refine Reg.go rfl ?_;unfold Reg.upon;have hc:A2 Lq wq:=hh.cls;rw [Az.out] at hc;have hsz:=hc.1.size;clear hc;go_simp;have hb1:=zI wq (.cells #[.int .i32 r] 21);refine ⟨Dm.out 9 Lq _ rfl  (EO.out Lq wq _ hh.cls hb1),?_,DD.out wq _ hb1⟩;rw [Hp.out];exact ⟨_,rfl,World.ownsRow_lit wq #[.int .i32 r] 1 hsz (by decide) rfl⟩
    ·intro Lq wq xq hh;have d3:=(CX.out _ _).mp (hh.v 3);have d9:=(Hp.out _ _).mp (hh.v 9);simp only [Aw];refine Reg.go rfl ?_;unfold Reg.upon;obtain ⟨g,e9,h9⟩:=d9;rw [e9];have hc:A2 Lq wq:=hh.cls;rw [Az.out] at hc;have Bj:=hc.2.1 (Mix.one_un (hh.notYet 12 (by kernel_rfl)));obtain ⟨v',w',hr,h2,hb1,hk⟩:=p8 wq _ 27 _ _ _ d3 g 0 1 [r] (na h9).ints (by have:=NS.out;simp;omega) Bj.size;rw [kC rfl rfl rfl hr];refine ⟨Dm.out 10 Lq _ rfl  (by rw [Az.out];exact ⟨Upd.ofBelow (Bj.trans hb1) |>.mono fun b h e=>absurd h (by omega),fun _=>Bj.trans hb1,fun e=>by rw [Mix.one_un (hh.notYet 12 (by kernel_rfl))] at e;exact absurd e (by decide)⟩),?_,by rw [C5.out];exact hk⟩;rw [Ft.out];exact h2
    ·intro Lq wq xq hh;simp only [Aw];refine Reg.go rfl ?_;have HK:=A7.out 11 _ _ _ rfl hh.cls ((E5.out _ _).mpr rfl);go_simp;exact HK.out
    ·intro Lq wq xq hh;have d10:=(Ft.out _ _).mp (hh.v 10);simp only [Aw,(E5.out _ _).mp (hh.v 11)];refine Reg.go rfl ?_;unfold Reg.upon;have hc:A2 Lq wq:=hh.cls;rw [Az.out] at hc;have Bj:=hc.2.1 hh.un;have hrow:HeldE (aE .i32) (fun b=>wv.heap.size<=b) wq (xq 10) (H++[r]):=by
      have h9:wq.ownsRow wv.heap.size 21 1 (xq 10) (H.length+1) (cM (H++[r])):=by rw [show cM (H++[r])=cM H++cM [r] from by simp [cM]];exact d10
      exact na h9
     obtain ⟨xo,xk,ex⟩:=hrow.len;have NQ:=KH.out.below Bj;have s5:=NQ.1.cell 5 _ rfl;have f5:=NQ.1.free 5;obtain ⟨nX,hnX⟩:=ae ((H++[r]).length);rw [<-hnX] at ex;have Lz:=QB.own (v':=.slice ao nL ca) (gv':=.slice xo nX xk) (bv':=.slice o3 rn k3) (p':=⟨L0,r0',c0',pd0,au0⟩) (n':=(n0:Nat)) KH.out Bj ((Upd.refl (fun b=>b=gq) wq).setCell (p:=⟨gq,5,none⟩) (.inl rfl) (.slice xo nX xk)) (NQ.1.set 5 _) (QB.old KH.out.2.1 Bj) (by rw [<-ex];exact hrow.zone fun b _ h=>.inr h) (QB.old KH.out.2.2.2.1 Bj);have hF:A2 (Lq.setIfInBounds 12 true) (wq.setCell ⟨gq,5,none⟩ (.slice xo nX xk)):=by
      rw [Az.out];refine ⟨hc.1.trans ((Upd.refl (fun b=>b=gq) wq).setCell (p:=⟨gq,5,none⟩) (.inl rfl) _),fun e=>?_,fun _=>⟨_,Lz⟩⟩;rw [Mix.one_set (by rw [hh.size];decide)] at e;exact absurd e (by decide)
     have hE:Hv 12 undef (wq.setCell ⟨gq,5,none⟩ (.slice xo nX xk)):=by rw [Hrgbe12.out]
     have hX:Fb wq (wq.setCell ⟨gq,5,none⟩ (.slice xo nX xk)):=by
      rw [C5.out];have JY:=KH.out.1.lt;have hset:=(Upd.refl (fun b=>b=gq) wq).setCell (p:=⟨gq,5,none⟩) (.inl rfl) (.slice xo nX xk);exact ⟨fun v n xs h _=>dn h fun g hg=>hset.block g (h.lt g hg).2 (by have:=(h.lt g hg).1;omega),fun g h=>dn h fun g2 hg=>hset.block g2 (h.lt g2 hg).2 (by have:=(h.lt g2 hg).1;omega)⟩
     rw [ex];clear hc Bj hrow NQ Lz hnX;go_simp;exact ⟨hF,hE,hX⟩
    intro xq wrgb D2 JF;rw [Az.out] at D2;simp only [Aw];clear JF Aw A7 Dm F5 Eg FK Az C5 EO DD C8 CZ Df CX Da C0 C7 DC GZ Hp Ft E5 Hrgbe12;obtain ⟨u9,_,GH⟩:=D2;obtain ⟨gv3,Lz⟩:=GH (by kernel_rfl);have AN:=ab (And.intro Lz (HUI.out.trans u9));clear u9 GH Lz;go_wp2
    go_roundw
    case rel=>exact ⟨i+1,gv3,by omega,by omega,by go_num,by rw [Bh.out];exact AN.out.1,AN.out.2⟩
    case measure=>simp [intOf] <;> omega
   ·obtain rfl:i=FN:=by omega
    have j1:decide ((i:Int)<(i:Int))=false:=ai (by omega);obtain ⟨go2,gk2,rfl⟩:=Gj.2.2.1.len;obtain ⟨nH,Mn⟩:=ae ((jy G F n0 i).length);rw [<-Mn] at Gj;have q7:=Gj.1.cell 7 _ rfl;have f7:=Gj.1.free 7;obtain ⟨w4,hw4⟩:=ae (wv.setCell ⟨gq,7,none⟩ (.int .i64 (i:Nat)));have DI:Upd (fun b=>b=gq) wv w4:=by rw [hw4];exact (Upd.refl (fun b=>b=gq) wv).setCell (p:=⟨gq,7,none⟩) (.inl rfl) _
    have h4:=QB.own (v':=.slice ao nL ca) (gv':=.slice go2 nH gk2) (bv':=.slice o3 rn k3) (p':=⟨L0,r0',c0',pd0,au0⟩) (n':=(i:Nat)) Gj (Below.refl _ _) DI (by rw [hw4];exact Gj.1.set 7 _) (QB.old Gj.2.1 (Below.refl _ _)) (QB.old Gj.2.2.1 (Below.refl _ _)) (QB.old Gj.2.2.2.1 (Below.refl _ _));have H4':=ab (show QB w Z gq gz [.slice none 0 0,.int .i64 0,.int .i64 0,.bool false,.bool false,.slice none 0 0,.slice none 0 0,.int .i64 0] 66 ⟨L0,r0',c0',pd0,au0⟩ GF RW (i:Nat) (.slice ao nL ca) (.slice go2 nH gk2) (.slice o3 rn k3) w4 from by rw [HGF.out,<-J9.out];exact h4);have HIF:=ab (show F.length=i from J9.out.symm);have HW4':=ab hw4;clear Gj Oh hw4 DI h4 Mn
    go_upto_region 10 with (fail)
    rw [<-HW4'.out];clear q7 f7;have q0:=H4'.out.1.cell 0 _ rfl;have q1:=H4'.out.1.cell 1 _ rfl;have q2:=H4'.out.1.cell 2 _ rfl;have q3:=H4'.out.1.cell 3 _ rfl;have q4:=H4'.out.1.cell 4 _ rfl;have q5:=H4'.out.1.cell 5 _ rfl;have q6:=H4'.out.1.cell 6 _ rfl;have q7:=H4'.out.1.cell 7 _ rfl;have s0:=H4'.out.2.2.2.2.1.cell 0 _ rfl;have s1:=H4'.out.2.2.2.2.1.cell 1 _ rfl;have s2:=H4'.out.2.2.2.2.1.cell 2 _ rfl;have s3:=H4'.out.2.2.2.2.1.cell 3 _ rfl;have s4:=H4'.out.2.2.2.2.1.cell 4 _ rfl;have s5:=H4'.out.2.2.2.2.1.cell 5 _ rfl;have s6:=H4'.out.2.2.2.2.1.cell 6 _ rfl;have s7:=H4'.out.2.2.2.2.1.cell 7 _ rfl;have y0:=H4'.out.2.2.2.2.1.free 0;have y1:=H4'.out.2.2.2.2.1.free 1;have y2:=H4'.out.2.2.2.2.1.free 2;have y3:=H4'.out.2.2.2.2.1.free 3;have y4:=H4'.out.2.2.2.2.1.free 4;have y5:=H4'.out.2.2.2.2.1.free 5;have y6:=H4'.out.2.2.2.2.1.free 6;have y7:=H4'.out.2.2.2.2.1.free 7;obtain ⟨W5,AK⟩:=ae (((((((((w4.setCell ⟨gz,0,none⟩ (.slice ao nL ca)).setCell ⟨gz,1,none⟩ (.int .i64 r0')).setCell ⟨gz,2,none⟩ (.int .i64 c0')).setCell ⟨gz,3,none⟩ (.bool pd0)).setCell ⟨gz,4,none⟩ (.bool au0)).setCell ⟨gz,5,none⟩ (.slice go2 nH gk2)).setCell ⟨gz,6,none⟩ (.slice o3 rn k3)).setCell ⟨gz,7,none⟩ (.int .i64 (i:Nat))));have De:=ab (QB.fin H4'.out (show Upd (fun b=>b=gz) w4 W5 from by rw [AK];exact db w4 gz (.slice ao nL ca) (.int .i64 r0') (.int .i64 c0') (.bool pd0) (.bool au0) (.slice go2 nH gk2) (.slice o3 rn k3) (.int .i64 (i:Nat))));have Ba:=ab (show Has W5 gz [.slice ao nL ca,.int .i64 r0',.int .i64 c0',.bool pd0,.bool au0,.slice go2 nH gk2,.slice o3 rn k3,.int .i64 (i:Nat)] 66 from by rw [AK];exact eD H4'.out.2.2.2.2.1 (.slice ao nL ca) (.int .i64 r0') (.int .i64 c0') (.bool pd0) (.bool au0) (.slice go2 nH gk2) (.slice o3 rn k3) (.int .i64 (i:Nat)));have Di:=ab AK;clear AK;go_wp2;rw [<-Di.out];have e0:=Ba.out.cell 0 _ rfl;have e1:=Ba.out.cell 1 _ rfl;have e2:=Ba.out.cell 2 _ rfl;have e3:=Ba.out.cell 3 _ rfl;have e4:=Ba.out.cell 4 _ rfl;have e5:=Ba.out.cell 5 _ rfl;have e6:=Ba.out.cell 6 _ rfl;have e7:=Ba.out.cell 7 _ rfl;refine bodyPost_ret (v:=.agg #[.slice ao nL ca,.int .i64 r0',.int .i64 c0',.bool pd0,.bool au0,.slice go2 nH gk2,.slice o3 rn k3,.int .i64 (i:Nat)]) (by simp [results,Tryz.results33,go_sem,e0,e1,e2,e3,e4,e5,e6,e7]) rfl ?_;rw [HIF.out];exact ⟨_,_,_,rfl,De.out.1,De.out.2.1,De.out.2.2.1,De.out.2.2.2⟩
end Go.Proofs.YtoeggiplcaegoaaGreatDoor
