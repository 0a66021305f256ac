import Derived.Test.YtechjomepdahiaaDoorZ0
import Derived.Test.YtechjomepdahiaaDoorMg6
import Derived.Test.YtechjomepdahiaaDoorItmC
import Derived.Lib.MinMax
import Derived.Deep.Cut
import Derived.ProofKit
set_option maxRecDepth 100000
set_option linter.unusedVariables false
set_option linter.unusedSimpArgs false
set_option maxHeartbeats 3000000
namespace Go.Proofs.YtechjomepdahiaaDoor
open Go.RowKit Go.ChangeShapes Go.WideShapes
def aF(w:Nat)(x:Cl):List Cl:=if w<(ofC x.1 x.2).length then ofC 1 [65533] else ofC x.1 x.2
def aP(w:Nat)(C:List Cl)(g:Bool):Ln:=(C++List.replicate (w - C.length) zc,g)
def aG(w:Nat)(X:List Cl):Nat->List Ln × List Cl
 | 0=>([],[])
 | k+1=>if w<(aG w X k).2.length+(aF w (X.getD k zc)).length then ((aG w X k).1++[aP w (aG w X k).2 true],aF w (X.getD k zc)) else ((aG w X k).1,(aG w X k).2++aF w (X.getD k zc))
def aE(w:Nat)(X:List Cl):List Ln:=(aG w X X.length).1++[aP w (aG w X X.length).2 false]
theorem dR(wide:Int)(xs:List Int):1<=(ofC wide xs).length/\(ofC wide xs).length<=2:=by
 unfold ofC;simp only
 split <;> split <;> simp
theorem c4(w:Nat)(x:Cl)(h:1<=w):1<=(aF w x).length/\(aF w x).length<=w:=by
 unfold aF
 split
 ·have:(ofC 1 [65533]).length=1:=by decide
  omega
 ·have:=dR x.1 x.2;omega
theorem bw(w:Nat)(X:List Cl)(h:1<=w):∀ k,(aG w X k).2.length<=w/\(aG w X k).1.length<=k
 |0=>⟨Nat.zero_le _,Nat.le_refl _⟩
 |k+1=>by
  have ih:=bw w X h k;have hs:=c4 w (X.getD k zc) h;unfold aG
  split
  ·exact ⟨hs.2,by rw [List.length_append];have:([aP w (aG w X k).2 true]:List Ln).length=1:=rfl;omega⟩
  ·exact ⟨by rw [List.length_append];omega,by show (aG w X k).1.length<=k+1;omega⟩
def wdN(w:Int):Nat:=(min (max w 1) 1024).toNat
theorem aY{α:Type}{E:Elem α}{s:Nat}{w w':World}{B:Nat}{ty:TypeId}{v:Value}{L:List α}{B0:Nat}(h:OwnE E (fun b=>B0<=b/\b<s) w B ty v L)(hs:∀ b,v.ownBlock=some b->b<s)(hb:Below s w w'):OwnE E (fun b=>B0<=b/\b<s) w' B ty v L :=
 h.keep ⟨hb.size,fun b _ hz=>hb.block b (by rcases hz with hz | hz;exact hz.2;exact hs b hz)⟩ (fun _ _ h=>h)
theorem cC:(Tryd.prog.info? 69).map (fun i=>(i.zero,i.size,i.bytes))=some (some (.agg #[.slice none 0 0,.bool false]),lineE.size,32):=by kernel_rfl
theorem dA(v:Value)(X:List Cl)(w0:Int)(w:World)(hv:HeldE cellE (fun b=>b<w.heap.size) w v X)(hl:X.length<=1000000)(hr:∀ k,k<X.length->ap (X.getD k zc)=true):Calls Tryd.prog 11 #[v,.int .i64 w0] w (fun e w'=>∃ u,e=.returned (.tuple #[u,.nilIface])/\OwnE lineE (fun b=>w.heap.size<=b) w' w.heap.size 69 u (aE (wdN w0) X)/\Below w.heap.size w w'):=by
 obtain ⟨ao,cap,rfl⟩:=hv.len;obtain ⟨fJ,fO,iE⟩:=aK hv;clear fJ;have ie:=aa iE;have HR:=aa hr;obtain ⟨n,hn⟩:=ab (X.length);have HN:=aa hn;rw [<-hn] at hl fO ⊢;obtain ⟨wd,hwd⟩:=ab (wdN w0);have hwI:min (max w0 1) 1024=(wd:Int):=by rw [hwd];unfold wdN;omega
 have gq:1<=wd:=by rw [hwd];unfold wdN;omega
 have hwd2:wd<=1024:=by rw [hwd];unfold wdN;omega
 rw [<-hwd];clear iE hn hwd hr hv
 go_enter Tryd.func11,Tryd.ntmps11
 go_wp2
 go_loopw [15] (fun i wr=>∃ k:Nat,k<=n/\i=.int .i64 k/\Below w.heap.size w wr) (fun i _=>n - (intOf i).toNat)
 case atStart=>exact ⟨0,Nat.zero_le _,rfl,Below.refl _ _⟩
 case round =>
  obtain ⟨k,hk,rfl,hb⟩:=hrel;obtain ⟨wo,hU⟩:=ab (wr);subst hU;have f7:=aa hb;clear hb
  by_cases hkn:k<n
  ·have d1:(k:Int)<(n:Int):=by omega
   obtain ⟨b,off,tv,e0,hb,_,c0,c1,hh⟩:=ie.out k (by rw [<-HN.out];exact hkn);subst e0;have fM:=HR.out k (by rw [<-HN.out];exact hkn);obtain ⟨⟨K,T⟩,fH⟩ : ∃ y,y=X.getD k zc:=⟨_,rfl⟩;rw [<-fH] at c0 hh fM;simp only at c0 hh;obtain ⟨tx,tc,etv⟩:=hh.len;subst etv;have c0:=(f7.out.cell (p:=⟨b,off+k * 2,none⟩) hb).trans c0;have c1:=(f7.out.cell (p:=⟨b,off+k * 2+1,none⟩) hb).trans c1;obtain ⟨W1,hW1⟩:=ab (wo.alloc (.cells [Value.int .i64 K,.slice tx T.length tc].toArray 27));have hb1:Below wo.heap.size wo W1:=by rw [hW1];exact af _ _
   have fN:Has W1 wo.heap.size [.int .i64 K,.slice tx T.length tc] 27:=by rw [hW1];exact Has.new wo _ _
   have ia:=aa (show wo.alloc (.cells #[Value.int .i64 K,.slice tx T.length tc] 27)=W1 from by rw [hW1]);obtain ⟨gp,fV⟩:=ab (wo.heap.size);have g5:=aa fV;rw [<-fV] at fN;have fA:=aa (f7.out.trans (hb1.mono f7.out.size));have fX:=aa (ed K (.slice tx T.length tc) T W1 (hh.below fA.out).ints hh.max);rw [fM] at fX;have z0:=fN.cell 0 _ rfl;have z1:=fN.cell 1 _ rfl;have iJ:k<cap:=by omega
   clear fH hb hh fM hW1 hb1 fN fV
   go_upto_region 4 with (fail)
   rw [ia.out,<-g5.out];clear c0 c1
   go_wp2_with fail
   refine (fX.out).mono ?_;rintro e w2 ⟨rfl,b2⟩;have HF:=aa (fA.out.trans (b2.mono fA.out.size));clear b2 z0 z1;go_wp2
   go_roundw
   case rel=>exact ⟨k+1,by omega,by go_num,HF.out⟩
   case measure=>simp [intOf] <;> omega
  ·obtain rfl:k=n:=by omega
   have d1:¬ (k:Int)<(k:Int):=by omega
   clear hkn hk
   go_upto_region 8 with (fail)
   try rw [hwI]
   obtain ⟨B,hB⟩:=ab (wo.heap.size);have HBE:=aa hB;have gA:=aa (show w.heap.size<=B from by rw [hB];exact f7.out.size);clear hB hwI;go_wp2
   go_loopw [8,9,32] (fun lv cv iv wr=>∃ (i s:Nat) (Ls:List Ln) (C:List Cl),i<=k/\iv=.int .i64 i/\Hid ((Ls,C)=aG wd X i)/\OwnE lineE (fun b=>B<=b/\b<s) wr B 69 lv Ls/\(∀ b,lv.ownBlock=some b->b<s)/\OwnE cellE (fun b=>B<=b/\lv.ownBlock≠some b) wr s 85 cv C/\B<=s/\s<=wr.heap.size/\Below w.heap.size w wr) (fun _ _ iv _=>k - (intOf iv).toNat)
   case atStart=>exact ⟨0,B,[],[],Nat.zero_le _,rfl,aa rfl,OwnE.nil _ _ _ _ _,(fun b e=>by cases e),OwnE.nil _ _ _ _ _,Nat.le_refl _,by have:=HBE.out;omega,f7.out⟩
   case round =>
    obtain ⟨i,s,Ls,C,hi,rfl,gQ,hl1,fI,hc1,hBs,hss,hb⟩:=hrel;obtain ⟨wp,iT⟩:=ab (wr);subst iT;have HL:=aa (And.intro hl1 fI);have HC:=aa hc1;have HS:=aa (And.intro hBs hss);have iD:=aa hb;have gm:=aa (bw wd X gq i);rw [<-gQ.out] at gm;simp only at gm;clear hl1 fI hc1 hBs hss hb
    by_cases hik:i<k
    ·have d2:(i:Int)<(k:Int):=by omega
     obtain ⟨b,off,tv,e0,hb,_,c0,c1,hh⟩:=ie.out i (by rw [<-HN.out];exact hik);subst e0;obtain ⟨⟨K,T⟩,fH⟩ : ∃ y,y=X.getD i zc:=⟨_,rfl⟩;rw [<-fH] at c0 hh;simp only at c0 hh;obtain ⟨tx,tc,etv⟩:=hh.len;subst etv;have c0:=(iD.out.cell (p:=⟨b,off+i * 2,none⟩) hb).trans c0;have c1:=(iD.out.cell (p:=⟨b,off+i * 2+1,none⟩) hb).trans c1;obtain ⟨W1,hW1⟩:=ab (wp.alloc (.cells [Value.int .i64 K,.slice tx T.length tc].toArray 27));have hb1:Below wp.heap.size wp W1:=by rw [hW1];exact af _ _
     have fN:Has W1 wp.heap.size [.int .i64 K,.slice tx T.length tc] 27:=by rw [hW1];exact Has.new wp _ _
     have ia:=aa (show wp.alloc (.cells #[Value.int .i64 K,.slice tx T.length tc] 27)=W1 from by rw [hW1]);obtain ⟨gp,fV⟩:=ab (wp.heap.size);have g5:=aa fV;rw [<-fV] at fN;have fA:=aa (iD.out.trans (hb1.mono iD.out.size));have im:=aa (And.intro (HL.out.1.below hb1) HL.out.2);have jw:=aa (HC.out.below hb1);have jt:=aa (And.intro HS.out.1 (Nat.le_trans HS.out.2 hb1.size));have HOF:=aa (eo (fun b=>W1.heap.size<=b) (fun b=>b<w.heap.size) K (.slice tx T.length tc) T W1 (fun b hb=>hb) (hh.below fA.out));have z0:=fN.cell 0 _ rfl;have z1:=fN.cell 1 _ rfl;have jz:=aa (show aF wd (X.getD i zc)=if wd<(ofC K T).length then ofC 1 [65533] else ofC K T from by rw [<-fH];rfl);have hic:i<cap:=by omega
     clear fH hb hh hW1 hb1 fN fV HL HC HS
     go_upto_region 13 with (fail)
     rw [ia.out,<-g5.out];clear c0 c1
     go_wp2_with fail
     refine (HOF.out).mono ?_;rintro e w2 ⟨sv,rfl,ho,b2⟩;obtain ⟨g1,hg1⟩:=ab (W1.heap.size);have HG1:=aa hg1;rw [<-hg1] at ho;have hs0:=(ho.keep (Y:=fun _=>True) (.refl _ _) (fun _ _ _=>trivial)).held (fun _ _ _=>trivial);obtain ⟨so,sk,esv⟩:=hs0.len;obtain ⟨sn,jm⟩:=ab ((ofC K T).length);have hsle:=dR K T;rw [<-jm] at esv hsle;have i3:=aa jm;subst esv;have gS:=aa ho;have fF:=aa (fA.out.trans (b2.mono fA.out.size));have iz:=aa (And.intro (im.out.1.below b2) im.out.2);have HC2:=aa (jw.out.below b2);have i8:=aa (show g1<=w2.heap.size from by rw [hg1];exact b2.size);have fG:=aa (And.intro jt.out.1 (show s<=g1 from by rw [hg1];exact jt.out.2));have i4:=aa (show ∀ b,u9.ownBlock=some b->s<=b/\b<g1 from fun b e=>by rw [hg1];exact jw.out.lt b e);clear jm hg1 ho hs0 b2 z0 z1 im jw jt
     go_upto_if 44 with (fail)
     go_cut [12] from 44 to 46 (fun tv wx=>∃ o m c,tv=.slice o m c/\m=(aF wd (X.getD i zc)).length/\OwnE cellE (fun b=>g1<=b) wx g1 85 (.slice o m c) (aF wd (X.getD i zc))/\Below w2.heap.size w2 wx)
     case first =>
      by_cases hlt:wd<sn
      ·have d3:decide ((wd:Int)<(sn:Int))=true:=ag (by omega);have d4:(wd:Int)<(sn:Int):=by omega
       have HE:=aa (show aF wd (X.getD i zc)=ofC 1 [65533] from jz.out.trans (if_pos (by rw [<-i3.out];exact hlt)));obtain ⟨Wt,i7⟩:=ab (w2.alloc (.cells [Value.int .i32 65533].toArray 21));have bt:Below w2.heap.size w2 Wt:=by rw [i7];exact af _ _
       have ht:HeldE (bj .i32) (fun _=>True) Wt (.slice (some ⟨w2.heap.size,0,none⟩) 1 1) [65533]:=by rw [i7];exact aI (Y:=fun _=>False) [.int .i32 65533] 65533 rfl (fun _ _ h=>h.elim) trivial
       have jI:=aa (show w2.alloc (.cells #[Value.int .i32 65533] 21)=Wt from by rw [i7]);have HOT:=aa (eo (fun b=>g1<=b) (fun _=>True) 1 (.slice (some ⟨w2.heap.size,0,none⟩) 1 1) [65533] Wt (fun b hb=>Nat.le_trans i8.out (Nat.le_trans bt.size hb)) ht);have jX:=aa bt;clear hlt i7 bt ht
       go_wp2_with fail
       rw [jI.out];refine HOT.out.mono ?_;rintro e w3 ⟨sv3,rfl,fT,b3⟩;have hs3:=(fT.keep (Y:=fun _=>True) (.refl _ _) (fun _ _ _=>trivial)).held (fun _ _ _=>trivial);obtain ⟨o3,k3,ev3⟩:=hs3.len;rw [show (ofC 1 [65533]).length=1 from by decide] at ev3;subst ev3;have HF:=aa (And.intro (fT.base (B':=g1) (Nat.le_trans i8.out jX.out.size)) (jX.out.trans (b3.mono jX.out.size)));clear fT b3 hs3;go_wp2;go_meet
       case rel=>exact ⟨o3,1,k3,rfl,by rw [HE.out];rfl,by rw [HE.out];exact HF.out.1,HF.out.2⟩
      ·have d3:decide ((wd:Int)<(sn:Int))=false:=ah (by omega);have d4:¬ (wd:Int)<(sn:Int):=by omega
       have HE:=aa (show aF wd (X.getD i zc)=ofC K T from jz.out.trans (if_neg (by rw [<-i3.out];exact hlt)));clear hlt;go_wp2;go_meet
       case rel=>exact ⟨so,sn,sk,rfl,by rw [HE.out];exact i3.out,by rw [HE.out];exact gS.out,Below.refl _ _⟩
     case rest =>
      obtain ⟨o3,m3,k3,rfl,il,jL,hb3⟩:=hcut;obtain ⟨w3,hw3⟩:=ab (wc);subst hw3;obtain ⟨S,hS⟩:=ab (aF wd (X.getD i zc));have HSE:=aa hS;rw [<-hS] at il jL;have hsw:m3<=wd/\1<=m3:=by rw [il,hS];have:=c4 wd (X.getD i zc) gq;omega
      have HM3:=aa il;have jG:=aa jL;have gE:=aa (fF.out.trans (hb3.mono fF.out.size));have f2:=aa (And.intro (iz.out.1.below hb3) iz.out.2);have jd:=aa (HC2.out.below hb3);have ij:=aa (Nat.le_trans i8.out hb3.size);have hbk:aG wd X (i+1)=if wd<C.length+m3 then (Ls++[aP wd C true],S) else (Ls,C++S):=by
       show (if wd<(aG wd X i).2.length+(aF wd (X.getD i zc)).length then _ else _)=_;rw [<-gQ.out,<-hS,il]
      have HBN:=aa hbk;obtain ⟨cn,fJ⟩:=ab (C.length);have jM:=aa fJ;obtain ⟨co,ck,ecv⟩:=((jd.out.keep (Y:=fun _=>True) (.refl _ _) (fun _ _ _=>trivial)).held (fun _ _ _=>trivial)).len;rw [<-fJ] at ecv;have hcw:cn<=wd:=by rw [fJ];exact gm.out.1
      obtain ⟨rm,hrm⟩:=ab (wd - cn);have hwr:IntKind.i64.wrap ((wd:Int) - (cn:Int))=(rm:Int):=by rw [IntKind.wrap_i64];omega
      have HRM:=aa hrm;subst ecv;have hi9:i<=1000000:=by omega
      clear hS il jL hb3 hbk fJ hrm jz i3 gS fF iz HC2 i8
      by_cases hfit:wd<cn+m3
      ·have d5:(rm:Int)<(m3:Int):=by have:=HRM.out;omega
       have g9:=aa (show (Ls++[aP wd C true],S)=aG wd X (i+1) from by rw [HBN.out,if_pos (by rw [<-jM.out];exact hfit)]);have gO:=aa (cD (fun b=>B<=b/\u8.ownBlock≠some b) s (.slice co cn ck) C wd true w3 jd.out (fun b hb=>⟨Nat.le_trans (Nat.le_trans fG.out.1 (Nat.le_trans fG.out.2 ij.out)) hb,fun e=>by have:=f2.out.2 b e;have:=fG.out.2;have:=ij.out;omega⟩) (by have:=fG.out.2;have:=ij.out;omega) hwd2 gm.out.1);clear hfit
       go_wp2_with fail
       refine gO.out.mono ?_;rintro e w4 ⟨fv,rfl,iA,f6,iw⟩;have iV:=aa (jG.out.keep (Y:=fun b=>g1<=b) (iw.mono (fun b _ hz e=>by
        have h9:=i4.out b e
        rcases hz with hz | hz
        ·omega
        ·have:=(jG.out.lt b hz).1;omega)) (fun _ _ h=>h))
       have ii:=aa (And.intro (aY f2.out.1 f2.out.2 f6) f2.out.2);have gd:=aa (gE.out.trans (f6.mono (Nat.le_trans gA.out fG.out.1)));have hO:=aa (Nat.le_trans ij.out iw.size);have gZ:=iA.held (fun b hb _=>⟨Nat.le_trans fG.out.1 hb,fun e=>by have:=f2.out.2 b e;omega⟩);obtain ⟨fo,fk,efv⟩:=gZ.len;obtain ⟨fn,hfn⟩:=ab ((C++List.replicate (wd - C.length) zc).length);rw [<-hfn] at efv;subst efv;have hX:=aI (E:=lineE) (w:=w4) (ty:=69) (Y:=fun b=>B<=b/\u8.ownBlock≠some b) (Z:=fun b=>B<=b/\u8.ownBlock≠some b) [.slice fo fn fk,.bool true] (C++List.replicate (wd - C.length) zc,true) (line_rep.2 ⟨_,rfl,gZ⟩) (fun b _ h=>h) ⟨by have:=fG.out.1;have:=fG.out.2;have:=hO.out;omega,fun e=>by have:=f2.out.2 _ e;have:=fG.out.2;have:=hO.out;omega⟩;have HX:=aa hX;have fK:Below w4.heap.size w4 (w4.alloc (.cells [Value.slice fo fn fk,.bool true].toArray 69)):=af _ _;have jj:=aa ((ii.out.1.below fK).keep (Y:=fun b=>B<=b) (.refl _ _) (fun _ _ h=>h.1));have HS5:=aa (iV.out.below fK);have gB:=aa (gd.out.trans (fK.mono gd.out.size));have iY:=aa (Nat.le_trans hO.out fK.size);have iN:=aa (show Ls.length<=1000000 from by have:=gm.out.2;omega);have HLK:=aa ii.out.2;clear iA f6 iw gZ hfn hX fK gO jd f2 ii
       go_wp2_with (first
        |(at_builtin
          refine an (E:=lineE) (Z:=fun b=>B<=b) rfl (.tmp 54) (.tmp 58) 29 rfl (.agg #[.slice none 0 0,.bool false]) 32 Tryd.underlying29 cC rfl (by decide) rfl rfl jj.out HX.out (by have:=iN.out;simp;omega) (by have:=iN.out;simp;omega) (Nat.le_trans fG.out.1 (Nat.le_trans fG.out.2 iY.out)) ?_))
       intro v6 w6 gb gH hk6 hd6;have hs5:=(HS5.out.keep (Y:=fun b=>g1<=b/\b<(w4.alloc (.cells [Value.slice fo fn fk,.bool true].toArray 69)).heap.size) (.refl _ _) (fun b hb h=>⟨h,hb⟩)).held (fun b h1 h2=>⟨h1,h2⟩);have hs6:=hs5.keep (Y:=fun b=>(B<=b/\v6.ownBlock≠some b)/\(Value.slice none 0 0).ownBlock≠some b) (hk6.mono (fun b _ hz e=>by have:=HLK.out b e;have:=fG.out.2;have:=hz.1;omega)) (fun b _ hz=>⟨⟨Nat.le_trans fG.out.1 (Nat.le_trans fG.out.2 hz.1),hd6 b (by simpa using hz.2) (fun e=>by have:=HLK.out b e;have:=fG.out.2;have:=hz.1;omega)⟩,fun e=>by cases e⟩);have jE:=aa hs6;have jA:=aa (And.intro (gb.keep (Y:=fun b=>B<=b/\b<w6.heap.size) (.refl _ _) (fun b hb h=>⟨h,hb⟩)) (fun b e=>(gb.lt b e).2));have gT:=aa (gB.out.trans (gH.mono gA.out));have HBS6:=aa (show B<=w6.heap.size from Nat.le_trans fG.out.1 (Nat.le_trans fG.out.2 (Nat.le_trans iY.out gH.size)));have HN6:=aa (OwnE.nil cellE (fun b=>B<=b/\v6.ownBlock≠some b) w6 w6.heap.size 85);have iL:=aa (show S.length<=1024 from by rw [<-HM3.out];omega);clear gb gH hk6 hd6 hs5 hs6 HS5 jj
       go_wp2_with (at_builtin;refine an (E:=cellE) (Z:=fun b=>B<=b/\v6.ownBlock≠some b) rfl (.tmp 60) (.tmp 61) 67 rfl (.agg #[.int .i64 0,.slice none 0 0]) 32 Tryd.underlying67 bz rfl (by decide) rfl rfl HN6.out jE.out (by have:=iL.out;simp;omega) (by have:=iL.out;simp;omega) (Nat.le_refl _) ?_)
       intro v7 w7 io gJ _ _
       try rw [List.nil_append] at io
       have HF:=aa (And.intro (aY jA.out.1 jA.out.2 gJ) (And.intro jA.out.2 (And.intro io (And.intro HBS6.out (And.intro gJ.size (gT.out.trans (gJ.mono gT.out.size)))))));clear io gJ;go_wp2
       go_roundw
       case rel=>exact ⟨i+1,w6.heap.size,_,S,by omega,by go_num,g9,HF.out⟩
       case measure=>simp [intOf] <;> omega
      ·have d5:¬ (rm:Int)<(m3:Int):=by have:=HRM.out;omega
       have g9:=aa (show (Ls,C++S)=aG wd X (i+1) from by rw [HBN.out,if_neg (by rw [<-jM.out];exact hfit)]);have hX:=(jG.out.held (fun b h _=>h)).zone (Y:=fun b=>(B<=b/\u8.ownBlock≠some b)/\(Value.slice co cn ck).ownBlock≠some b) (fun b _ hz=>⟨⟨Nat.le_trans fG.out.1 (Nat.le_trans fG.out.2 hz),fun e=>by have:=f2.out.2 b e;have:=fG.out.2;omega⟩,fun e=>by have:=(i4.out b e).2;omega⟩);have HX:=aa hX;have iL:=aa (show S.length<=1024/\C.length<=1024 from by rw [<-HM3.out,<-jM.out];omega);clear hX hfit
       go_wp2_with (at_builtin;refine an (E:=cellE) (Z:=fun b=>B<=b/\u8.ownBlock≠some b) rfl (.tmp 60) (.tmp 61) 67 rfl (.agg #[.int .i64 0,.slice none 0 0]) 32 Tryd.underlying67 bz rfl (by decide) rfl rfl jd.out HX.out (by have:=iL.out;omega) (by have:=iL.out;omega) (Nat.le_trans fG.out.2 ij.out) ?_)
       intro v7 w7 io gJ _ _;have HF:=aa (And.intro (aY f2.out.1 f2.out.2 gJ) (And.intro f2.out.2 (And.intro io (And.intro fG.out.1 (And.intro (Nat.le_trans fG.out.2 (Nat.le_trans ij.out gJ.size)) (gE.out.trans (gJ.mono (Nat.le_trans gA.out fG.out.1))))))));clear io gJ;go_wp2
       go_roundw
       case rel=>exact ⟨i+1,s,Ls,C++S,by omega,by go_num,g9,HF.out⟩
       case measure=>simp [intOf] <;> omega
    ·obtain rfl:i=k:=by omega
     have d2:¬ (i:Int)<(i:Int):=by omega
     have HE:=aa (show aE wd X=Ls++[aP wd C false] from by unfold aE;rw [<-HN.out,<-gQ.out]);have gO:=aa (cD (fun b=>B<=b/\u8.ownBlock≠some b) s u9 C wd false wp HC.out (fun b hb=>⟨Nat.le_trans HS.out.1 (Nat.le_trans HS.out.2 hb),fun e=>by have:=HL.out.2 b e;have:=HS.out.2;omega⟩) HS.out.2 hwd2 gm.out.1);clear hik
     go_wp2_with fail
     refine gO.out.mono ?_;rintro e w4 ⟨fv,rfl,iA,f6,iw⟩;have ii:=aa (And.intro (aY HL.out.1 HL.out.2 f6) HL.out.2);have gd:=aa (iD.out.trans (f6.mono (Nat.le_trans gA.out HS.out.1)));have hO:=aa (Nat.le_trans HS.out.2 iw.size);have gZ:=iA.held (fun b hb _=>⟨Nat.le_trans HS.out.1 hb,fun e=>by have:=HL.out.2 b e;omega⟩);obtain ⟨fo,fk,efv⟩:=gZ.len;obtain ⟨fn,hfn⟩:=ab ((C++List.replicate (wd - C.length) zc).length);rw [<-hfn] at efv;subst efv;have hX:=aI (E:=lineE) (w:=w4) (ty:=69) (Y:=fun b=>B<=b/\u8.ownBlock≠some b) (Z:=fun b=>B<=b/\u8.ownBlock≠some b) [.slice fo fn fk,.bool false] (C++List.replicate (wd - C.length) zc,false) (line_rep.2 ⟨_,rfl,gZ⟩) (fun b _ h=>h) ⟨by have:=HS.out.1;have:=hO.out;omega,fun e=>by have:=HL.out.2 _ e;have:=hO.out;omega⟩;have HX:=aa hX;have fK:Below w4.heap.size w4 (w4.alloc (.cells [Value.slice fo fn fk,.bool false].toArray 69)):=af _ _;have jj:=aa ((ii.out.1.below fK).keep (Y:=fun b=>B<=b) (.refl _ _) (fun _ _ h=>h.1));have gB:=aa (gd.out.trans (fK.mono gd.out.size));have iY:=aa (Nat.le_trans hO.out fK.size);have iN:=aa (show Ls.length<=1000000 from by have:=gm.out.2;omega);clear iA f6 iw gZ hfn hX fK gO ii
     go_wp2_with (at_builtin;refine an (E:=lineE) (Z:=fun b=>B<=b) rfl (.tmp 64) (.tmp 68) 29 rfl (.agg #[.slice none 0 0,.bool false]) 32 Tryd.underlying29 cC rfl (by decide) rfl rfl jj.out HX.out (by have:=iN.out;simp;omega) (by have:=iN.out;simp;omega) (Nat.le_trans HS.out.1 iY.out) ?_)
     intro v6 w6 gb gH _ _;have HF:=aa (And.intro (show OwnE lineE (fun b=>w.heap.size<=b) w6 w.heap.size 69 v6 (aE wd X) from by rw [HE.out];exact (gb.keep (Y:=fun b=>w.heap.size<=b) (.refl _ _) (fun b _ h=>Nat.le_trans gA.out h)).base gA.out) (gB.out.trans (gH.mono gA.out)));clear gb gH;go_wp2;exact bodyPost_ret (v:=.tuple #[v6,.nilIface]) (by simp [results,Tryd.results11,go_sem]) rfl ⟨v6,rfl,HF.out.1,HF.out.2⟩
end Go.Proofs.YtechjomepdahiaaDoor
