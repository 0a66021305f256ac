import Derived.Test.YthdphijabffpiaaDoorZ0
import Derived.Test.YthdphijabffpiaaDoorMg4
import Derived.Test.YthdphijabffpiaaDoorItmC
import Derived.Lib.MinMax
import Derived.Deep.Cut
import Derived.ProofKit
set_option maxRecDepth 100000
set_option linter.unusedVariables false
set_option linter.unusedSimpArgs false
set_option maxHeartbeats 3000000
namespace Go.Proofs.YthdphijabffpiaaDoor
open Go.RowKit Go.ChangeShapes Go.WideShapes
def ay(w:Nat)(x:Cl):List Cl:=if w<(ofC x.1 x.2).length then ofC 1 [65533] else ofC x.1 x.2
def aS(w:Nat)(C:List Cl)(g:Bool):Ln:=(C++List.replicate (w - C.length) zc,g)
def aJ(w:Nat)(X:List Cl):Nat->List Ln × List Cl
 | 0=>([],[])
 | k+1=>if w<(aJ w X k).2.length+(ay w (X.getD k zc)).length then ((aJ w X k).1++[aS w (aJ w X k).2 true],ay w (X.getD k zc)) else ((aJ w X k).1,(aJ w X k).2++ay w (X.getD k zc))
def aL(w:Nat)(X:List Cl):List Ln:=(aJ w X X.length).1++[aS w (aJ w X X.length).2 false]
theorem eh(wide:Int)(xs:List Int):1<=(ofC wide xs).length/\(ofC wide xs).length<=2:=by
 unfold ofC;simp only
 split <;> split <;> simp
theorem cf(w:Nat)(x:Cl)(h:1<=w):1<=(ay w x).length/\(ay w x).length<=w:=by
 unfold ay
 split
 ·have:(ofC 1 [65533]).length=1:=by decide
  omega
 ·have:=eh x.1 x.2;omega
theorem bk(w:Nat)(X:List Cl)(h:1<=w):∀ k,(aJ w X k).2.length<=w/\(aJ w X k).1.length<=k
 |0=>⟨Nat.zero_le _,Nat.le_refl _⟩
 |k+1=>by
  have ih:=bk w X h k;have hs:=cf w (X.getD k zc) h;unfold aJ
  split
  ·exact ⟨hs.2,by rw [List.length_append];have:([aS w (aJ w X k).2 true]:List Ln).length=1:=rfl;omega⟩
  ·exact ⟨by rw [List.length_append];omega,by show (aJ w X k).1.length<=k+1;omega⟩
def wdN(w:Int):Nat:=(min (max w 1) 1024).toNat
theorem aW{α:Type}{E:Elem α}{s:Nat}{w w':World}{B:Nat}{ty:TypeId}{v:Value}{L:List α}{B0:Nat}(h:OwnE E (fun b=>B0<=b/\b<s) w B ty v L)(hs:∀ b,v.ownBlock=some b->b<s)(hb:Below s w w'):OwnE E (fun b=>B0<=b/\b<s) w' B ty v L :=
 h.keep ⟨hb.size,fun b _ hz=>hb.block b (by rcases hz with hz | hz;exact hz.2;exact hs b hz)⟩ (fun _ _ h=>h)
theorem cO:(Tryd.prog.info? 30).map (fun i=>(i.zero,i.size,i.bytes))=some (some (.agg #[.slice none 0 0,.bool false]),lineE.size,32):=by kernel_rfl
theorem dR(v:Value)(X:List Cl)(w0:Int)(w:World)(hv:HeldE cellE (fun b=>b<w.heap.size) w v X)(hl:X.length<=1000000)(hr:∀ k,k<X.length->ap (X.getD k zc)=true):Calls Tryd.prog 29 #[v,.int .i64 w0] w (fun e w'=>∃ u,e=.returned (.tuple #[u,.nilIface])/\OwnE lineE (fun b=>w.heap.size<=b) w' w.heap.size 30 u (aL (wdN w0) X)/\Below w.heap.size w w'):=by
 obtain ⟨ao,cap,rfl⟩:=hv.len;obtain ⟨gT,gS,jt⟩:=az hv;clear gT;have iG:=aa jt;have HR:=aa hr;obtain ⟨n,hn⟩:=ab (X.length);have HN:=aa hn;rw [<-hn] at hl gS ⊢;obtain ⟨wd,hwd⟩:=ab (wdN w0);have jn:min (max w0 1) 1024=(wd:Int):=by rw [hwd];unfold wdN;omega
 have gP:1<=wd:=by rw [hwd];unfold wdN;omega
 have jU:wd<=1024:=by rw [hwd];unfold wdN;omega
 rw [<-hwd];clear jt hn hwd hr hv
 go_enter Tryd.func29,Tryd.ntmps29
 go_wp2
 go_loopw [15] (fun i wr=>∃ k:Nat,k<=n/\i=.int .i64 k/\Below w.heap.size w wr) (fun i _=>n - (intOf i).toNat)
 case atStart=>exact ⟨0,Nat.zero_le _,rfl,Below.refl _ _⟩
 case round =>
  obtain ⟨k,hk,rfl,hb⟩:=hrel;obtain ⟨wo,jd⟩:=ab (wr);subst jd;have io:=aa hb;clear hb
  by_cases iw:k<n
  ·have d1:(k:Int)<(n:Int):=by omega
   obtain ⟨b,off,tv,e0,hb,_,c0,c1,hh⟩:=iG.out k (by rw [<-HN.out];exact iw);subst e0;have gU:=HR.out k (by rw [<-HN.out];exact iw);obtain ⟨⟨K,T⟩,gK⟩ : ∃ y,y=X.getD k zc:=⟨_,rfl⟩;rw [<-gK] at c0 hh gU;simp only at c0 hh;obtain ⟨tx,tc,etv⟩:=hh.len;subst etv;have c0:=(io.out.cell (p:=⟨b,off+k * 2,none⟩) hb).trans c0;have c1:=(io.out.cell (p:=⟨b,off+k * 2+1,none⟩) hb).trans c1;obtain ⟨W1,hW1⟩:=ab (wo.alloc (.cells [Value.int .i64 K,.slice tx T.length tc].toArray 59));have hb1:Below wo.heap.size wo W1:=by rw [hW1];exact af _ _
   have gY:Has W1 wo.heap.size [.int .i64 K,.slice tx T.length tc] 59:=by rw [hW1];exact Has.new wo _ _
   have jE:=aa (show wo.alloc (.cells #[Value.int .i64 K,.slice tx T.length tc] 59)=W1 from by rw [hW1]);obtain ⟨gp,ib⟩:=ab (wo.heap.size);have j0:=aa ib;rw [<-ib] at gY;have gG:=aa (io.out.trans (hb1.mono io.out.size));have il:=aa (da K (.slice tx T.length tc) T W1 (hh.below gG.out).ints hh.max);rw [gU] at il;have z0:=gY.cell 0 _ rfl;have z1:=gY.cell 1 _ rfl;have ji:k<cap:=by omega
   clear gK hb hh gU hW1 hb1 gY ib
   go_upto_region 4 with (fail)
   rw [jE.out,<-j0.out];clear c0 c1
   go_wp2_with fail
   refine (il.out).mono ?_;rintro e w2 ⟨rfl,b2⟩;have HF:=aa (gG.out.trans (b2.mono gG.out.size));clear b2 z0 z1;go_wp2
   go_roundw
   case rel=>exact ⟨k+1,by omega,by go_num,HF.out⟩
   case measure=>simp [intOf] <;> omega
  ·obtain rfl:k=n:=by omega
   have d1:¬ (k:Int)<(k:Int):=by omega
   clear iw hk
   go_upto_region 8 with (fail)
   try rw [jn]
   obtain ⟨B,hB⟩:=ab (wo.heap.size);have HBE:=aa hB;have iO:=aa (show w.heap.size<=B from by rw [hB];exact io.out.size);clear hB jn;go_wp2
   go_loopw [8,9,32] (fun lv cv iv wr=>∃ (i s:Nat) (Ls:List Ln) (C:List Cl),i<=k/\iv=.int .i64 i/\Hid ((Ls,C)=aJ wd X i)/\OwnE lineE (fun b=>B<=b/\b<s) wr B 30 lv Ls/\(∀ b,lv.ownBlock=some b->b<s)/\OwnE cellE (fun b=>B<=b/\lv.ownBlock≠some b) wr s 74 cv C/\B<=s/\s<=wr.heap.size/\Below w.heap.size w wr) (fun _ _ iv _=>k - (intOf iv).toNat)
   case atStart=>exact ⟨0,B,[],[],Nat.zero_le _,rfl,aa rfl,OwnE.nil _ _ _ _ _,(fun b e=>by cases e),OwnE.nil _ _ _ _ _,Nat.le_refl _,by have:=HBE.out;omega,io.out⟩
   case round =>
    obtain ⟨i,s,Ls,C,hi,rfl,iF,hl1,gR,hc1,hBs,hss,hb⟩:=hrel;obtain ⟨wp,jF⟩:=ab (wr);subst jF;have HL:=aa (And.intro hl1 gR);have HC:=aa hc1;have HS:=aa (And.intro hBs hss);have ky:=aa hb;have iN:=aa (bk wd X gP i);rw [<-iF.out] at iN;simp only at iN;clear hl1 gR hc1 hBs hss hb
    by_cases hik:i<k
    ·have d2:(i:Int)<(k:Int):=by omega
     obtain ⟨b,off,tv,e0,hb,_,c0,c1,hh⟩:=iG.out i (by rw [<-HN.out];exact hik);subst e0;obtain ⟨⟨K,T⟩,gK⟩ : ∃ y,y=X.getD i zc:=⟨_,rfl⟩;rw [<-gK] at c0 hh;simp only at c0 hh;obtain ⟨tx,tc,etv⟩:=hh.len;subst etv;have c0:=(ky.out.cell (p:=⟨b,off+i * 2,none⟩) hb).trans c0;have c1:=(ky.out.cell (p:=⟨b,off+i * 2+1,none⟩) hb).trans c1;obtain ⟨W1,hW1⟩:=ab (wp.alloc (.cells [Value.int .i64 K,.slice tx T.length tc].toArray 59));have hb1:Below wp.heap.size wp W1:=by rw [hW1];exact af _ _
     have gY:Has W1 wp.heap.size [.int .i64 K,.slice tx T.length tc] 59:=by rw [hW1];exact Has.new wp _ _
     have jE:=aa (show wp.alloc (.cells #[Value.int .i64 K,.slice tx T.length tc] 59)=W1 from by rw [hW1]);obtain ⟨gp,ib⟩:=ab (wp.heap.size);have j0:=aa ib;rw [<-ib] at gY;have gG:=aa (ky.out.trans (hb1.mono ky.out.size));have lW:=aa (And.intro (HL.out.1.below hb1) HL.out.2);have li:=aa (HC.out.below hb1);have lh:=aa (And.intro HS.out.1 (Nat.le_trans HS.out.2 hb1.size));have le:=aa (eK (fun b=>W1.heap.size<=b) (fun b=>b<w.heap.size) K (.slice tx T.length tc) T W1 (fun b hb=>hb) (hh.below gG.out));have z0:=gY.cell 0 _ rfl;have z1:=gY.cell 1 _ rfl;have jR:=aa (show ay wd (X.getD i zc)=if wd<(ofC K T).length then ofC 1 [65533] else ofC K T from by rw [<-gK];rfl);have lH:i<cap:=by omega
     clear gK hb hh hW1 hb1 gY ib HL HC HS
     go_upto_region 13 with (fail)
     rw [jE.out,<-j0.out];clear c0 c1
     go_wp2_with fail
     refine (le.out).mono ?_;rintro e w2 ⟨sv,rfl,ho,b2⟩;obtain ⟨g1,hg1⟩:=ab (W1.heap.size);have HG1:=aa hg1;rw [<-hg1] at ho;have hs0:=(ho.keep (Y:=fun _=>True) (.refl _ _) (fun _ _ _=>trivial)).held (fun _ _ _=>trivial);obtain ⟨so,sk,esv⟩:=hs0.len;obtain ⟨sn,jI⟩:=ab ((ofC K T).length);have jA:=eh K T;rw [<-jI] at esv jA;have jm:=aa jI;subst esv;have iA:=aa ho;have gH:=aa (gG.out.trans (b2.mono gG.out.size));have ln:=aa (And.intro (lW.out.1.below b2) lW.out.2);have HC2:=aa (li.out.below b2);have iC:=aa (show g1<=w2.heap.size from by rw [hg1];exact b2.size);have gQ:=aa (And.intro lh.out.1 (show s<=g1 from by rw [hg1];exact lh.out.2));have kg:=aa (show ∀ b,u9.ownBlock=some b->s<=b/\b<g1 from fun b e=>by rw [hg1];exact li.out.lt b e);clear jI hg1 ho hs0 b2 z0 z1 lW li lh
     go_upto_if 44 with (fail)
     go_cut [12] from 44 to 46 (fun tv wx=>∃ o m c,tv=.slice o m c/\m=(ay wd (X.getD i zc)).length/\OwnE cellE (fun b=>g1<=b) wx g1 74 (.slice o m c) (ay wd (X.getD i zc))/\Below w2.heap.size w2 wx)
     case first =>
      by_cases hlt:wd<sn
      ·have d3:decide ((wd:Int)<(sn:Int))=true:=ag (by omega);have d4:(wd:Int)<(sn:Int):=by omega
       have HE:=aa (show ay wd (X.getD i zc)=ofC 1 [65533] from jR.out.trans (if_pos (by rw [<-jm.out];exact hlt)));obtain ⟨Wt,iX⟩:=ab (w2.alloc (.cells [Value.int .i32 65533].toArray 21));have bt:Below w2.heap.size w2 Wt:=by rw [iX];exact af _ _
       have ht:HeldE (aR .i32) (fun _=>True) Wt (.slice (some ⟨w2.heap.size,0,none⟩) 1 1) [65533]:=by rw [iX];exact aB (Y:=fun _=>False) [.int .i32 65533] 65533 rfl (fun _ _ h=>h.elim) trivial
       have kB:=aa (show w2.alloc (.cells #[Value.int .i32 65533] 21)=Wt from by rw [iX]);have HOT:=aa (eK (fun b=>g1<=b) (fun _=>True) 1 (.slice (some ⟨w2.heap.size,0,none⟩) 1 1) [65533] Wt (fun b hb=>Nat.le_trans iC.out (Nat.le_trans bt.size hb)) ht);have lU:=aa bt;clear hlt iX bt ht
       go_wp2_with fail
       rw [kB.out];refine HOT.out.mono ?_;rintro e w3 ⟨sv3,rfl,hO,b3⟩;have hs3:=(hO.keep (Y:=fun _=>True) (.refl _ _) (fun _ _ _=>trivial)).held (fun _ _ _=>trivial);obtain ⟨o3,k3,ev3⟩:=hs3.len;rw [show (ofC 1 [65533]).length=1 from by decide] at ev3;subst ev3;have HF:=aa (And.intro (hO.base (B':=g1) (Nat.le_trans iC.out lU.out.size)) (lU.out.trans (b3.mono lU.out.size)));clear hO b3 hs3;go_wp2;go_meet
       case rel=>exact ⟨o3,1,k3,rfl,by rw [HE.out];rfl,by rw [HE.out];exact HF.out.1,HF.out.2⟩
      ·have d3:decide ((wd:Int)<(sn:Int))=false:=ah (by omega);have d4:¬ (wd:Int)<(sn:Int):=by omega
       have HE:=aa (show ay wd (X.getD i zc)=ofC K T from jR.out.trans (if_neg (by rw [<-jm.out];exact hlt)));clear hlt;go_wp2;go_meet
       case rel=>exact ⟨so,sn,sk,rfl,by rw [HE.out];exact jm.out,by rw [HE.out];exact iA.out,Below.refl _ _⟩
     case rest =>
      obtain ⟨o3,m3,k3,rfl,iu,jV,hb3⟩:=hcut;obtain ⟨w3,hw3⟩:=ab (wc);subst hw3;obtain ⟨S,hS⟩:=ab (ay wd (X.getD i zc));have HSE:=aa hS;rw [<-hS] at iu jV;have hsw:m3<=wd/\1<=m3:=by rw [iu,hS];have:=cf wd (X.getD i zc) gP;omega
      have j6:=aa iu;have ja:=aa jV;have ij:=aa (gH.out.trans (hb3.mono gH.out.size));have iH:=aa (And.intro (ln.out.1.below hb3) ln.out.2);have k5:=aa (HC2.out.below hb3);have iS:=aa (Nat.le_trans iC.out hb3.size);have kx:aJ wd X (i+1)=if wd<C.length+m3 then (Ls++[aS wd C true],S) else (Ls,C++S):=by
       show (if wd<(aJ wd X i).2.length+(ay wd (X.getD i zc)).length then _ else _)=_;rw [<-iF.out,<-hS,iu]
      have kl:=aa kx;obtain ⟨cn,gT⟩:=ab (C.length);have kb:=aa gT;obtain ⟨co,ck,ecv⟩:=((k5.out.keep (Y:=fun _=>True) (.refl _ _) (fun _ _ _=>trivial)).held (fun _ _ _=>trivial)).len;rw [<-gT] at ecv;have hcw:cn<=wd:=by rw [gT];exact iN.out.1
      obtain ⟨rm,hrm⟩:=ab (wd - cn);have hwr:IntKind.i64.wrap ((wd:Int) - (cn:Int))=(rm:Int):=by rw [IntKind.wrap_i64];omega
      have HRM:=aa hrm;subst ecv;have hi9:i<=1000000:=by omega
      clear hS iu jV hb3 kx gT hrm jR jm iA gH ln HC2 iC
      by_cases hfit:wd<cn+m3
      ·have d5:(rm:Int)<(m3:Int):=by have:=HRM.out;omega
       have jZ:=aa (show (Ls++[aS wd C true],S)=aJ wd X (i+1) from by rw [kl.out,if_pos (by rw [<-kb.out];exact hfit)]);have jf:=aa (cP (fun b=>B<=b/\u8.ownBlock≠some b) s (.slice co cn ck) C wd true w3 k5.out (fun b hb=>⟨Nat.le_trans (Nat.le_trans gQ.out.1 (Nat.le_trans gQ.out.2 iS.out)) hb,fun e=>by have:=iH.out.2 b e;have:=gQ.out.2;have:=iS.out;omega⟩) (by have:=gQ.out.2;have:=iS.out;omega) jU iN.out.1);clear hfit
       go_wp2_with fail
       refine jf.out.mono ?_;rintro e w4 ⟨fv,rfl,jj,jP,j4⟩;have kA:=aa (ja.out.keep (Y:=fun b=>g1<=b) (j4.mono (fun b _ hz e=>by
        have h9:=kg.out b e
        rcases hz with hz | hz
        ·omega
        ·have:=(ja.out.lt b hz).1;omega)) (fun _ _ h=>h))
       have kd:=aa (And.intro (aW iH.out.1 iH.out.2 jP) iH.out.2);have g2:=aa (ij.out.trans (jP.mono (Nat.le_trans iO.out gQ.out.1)));have jC:=aa (Nat.le_trans iS.out j4.size);have jM:=jj.held (fun b hb _=>⟨Nat.le_trans gQ.out.1 hb,fun e=>by have:=iH.out.2 b e;omega⟩);obtain ⟨fo,fk,efv⟩:=jM.len;obtain ⟨fn,hfn⟩:=ab ((C++List.replicate (wd - C.length) zc).length);rw [<-hfn] at efv;subst efv;have hX:=aB (E:=lineE) (w:=w4) (ty:=30) (Y:=fun b=>B<=b/\u8.ownBlock≠some b) (Z:=fun b=>B<=b/\u8.ownBlock≠some b) [.slice fo fn fk,.bool true] (C++List.replicate (wd - C.length) zc,true) (line_rep.2 ⟨_,rfl,jM⟩) (fun b _ h=>h) ⟨by have:=gQ.out.1;have:=gQ.out.2;have:=jC.out;omega,fun e=>by have:=iH.out.2 _ e;have:=gQ.out.2;have:=jC.out;omega⟩;have HX:=aa hX;have gL:Below w4.heap.size w4 (w4.alloc (.cells [Value.slice fo fn fk,.bool true].toArray 30)):=af _ _;have jH:=aa ((kd.out.1.below gL).keep (Y:=fun b=>B<=b) (.refl _ _) (fun _ _ h=>h.1));have kR:=aa (kA.out.below gL);have hU:=aa (g2.out.trans (gL.mono g2.out.size));have kX:=aa (Nat.le_trans jC.out gL.size);have ks:=aa (show Ls.length<=1000000 from by have:=iN.out.2;omega);have HLK:=aa kd.out.2;clear jj jP j4 jM hfn hX gL jf k5 iH kd
       go_wp2_with (first
        |(at_builtin
          refine ai (E:=lineE) (Z:=fun b=>B<=b) rfl (.tmp 54) (.tmp 58) 22 rfl (.agg #[.slice none 0 0,.bool false]) 32 Tryd.underlying22 cO rfl (by decide) rfl rfl jH.out HX.out (by have:=ks.out;simp;omega) (by have:=ks.out;simp;omega) (Nat.le_trans gQ.out.1 (Nat.le_trans gQ.out.2 kX.out)) ?_))
       intro v6 w6 ie iq kc kf;have hs5:=(kR.out.keep (Y:=fun b=>g1<=b/\b<(w4.alloc (.cells [Value.slice fo fn fk,.bool true].toArray 30)).heap.size) (.refl _ _) (fun b hb h=>⟨h,hb⟩)).held (fun b h1 h2=>⟨h1,h2⟩);have kw:=hs5.keep (Y:=fun b=>(B<=b/\v6.ownBlock≠some b)/\(Value.slice none 0 0).ownBlock≠some b) (kc.mono (fun b _ hz e=>by have:=HLK.out b e;have:=gQ.out.2;have:=hz.1;omega)) (fun b _ hz=>⟨⟨Nat.le_trans gQ.out.1 (Nat.le_trans gQ.out.2 hz.1),kf b (by simpa using hz.2) (fun e=>by have:=HLK.out b e;have:=gQ.out.2;have:=hz.1;omega)⟩,fun e=>by cases e⟩);have lL:=aa kw;have l4:=aa (And.intro (ie.keep (Y:=fun b=>B<=b/\b<w6.heap.size) (.refl _ _) (fun b hb h=>⟨h,hb⟩)) (fun b e=>(ie.lt b e).2));have jD:=aa (hU.out.trans (iq.mono iO.out));have HBS6:=aa (show B<=w6.heap.size from Nat.le_trans gQ.out.1 (Nat.le_trans gQ.out.2 (Nat.le_trans kX.out iq.size)));have HN6:=aa (OwnE.nil cellE (fun b=>B<=b/\v6.ownBlock≠some b) w6 w6.heap.size 74);have kq:=aa (show S.length<=1024 from by rw [<-j6.out];omega);clear ie iq kc kf hs5 kw kR jH
       go_wp2_with (at_builtin;refine ai (E:=cellE) (Z:=fun b=>B<=b/\v6.ownBlock≠some b) rfl (.tmp 60) (.tmp 61) 28 rfl (.agg #[.int .i64 0,.slice none 0 0]) 32 Tryd.underlying28 bh rfl (by decide) rfl rfl HN6.out lL.out (by have:=kq.out;simp;omega) (by have:=kq.out;simp;omega) (Nat.le_refl _) ?_)
       intro v7 w7 kj iZ _ _
       try rw [List.nil_append] at kj
       have HF:=aa (And.intro (aW l4.out.1 l4.out.2 iZ) (And.intro l4.out.2 (And.intro kj (And.intro HBS6.out (And.intro iZ.size (jD.out.trans (iZ.mono jD.out.size)))))));clear kj iZ;go_wp2
       go_roundw
       case rel=>exact ⟨i+1,w6.heap.size,_,S,by omega,by go_num,jZ,HF.out⟩
       case measure=>simp [intOf] <;> omega
      ·have d5:¬ (rm:Int)<(m3:Int):=by have:=HRM.out;omega
       have jZ:=aa (show (Ls,C++S)=aJ wd X (i+1) from by rw [kl.out,if_neg (by rw [<-kb.out];exact hfit)]);have hX:=(ja.out.held (fun b h _=>h)).zone (Y:=fun b=>(B<=b/\u8.ownBlock≠some b)/\(Value.slice co cn ck).ownBlock≠some b) (fun b _ hz=>⟨⟨Nat.le_trans gQ.out.1 (Nat.le_trans gQ.out.2 hz),fun e=>by have:=iH.out.2 b e;have:=gQ.out.2;omega⟩,fun e=>by have:=(kg.out b e).2;omega⟩);have HX:=aa hX;have kq:=aa (show S.length<=1024/\C.length<=1024 from by rw [<-j6.out,<-kb.out];omega);clear hX hfit
       go_wp2_with (at_builtin;refine ai (E:=cellE) (Z:=fun b=>B<=b/\u8.ownBlock≠some b) rfl (.tmp 60) (.tmp 61) 28 rfl (.agg #[.int .i64 0,.slice none 0 0]) 32 Tryd.underlying28 bh rfl (by decide) rfl rfl k5.out HX.out (by have:=kq.out;omega) (by have:=kq.out;omega) (Nat.le_trans gQ.out.2 iS.out) ?_)
       intro v7 w7 kj iZ _ _;have HF:=aa (And.intro (aW iH.out.1 iH.out.2 iZ) (And.intro iH.out.2 (And.intro kj (And.intro gQ.out.1 (And.intro (Nat.le_trans gQ.out.2 (Nat.le_trans iS.out iZ.size)) (ij.out.trans (iZ.mono (Nat.le_trans iO.out gQ.out.1))))))));clear kj iZ;go_wp2
       go_roundw
       case rel=>exact ⟨i+1,s,Ls,C++S,by omega,by go_num,jZ,HF.out⟩
       case measure=>simp [intOf] <;> omega
    ·obtain rfl:i=k:=by omega
     have d2:¬ (i:Int)<(i:Int):=by omega
     have HE:=aa (show aL wd X=Ls++[aS wd C false] from by unfold aL;rw [<-HN.out,<-iF.out]);have jf:=aa (cP (fun b=>B<=b/\u8.ownBlock≠some b) s u9 C wd false wp HC.out (fun b hb=>⟨Nat.le_trans HS.out.1 (Nat.le_trans HS.out.2 hb),fun e=>by have:=HL.out.2 b e;have:=HS.out.2;omega⟩) HS.out.2 jU iN.out.1);clear hik
     go_wp2_with fail
     refine jf.out.mono ?_;rintro e w4 ⟨fv,rfl,jj,jP,j4⟩;have kd:=aa (And.intro (aW HL.out.1 HL.out.2 jP) HL.out.2);have g2:=aa (ky.out.trans (jP.mono (Nat.le_trans iO.out HS.out.1)));have jC:=aa (Nat.le_trans HS.out.2 j4.size);have jM:=jj.held (fun b hb _=>⟨Nat.le_trans HS.out.1 hb,fun e=>by have:=HL.out.2 b e;omega⟩);obtain ⟨fo,fk,efv⟩:=jM.len;obtain ⟨fn,hfn⟩:=ab ((C++List.replicate (wd - C.length) zc).length);rw [<-hfn] at efv;subst efv;have hX:=aB (E:=lineE) (w:=w4) (ty:=30) (Y:=fun b=>B<=b/\u8.ownBlock≠some b) (Z:=fun b=>B<=b/\u8.ownBlock≠some b) [.slice fo fn fk,.bool false] (C++List.replicate (wd - C.length) zc,false) (line_rep.2 ⟨_,rfl,jM⟩) (fun b _ h=>h) ⟨by have:=HS.out.1;have:=jC.out;omega,fun e=>by have:=HL.out.2 _ e;have:=jC.out;omega⟩;have HX:=aa hX;have gL:Below w4.heap.size w4 (w4.alloc (.cells [Value.slice fo fn fk,.bool false].toArray 30)):=af _ _;have jH:=aa ((kd.out.1.below gL).keep (Y:=fun b=>B<=b) (.refl _ _) (fun _ _ h=>h.1));have hU:=aa (g2.out.trans (gL.mono g2.out.size));have kX:=aa (Nat.le_trans jC.out gL.size);have ks:=aa (show Ls.length<=1000000 from by have:=iN.out.2;omega);clear jj jP j4 jM hfn hX gL jf kd
     go_wp2_with (at_builtin;refine ai (E:=lineE) (Z:=fun b=>B<=b) rfl (.tmp 64) (.tmp 68) 22 rfl (.agg #[.slice none 0 0,.bool false]) 32 Tryd.underlying22 cO rfl (by decide) rfl rfl jH.out HX.out (by have:=ks.out;simp;omega) (by have:=ks.out;simp;omega) (Nat.le_trans HS.out.1 kX.out) ?_)
     intro v6 w6 ie iq _ _;have HF:=aa (And.intro (show OwnE lineE (fun b=>w.heap.size<=b) w6 w.heap.size 30 v6 (aL wd X) from by rw [HE.out];exact (ie.keep (Y:=fun b=>w.heap.size<=b) (.refl _ _) (fun b _ h=>Nat.le_trans iO.out h)).base iO.out) (hU.out.trans (iq.mono iO.out)));clear ie iq;go_wp2;exact bodyPost_ret (v:=.tuple #[v6,.nilIface]) (by simp [results,Tryd.results29,go_sem]) rfl ⟨v6,rfl,HF.out.1,HF.out.2⟩
end Go.Proofs.YthdphijabffpiaaDoor
