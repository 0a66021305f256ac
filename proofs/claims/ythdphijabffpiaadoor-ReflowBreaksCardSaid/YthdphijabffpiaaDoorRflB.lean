import Derived.Test.YthdphijabffpiaaDoorZ0
import Derived.Test.YthdphijabffpiaaDoorMg4
import Derived.Test.YthdphijabffpiaaDoorItmC
import Derived.Lib.MinMax
import Derived.Deep.Cut
import Derived.ProofKit
set_option maxRecDepth 100000
set_option linter.unusedVariables false
set_option linter.unusedSimpArgs false
set_option maxHeartbeats 3000000
namespace Go.Proofs.YthdphijabffpiaaDoor
open Go.RowKit Go.ChangeShapes Go.WideShapes
def aD(w:Nat)(x:Cl):List Cl:=if w<(ofC x.1 x.2).length then ofC 1 [65533] else ofC x.1 x.2
def bH(w:Nat)(C:List Cl)(g:Bool):Ln:=(C++List.replicate (w - C.length) zc,g)
def aZ(w:Nat)(X:List Cl):Nat->List Ln × List Cl
 | 0=>([],[])
 | k+1=>if w<(aZ w X k).2.length+(aD w (X.getD k zc)).length then ((aZ w X k).1++[bH w (aZ w X k).2 true],aD w (X.getD k zc)) else ((aZ w X k).1,(aZ w X k).2++aD w (X.getD k zc))
def aR(w:Nat)(X:List Cl):List Ln:=(aZ w X X.length).1++[bH w (aZ w X X.length).2 false]
theorem eM(wide:Int)(xs:List Int):1<=(ofC wide xs).length/\(ofC wide xs).length<=2:=by
 unfold ofC;simp only
 split <;> split <;> simp
theorem cF(w:Nat)(x:Cl)(h:1<=w):1<=(aD w x).length/\(aD w x).length<=w:=by
 unfold aD
 split
 ·have:(ofC 1 [65533]).length=1:=by decide
  omega
 ·have:=eM x.1 x.2;omega
theorem cq(w:Nat)(X:List Cl)(h:1<=w):∀ k,(aZ w X k).2.length<=w/\(aZ w X k).1.length<=k
 |0=>⟨Nat.zero_le _,Nat.le_refl _⟩
 |k+1=>by
  have ih:=cq w X h k;have hs:=cF w (X.getD k zc) h;unfold aZ
  split
  ·exact ⟨hs.2,by rw [List.length_append];have:([bH w (aZ w X k).2 true]:List Ln).length=1:=rfl;omega⟩
  ·exact ⟨by rw [List.length_append];omega,by show (aZ w X k).1.length<=k+1;omega⟩
def wdN(w:Int):Nat:=(min (max w 1) 1024).toNat
theorem bk{α:Type}{E:Elem α}{s:Nat}{w w':World}{B:Nat}{ty:TypeId}{v:Value}{L:List α}{B0:Nat}(h:OwnE E (fun b=>B0<=b/\b<s) w B ty v L)(hs:∀ b,v.ownBlock=some b->b<s)(hb:Below s w w'):OwnE E (fun b=>B0<=b/\b<s) w' B ty v L :=
 h.keep ⟨hb.size,fun b _ hz=>hb.block b (by rcases hz with hz | hz;exact hz.2;exact hs b hz)⟩ (fun _ _ h=>h)
theorem cr:(Tryd.prog.info? 30).map (fun i=>(i.zero,i.size,i.bytes))=some (some (.agg #[.slice none 0 0,.bool false]),lineE.size,32):=by kernel_rfl
theorem fX(v:Value)(X:List Cl)(w0:Int)(w:World)(hv:HeldE cellE (fun b=>b<w.heap.size) w v X)(hl:X.length<=1000000)(hr:∀ k,k<X.length->aO (X.getD k zc)=true):Calls Tryd.prog 29 #[v,.int .i64 w0] w (fun e w'=>∃ u,e=.returned (.tuple #[u,.nilIface])/\OwnE lineE (fun b=>w.heap.size<=b) w' w.heap.size 30 u (aR (wdN w0) X)/\Below w.heap.size w w'):=by
 obtain ⟨ao,cap,rfl⟩:=hv.len;obtain ⟨ij,il,kA⟩:=aB hv;clear ij;have j9:=aa kA;have HR:=aa hr;obtain ⟨n,hn⟩:=ab (X.length);have HN:=aa hn;rw [<-hn] at hl il ⊢;obtain ⟨wd,hwd⟩:=ab (wdN w0);have lJ:min (max w0 1) 1024=(wd:Int):=by rw [hwd];unfold wdN;omega
 have iq:1<=wd:=by rw [hwd];unfold wdN;omega
 have k9:wd<=1024:=by rw [hwd];unfold wdN;omega
 rw [<-hwd];clear kA hn hwd hr hv
 go_enter Tryd.func29,Tryd.ntmps29
 go_wp2
 go_loopw [15] (fun i wr=>∃ k:Nat,k<=n/\i=.int .i64 k/\Below w.heap.size w wr) (fun i _=>n - (intOf i).toNat)
 case atStart=>exact ⟨0,Nat.zero_le _,rfl,Below.refl _ _⟩
 case round =>
  obtain ⟨k,hk,rfl,hb⟩:=hrel;obtain ⟨wo,jS⟩:=ab (wr);subst jS;have jr:=aa hb;clear hb
  by_cases hkn:k<n
  ·have d1:(k:Int)<(n:Int):=by omega
   obtain ⟨b,off,tv,e0,hb,_,c0,c1,hh⟩:=j9.out k (by rw [<-HN.out];exact hkn);subst e0;have jq:=HR.out k (by rw [<-HN.out];exact hkn);obtain ⟨⟨K,T⟩,ic⟩ : ∃ y,y=X.getD k zc:=⟨_,rfl⟩;rw [<-ic] at c0 hh jq;simp only at c0 hh;obtain ⟨tx,tc,etv⟩:=hh.len;subst etv;have c0:=(jr.out.cell (p:=⟨b,off+k * 2,none⟩) hb).trans c0;have c1:=(jr.out.cell (p:=⟨b,off+k * 2+1,none⟩) hb).trans c1;obtain ⟨W1,hW1⟩:=ab (wo.alloc (.cells [Value.int .i64 K,.slice tx T.length tc].toArray 59));have hb1:Below wo.heap.size wo W1:=by rw [hW1];exact af _ _
   have iK:Has W1 wo.heap.size [.int .i64 K,.slice tx T.length tc] 59:=by rw [hW1];exact Has.new wo _ _
   have jZ:=aa (show wo.alloc (.cells #[Value.int .i64 K,.slice tx T.length tc] 59)=W1 from by rw [hW1]);obtain ⟨gp,iR⟩:=ab (wo.heap.size);have j7:=aa iR;rw [<-iR] at iK;have gZ:=aa (jr.out.trans (hb1.mono jr.out.size));have ku:=aa (fc K (.slice tx T.length tc) T W1 (hh.below gZ.out).ints hh.max);rw [jq] at ku;have z0:=iK.cell 0 _ rfl;have z1:=iK.cell 1 _ rfl;have kc:k<cap:=by omega
   clear ic hb hh jq hW1 hb1 iK iR
   go_upto_region 4 with (fail)
   rw [jZ.out,<-j7.out];clear c0 c1
   go_wp2_with fail
   refine (ku.out).mono ?_;rintro e w2 ⟨rfl,b2⟩;have HF:=aa (gZ.out.trans (b2.mono gZ.out.size));clear b2 z0 z1;go_wp2
   go_roundw
   case rel=>exact ⟨k+1,by omega,by go_num,HF.out⟩
   case measure=>simp [intOf] <;> omega
  ·obtain rfl:k=n:=by omega
   have d1:¬ (k:Int)<(k:Int):=by omega
   clear hkn hk
   go_upto_region 8 with (fail)
   try rw [lJ]
   obtain ⟨B,hB⟩:=ab (wo.heap.size);have HBE:=aa hB;have jK:=aa (show w.heap.size<=B from by rw [hB];exact jr.out.size);clear hB lJ;go_wp2
   go_loopw [8,9,32] (fun lv cv iv wr=>∃ (i s:Nat) (Ls:List Ln) (C:List Cl),i<=k/\iv=.int .i64 i/\Hid ((Ls,C)=aZ wd X i)/\OwnE lineE (fun b=>B<=b/\b<s) wr B 30 lv Ls/\(∀ b,lv.ownBlock=some b->b<s)/\OwnE cellE (fun b=>B<=b/\lv.ownBlock≠some b) wr s 74 cv C/\B<=s/\s<=wr.heap.size/\Below w.heap.size w wr) (fun _ _ iv _=>k - (intOf iv).toNat)
   case atStart=>exact ⟨0,B,[],[],Nat.zero_le _,rfl,aa rfl,OwnE.nil _ _ _ _ _,(fun b e=>by cases e),OwnE.nil _ _ _ _ _,Nat.le_refl _,by have:=HBE.out;omega,jr.out⟩
   case round =>
    obtain ⟨i,s,Ls,C,hi,rfl,nK,mn,ip,hc1,hBs,hss,hb⟩:=hrel;obtain ⟨wp,lH⟩:=ab (wr);subst lH;have HL:=aa (And.intro mn ip);have HC:=aa hc1;have HS:=aa (And.intro hBs hss);have lQ:=aa hb;have jm:=aa (cq wd X iq i);rw [<-nK.out] at jm;simp only at jm;clear mn ip hc1 hBs hss hb
    by_cases hik:i<k
    ·have d2:(i:Int)<(k:Int):=by omega
     obtain ⟨b,off,tv,e0,hb,_,c0,c1,hh⟩:=j9.out i (by rw [<-HN.out];exact hik);subst e0;obtain ⟨⟨K,T⟩,ic⟩ : ∃ y,y=X.getD i zc:=⟨_,rfl⟩;rw [<-ic] at c0 hh;simp only at c0 hh;obtain ⟨tx,tc,etv⟩:=hh.len;subst etv;have c0:=(lQ.out.cell (p:=⟨b,off+i * 2,none⟩) hb).trans c0;have c1:=(lQ.out.cell (p:=⟨b,off+i * 2+1,none⟩) hb).trans c1;obtain ⟨W1,hW1⟩:=ab (wp.alloc (.cells [Value.int .i64 K,.slice tx T.length tc].toArray 59));have hb1:Below wp.heap.size wp W1:=by rw [hW1];exact af _ _
     have iK:Has W1 wp.heap.size [.int .i64 K,.slice tx T.length tc] 59:=by rw [hW1];exact Has.new wp _ _
     have jZ:=aa (show wp.alloc (.cells #[Value.int .i64 K,.slice tx T.length tc] 59)=W1 from by rw [hW1]);obtain ⟨gp,iR⟩:=ab (wp.heap.size);have j7:=aa iR;rw [<-iR] at iK;have gZ:=aa (lQ.out.trans (hb1.mono lQ.out.size));have m5:=aa (And.intro (HL.out.1.below hb1) HL.out.2);have nn:=aa (HC.out.below hb1);have np:=aa (And.intro HS.out.1 (Nat.le_trans HS.out.2 hb1.size));have kB:=aa (fr (fun b=>W1.heap.size<=b) (fun b=>b<w.heap.size) K (.slice tx T.length tc) T W1 (fun b hb=>hb) (hh.below gZ.out));have z0:=iK.cell 0 _ rfl;have z1:=iK.cell 1 _ rfl;have kO:=aa (show aD wd (X.getD i zc)=if wd<(ofC K T).length then ofC 1 [65533] else ofC K T from by rw [<-ic];rfl);have lK:i<cap:=by omega
     clear ic hb hh hW1 hb1 iK iR HL HC HS
     go_upto_region 13 with (fail)
     rw [jZ.out,<-j7.out];clear c0 c1
     go_wp2_with fail
     refine (kB.out).mono ?_;rintro e w2 ⟨sv,rfl,ho,b2⟩;obtain ⟨g1,hg1⟩:=ab (W1.heap.size);have HG1:=aa hg1;rw [<-hg1] at ho;have hs0:=(ho.keep (Y:=fun _=>True) (.refl _ _) (fun _ _ _=>trivial)).held (fun _ _ _=>trivial);obtain ⟨so,sk,esv⟩:=hs0.len;obtain ⟨sn,k8⟩:=ab ((ofC K T).length);have kL:=eM K T;rw [<-k8] at esv kL;have ko:=aa k8;subst esv;have jO:=aa ho;have hG:=aa (gZ.out.trans (b2.mono gZ.out.size));have mV:=aa (And.intro (m5.out.1.below b2) m5.out.2);have HC2:=aa (nn.out.below b2);have kp:=aa (show g1<=w2.heap.size from by rw [hg1];exact b2.size);have ir:=aa (And.intro np.out.1 (show s<=g1 from by rw [hg1];exact np.out.2));have mw:=aa (show ∀ b,u9.ownBlock=some b->s<=b/\b<g1 from fun b e=>by rw [hg1];exact nn.out.lt b e);clear k8 hg1 ho hs0 b2 z0 z1 m5 nn np
     go_upto_if 44 with (fail)
     go_cut [12] from 44 to 46 (fun tv wx=>∃ o m c,tv=.slice o m c/\m=(aD wd (X.getD i zc)).length/\OwnE cellE (fun b=>g1<=b) wx g1 74 (.slice o m c) (aD wd (X.getD i zc))/\Below w2.heap.size w2 wx)
     case first =>
      by_cases hlt:wd<sn
      ·have d3:decide ((wd:Int)<(sn:Int))=true:=ag (by omega);have d4:(wd:Int)<(sn:Int):=by omega
       have HE:=aa (show aD wd (X.getD i zc)=ofC 1 [65533] from kO.out.trans (if_pos (by rw [<-ko.out];exact hlt)));obtain ⟨Wt,jX⟩:=ab (w2.alloc (.cells [Value.int .i32 65533].toArray 21));have bt:Below w2.heap.size w2 Wt:=by rw [jX];exact af _ _
       have ht:HeldE (be .i32) (fun _=>True) Wt (.slice (some ⟨w2.heap.size,0,none⟩) 1 1) [65533]:=by rw [jX];exact ax (Y:=fun _=>False) [.int .i32 65533] 65533 rfl (fun _ _ h=>h.elim) trivial
       have l8:=aa (show w2.alloc (.cells #[Value.int .i32 65533] 21)=Wt from by rw [jX]);have HOT:=aa (fr (fun b=>g1<=b) (fun _=>True) 1 (.slice (some ⟨w2.heap.size,0,none⟩) 1 1) [65533] Wt (fun b hb=>Nat.le_trans kp.out (Nat.le_trans bt.size hb)) ht);have m4:=aa bt;clear hlt jX bt ht
       go_wp2_with fail
       rw [l8.out];refine HOT.out.mono ?_;rintro e w3 ⟨sv3,rfl,jg,b3⟩;have hs3:=(jg.keep (Y:=fun _=>True) (.refl _ _) (fun _ _ _=>trivial)).held (fun _ _ _=>trivial);obtain ⟨o3,k3,ev3⟩:=hs3.len;rw [show (ofC 1 [65533]).length=1 from by decide] at ev3;subst ev3;have HF:=aa (And.intro (jg.base (B':=g1) (Nat.le_trans kp.out m4.out.size)) (m4.out.trans (b3.mono m4.out.size)));clear jg b3 hs3;go_wp2;go_meet
       case rel=>exact ⟨o3,1,k3,rfl,by rw [HE.out];rfl,by rw [HE.out];exact HF.out.1,HF.out.2⟩
      ·have d3:decide ((wd:Int)<(sn:Int))=false:=ah (by omega);have d4:¬ (wd:Int)<(sn:Int):=by omega
       have HE:=aa (show aD wd (X.getD i zc)=ofC K T from kO.out.trans (if_neg (by rw [<-ko.out];exact hlt)));clear hlt;go_wp2;go_meet
       case rel=>exact ⟨so,sn,sk,rfl,by rw [HE.out];exact ko.out,by rw [HE.out];exact jO.out,Below.refl _ _⟩
     case rest =>
      obtain ⟨o3,m3,k3,rfl,jy,kZ,hb3⟩:=hcut;obtain ⟨w3,hw3⟩:=ab (wc);subst hw3;obtain ⟨S,hS⟩:=ab (aD wd (X.getD i zc));have mz:=aa hS;rw [<-hS] at jy kZ;have hsw:m3<=wd/\1<=m3:=by rw [jy,hS];have:=cF wd (X.getD i zc) iq;omega
      have lq:=aa jy;have kr:=aa kZ;have iJ:=aa (hG.out.trans (hb3.mono hG.out.size));have jJ:=aa (And.intro (mV.out.1.below hb3) mV.out.2);have mi:=aa (HC2.out.below hb3);have kl:=aa (Nat.le_trans kp.out hb3.size);have lL:aZ wd X (i+1)=if wd<C.length+m3 then (Ls++[bH wd C true],S) else (Ls,C++S):=by
       show (if wd<(aZ wd X i).2.length+(aD wd (X.getD i zc)).length then _ else _)=_;rw [<-nK.out,<-hS,jy]
      have ln:=aa lL;obtain ⟨cn,ij⟩:=ab (C.length);have ly:=aa ij;obtain ⟨co,ck,ecv⟩:=((mi.out.keep (Y:=fun _=>True) (.refl _ _) (fun _ _ _=>trivial)).held (fun _ _ _=>trivial)).len;rw [<-ij] at ecv;have hcw:cn<=wd:=by rw [ij];exact jm.out.1
      obtain ⟨rm,hrm⟩:=ab (wd - cn);have hwr:IntKind.i64.wrap ((wd:Int) - (cn:Int))=(rm:Int):=by rw [IntKind.wrap_i64];omega
      have HRM:=aa hrm;subst ecv;have hi9:i<=1000000:=by omega
      clear hS jy kZ hb3 lL ij hrm kO ko jO hG mV HC2 kp
      by_cases hfit:wd<cn+m3
      ·have d5:(rm:Int)<(m3:Int):=by have:=HRM.out;omega
       have kM:=aa (show (Ls++[bH wd C true],S)=aZ wd X (i+1) from by rw [ln.out,if_pos (by rw [<-ly.out];exact hfit)]);have kj:=aa (de (fun b=>B<=b/\u8.ownBlock≠some b) s (.slice co cn ck) C wd true w3 mi.out (fun b hb=>⟨Nat.le_trans (Nat.le_trans ir.out.1 (Nat.le_trans ir.out.2 kl.out)) hb,fun e=>by have:=jJ.out.2 b e;have:=ir.out.2;have:=kl.out;omega⟩) (by have:=ir.out.2;have:=kl.out;omega) k9 jm.out.1);clear hfit
       go_wp2_with fail
       refine kj.out.mono ?_;rintro e w4 ⟨fv,rfl,km,la,lu⟩;have lD:=aa (kr.out.keep (Y:=fun b=>g1<=b) (lu.mono (fun b _ hz e=>by
        have h9:=mw.out b e
        rcases hz with hz | hz
        ·omega
        ·have:=(kr.out.lt b hz).1;omega)) (fun _ _ h=>h))
       have lj:=aa (And.intro (bk jJ.out.1 jJ.out.2 la) jJ.out.2);have iI:=aa (iJ.out.trans (la.mono (Nat.le_trans jK.out ir.out.1)));have k4:=aa (Nat.le_trans kl.out lu.size);have kW:=km.held (fun b hb _=>⟨Nat.le_trans ir.out.1 hb,fun e=>by have:=jJ.out.2 b e;omega⟩);obtain ⟨fo,fk,efv⟩:=kW.len;obtain ⟨fn,hfn⟩:=ab ((C++List.replicate (wd - C.length) zc).length);rw [<-hfn] at efv;subst efv;have hX:=ax (E:=lineE) (w:=w4) (ty:=30) (Y:=fun b=>B<=b/\u8.ownBlock≠some b) (Z:=fun b=>B<=b/\u8.ownBlock≠some b) [.slice fo fn fk,.bool true] (C++List.replicate (wd - C.length) zc,true) (line_rep.2 ⟨_,rfl,kW⟩) (fun b _ h=>h) ⟨by have:=ir.out.1;have:=ir.out.2;have:=k4.out;omega,fun e=>by have:=jJ.out.2 _ e;have:=ir.out.2;have:=k4.out;omega⟩;have HX:=aa hX;have hO:Below w4.heap.size w4 (w4.alloc (.cells [Value.slice fo fn fk,.bool true].toArray 30)):=af _ _;have k6:=aa ((lj.out.1.below hO).keep (Y:=fun b=>B<=b) (.refl _ _) (fun _ _ h=>h.1));have mD:=aa (lD.out.below hO);have iM:=aa (iI.out.trans (hO.mono iI.out.size));have mq:=aa (Nat.le_trans k4.out hO.size);have mg:=aa (show Ls.length<=1000000 from by have:=jm.out.2;omega);have HLK:=aa lj.out.2;clear km la lu kW hfn hX hO kj mi jJ lj
       go_wp2_with (first
        |(at_builtin
          refine ai (E:=lineE) (Z:=fun b=>B<=b) rfl (.tmp 54) (.tmp 58) 22 rfl (.agg #[.slice none 0 0,.bool false]) 32 Tryd.underlying22 cr rfl (by decide) rfl rfl k6.out HX.out (by have:=mg.out;simp;omega) (by have:=mg.out;simp;omega) (Nat.le_trans ir.out.1 (Nat.le_trans ir.out.2 mq.out)) ?_))
       intro v6 w6 iW je kq kb;have hs5:=(mD.out.keep (Y:=fun b=>g1<=b/\b<(w4.alloc (.cells [Value.slice fo fn fk,.bool true].toArray 30)).heap.size) (.refl _ _) (fun b hb h=>⟨h,hb⟩)).held (fun b h1 h2=>⟨h1,h2⟩);have mf:=hs5.keep (Y:=fun b=>(B<=b/\v6.ownBlock≠some b)/\(Value.slice none 0 0).ownBlock≠some b) (kq.mono (fun b _ hz e=>by have:=HLK.out b e;have:=ir.out.2;have:=hz.1;omega)) (fun b _ hz=>⟨⟨Nat.le_trans ir.out.1 (Nat.le_trans ir.out.2 hz.1),kb b (by simpa using hz.2) (fun e=>by have:=HLK.out b e;have:=ir.out.2;have:=hz.1;omega)⟩,fun e=>by cases e⟩);have lO:=aa mf;have mY:=aa (And.intro (iW.keep (Y:=fun b=>B<=b/\b<w6.heap.size) (.refl _ _) (fun b hb h=>⟨h,hb⟩)) (fun b e=>(iW.lt b e).2));have kg:=aa (iM.out.trans (je.mono jK.out));have HBS6:=aa (show B<=w6.heap.size from Nat.le_trans ir.out.1 (Nat.le_trans ir.out.2 (Nat.le_trans mq.out je.size)));have HN6:=aa (OwnE.nil cellE (fun b=>B<=b/\v6.ownBlock≠some b) w6 w6.heap.size 74);have lM:=aa (show S.length<=1024 from by rw [<-lq.out];omega);clear iW je kq kb hs5 mf mD k6
       go_wp2_with (at_builtin;refine ai (E:=cellE) (Z:=fun b=>B<=b/\v6.ownBlock≠some b) rfl (.tmp 60) (.tmp 61) 28 rfl (.agg #[.int .i64 0,.slice none 0 0]) 32 Tryd.underlying28 bs rfl (by decide) rfl rfl HN6.out lO.out (by have:=lM.out;simp;omega) (by have:=lM.out;simp;omega) (Nat.le_refl _) ?_)
       intro v7 w7 lk kh _ _
       try rw [List.nil_append] at lk
       have HF:=aa (And.intro (bk mY.out.1 mY.out.2 kh) (And.intro mY.out.2 (And.intro lk (And.intro HBS6.out (And.intro kh.size (kg.out.trans (kh.mono kg.out.size)))))));clear lk kh;go_wp2
       go_roundw
       case rel=>exact ⟨i+1,w6.heap.size,_,S,by omega,by go_num,kM,HF.out⟩
       case measure=>simp [intOf] <;> omega
      ·have d5:¬ (rm:Int)<(m3:Int):=by have:=HRM.out;omega
       have kM:=aa (show (Ls,C++S)=aZ wd X (i+1) from by rw [ln.out,if_neg (by rw [<-ly.out];exact hfit)]);have hX:=(kr.out.held (fun b h _=>h)).zone (Y:=fun b=>(B<=b/\u8.ownBlock≠some b)/\(Value.slice co cn ck).ownBlock≠some b) (fun b _ hz=>⟨⟨Nat.le_trans ir.out.1 (Nat.le_trans ir.out.2 hz),fun e=>by have:=jJ.out.2 b e;have:=ir.out.2;omega⟩,fun e=>by have:=(mw.out b e).2;omega⟩);have HX:=aa hX;have lM:=aa (show S.length<=1024/\C.length<=1024 from by rw [<-lq.out,<-ly.out];omega);clear hX hfit
       go_wp2_with (at_builtin;refine ai (E:=cellE) (Z:=fun b=>B<=b/\u8.ownBlock≠some b) rfl (.tmp 60) (.tmp 61) 28 rfl (.agg #[.int .i64 0,.slice none 0 0]) 32 Tryd.underlying28 bs rfl (by decide) rfl rfl mi.out HX.out (by have:=lM.out;omega) (by have:=lM.out;omega) (Nat.le_trans ir.out.2 kl.out) ?_)
       intro v7 w7 lk kh _ _;have HF:=aa (And.intro (bk jJ.out.1 jJ.out.2 kh) (And.intro jJ.out.2 (And.intro lk (And.intro ir.out.1 (And.intro (Nat.le_trans ir.out.2 (Nat.le_trans kl.out kh.size)) (iJ.out.trans (kh.mono (Nat.le_trans jK.out ir.out.1))))))));clear lk kh;go_wp2
       go_roundw
       case rel=>exact ⟨i+1,s,Ls,C++S,by omega,by go_num,kM,HF.out⟩
       case measure=>simp [intOf] <;> omega
    ·obtain rfl:i=k:=by omega
     have d2:¬ (i:Int)<(i:Int):=by omega
     have HE:=aa (show aR wd X=Ls++[bH wd C false] from by unfold aR;rw [<-HN.out,<-nK.out]);have kj:=aa (de (fun b=>B<=b/\u8.ownBlock≠some b) s u9 C wd false wp HC.out (fun b hb=>⟨Nat.le_trans HS.out.1 (Nat.le_trans HS.out.2 hb),fun e=>by have:=HL.out.2 b e;have:=HS.out.2;omega⟩) HS.out.2 k9 jm.out.1);clear hik
     go_wp2_with fail
     refine kj.out.mono ?_;rintro e w4 ⟨fv,rfl,km,la,lu⟩;have lj:=aa (And.intro (bk HL.out.1 HL.out.2 la) HL.out.2);have iI:=aa (lQ.out.trans (la.mono (Nat.le_trans jK.out HS.out.1)));have k4:=aa (Nat.le_trans HS.out.2 lu.size);have kW:=km.held (fun b hb _=>⟨Nat.le_trans HS.out.1 hb,fun e=>by have:=HL.out.2 b e;omega⟩);obtain ⟨fo,fk,efv⟩:=kW.len;obtain ⟨fn,hfn⟩:=ab ((C++List.replicate (wd - C.length) zc).length);rw [<-hfn] at efv;subst efv;have hX:=ax (E:=lineE) (w:=w4) (ty:=30) (Y:=fun b=>B<=b/\u8.ownBlock≠some b) (Z:=fun b=>B<=b/\u8.ownBlock≠some b) [.slice fo fn fk,.bool false] (C++List.replicate (wd - C.length) zc,false) (line_rep.2 ⟨_,rfl,kW⟩) (fun b _ h=>h) ⟨by have:=HS.out.1;have:=k4.out;omega,fun e=>by have:=HL.out.2 _ e;have:=k4.out;omega⟩;have HX:=aa hX;have hO:Below w4.heap.size w4 (w4.alloc (.cells [Value.slice fo fn fk,.bool false].toArray 30)):=af _ _;have k6:=aa ((lj.out.1.below hO).keep (Y:=fun b=>B<=b) (.refl _ _) (fun _ _ h=>h.1));have iM:=aa (iI.out.trans (hO.mono iI.out.size));have mq:=aa (Nat.le_trans k4.out hO.size);have mg:=aa (show Ls.length<=1000000 from by have:=jm.out.2;omega);clear km la lu kW hfn hX hO kj lj
     go_wp2_with (at_builtin;refine ai (E:=lineE) (Z:=fun b=>B<=b) rfl (.tmp 64) (.tmp 68) 22 rfl (.agg #[.slice none 0 0,.bool false]) 32 Tryd.underlying22 cr rfl (by decide) rfl rfl k6.out HX.out (by have:=mg.out;simp;omega) (by have:=mg.out;simp;omega) (Nat.le_trans HS.out.1 mq.out) ?_)
     intro v6 w6 iW je _ _;have HF:=aa (And.intro (show OwnE lineE (fun b=>w.heap.size<=b) w6 w.heap.size 30 v6 (aR wd X) from by rw [HE.out];exact (iW.keep (Y:=fun b=>w.heap.size<=b) (.refl _ _) (fun b _ h=>Nat.le_trans jK.out h)).base jK.out) (iM.out.trans (je.mono jK.out)));clear iW je;go_wp2;exact bodyPost_ret (v:=.tuple #[v6,.nilIface]) (by simp [results,Tryd.results29,go_sem]) rfl ⟨v6,rfl,HF.out.1,HF.out.2⟩
end Go.Proofs.YthdphijabffpiaaDoor
