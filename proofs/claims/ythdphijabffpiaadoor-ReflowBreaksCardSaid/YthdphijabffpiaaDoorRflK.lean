import Derived.Test.YthdphijabffpiaaDoorZ0
import Derived.Test.YthdphijabffpiaaDoorRflJ
import Derived.Test.YthdphijabffpiaaDoorRflH
import Derived.Test.YthdphijabffpiaaDoorMg6
import Derived.Test.YthdphijabffpiaaDoorMg4
import Derived.Lib.MinMax
import Derived.Deep.Cut
import Derived.ProofKit
set_option maxRecDepth 100000
set_option linter.unusedVariables false
set_option linter.unusedSimpArgs false
set_option maxHeartbeats 3000000
namespace Go.Proofs.YthdphijabffpiaaDoor
open Go.RowKit Go.ChangeShapes Go.WideShapes
def cm(Ls:List Ln):Bool:=decide (1500<=aC Ls Ls.length) || decide (100<Ls.length)
theorem ed(v:Value)(Ls:List Ln)(w0:Int)(w:World)(hv:HeldE lineE (fun b=>b<w.heap.size) w v Ls)(hl:Ls.length<=100000)(ht:aC Ls Ls.length<=100000):Calls Tryd.prog 27 #[v,.int .i64 w0] w (fun e w'=>∃ u,e=.returned u/\HeldE lineE (fun _=>True) w' u (bK (wdN w0) Ls)/\Below w.heap.size w w'):=by
 have HL:=aa (c6 v Ls w hv hl ht);obtain ⟨A,hA⟩:=ab (aY Ls);have lU:A.flatten.length<=100000:=by rw [hA];have:=cD Ls Ls.length;unfold aY;omega
 have nl:A.length<=100000:=by rw [hA];have:=(br Ls Ls.length).1;unfold aY;omega
 have HAS:=aa lU;have iq:1<=wdN w0:=by unfold wdN;omega
 have m7:=aa iq;obtain ⟨wd,hwd⟩:=ab (wdN w0);have HW:=aa hwd;have HE:=aa (show bK (wdN w0) Ls=A.flatMap (aR wd) from by unfold bK;rw [hA,hwd]);rw [<-hA] at HL;rw [HE.out];clear hA lU hv iq hwd HE
 go_enter Tryd.func27,Tryd.ntmps27
 go_wp2_with fail
 refine (HL.out).mono ?_;rintro e w1 ⟨av,rfl,kQ,b1⟩;obtain ⟨ao,ac,eav⟩:=kQ.len;subst eav;obtain ⟨_,mX,hat⟩:=aV kQ;have j2:=aa hat;obtain ⟨m,hm⟩:=ab (A.length);have HM:=aa hm;rw [<-hm] at mX nl ⊢;have gZ:=aa b1;clear kQ hat hm b1;go_wp2
 go_loopw [5,7] (fun lv iv wr=>∃ i:Nat,i<=m/\iv=.int .i64 i/\OwnE lineE (fun b=>w.heap.size<=b) wr w1.heap.size 30 lv ((A.take i).flatMap (aR wd))/\Below w1.heap.size w1 wr) (fun _ iv _=>m - (intOf iv).toNat)
 case atStart=>exact ⟨0,Nat.zero_le _,rfl,OwnE.nil _ _ _ _ _,Below.refl _ _⟩
 case round =>
  obtain ⟨i,hi,rfl,ho,hb⟩:=hrel;obtain ⟨wo,jS⟩:=ab (wr);subst jS;have HO:=aa ho;have HB:=aa hb;clear ho hb
  by_cases him:i<m
  ·have d1:(i:Int)<(m:Int):=by omega
   obtain ⟨b,off,u,e0,hb,c0,hh⟩:=j2.out i (by rw [<-HM.out];exact him);subst e0;obtain ⟨X,hX⟩:=ab (A.getD i []);have hxl:X.length<=100000:=by rw [hX];exact Nat.le_trans (cg A i) HAS.out
   rw [<-hX] at hh;have HX:=aa (show (A.take (i+1)).flatMap (aR wd)=(A.take i).flatMap (aR wd)++aR wd X from by
    have:i<A.length:=by rw [<-HM.out];exact him
    rw [List.take_succ_eq_append_getElem this,List.flatMap_append,hX,show A.getD i []=A[i] from by simp [List.getD,List.getElem?_eq_getElem this]]
    simp)
   have HN:=aa (show ((A.take i).flatMap (aR wd)).length<=200000/\(aR wd X).length<=200000 from by
    have lW:1<=wd:=by rw [HW.out];exact m7.out
    have h1:=db wd lW (A.take i);have h2:=bC A i;have h3:=HAS.out;have h4:=dR wd X lW;have h5:=HM.out;rw [List.length_take] at h1;omega)
   have c0:=(HB.out.cell (p:=⟨b,off+i,none⟩) hb).trans c0;have HK:=aa (fh u X w0 wo ((hh.below HB.out).lower) (by omega));rw [<-HW.out] at HK;have lK:i<ac:=by omega
   clear hX hh hb
   go_wp2_with fail
   refine HK.out.mono ?_;rintro e w3 ⟨bv,rfl,kn,b3⟩;have hX:=kn.zone (Y:=fun b=>w.heap.size<=b/\u5.ownBlock≠some b) (fun b _ hz=>⟨Nat.le_trans gZ.out.size (Nat.le_trans HB.out.size hz),fun e=>by have:=(HO.out.lt b e).2;omega⟩);have m0:=aa hX;have lS:=aa (HO.out.below b3);have iJ:=aa (HB.out.trans (b3.mono HB.out.size));have jP:=aa iJ.out.size;clear hX kn b3 c0 HK HO
   go_wp2_with (at_builtin;refine ai (E:=lineE) (Z:=fun b=>w.heap.size<=b) rfl (.tmp 16) (.tmp 22) 22 rfl (.agg #[.slice none 0 0,.bool false]) 32 Tryd.underlying22 cr rfl (by decide) rfl rfl lS.out m0.out (by have:=HN.out;omega) (by have:=HN.out;omega) jP.out ?_)
   intro v4 w4 jA hb4 hk4 _;have HF:=aa (And.intro (show OwnE lineE (fun b=>w.heap.size<=b) w4 w1.heap.size 30 v4 ((A.take (i+1)).flatMap (aR wd)) from by rw [HX.out];exact jA) (iJ.out.trans hb4));clear jA hb4 hk4;go_wp2
   go_roundw
   case rel=>exact ⟨i+1,by omega,by go_num,HF.out⟩
   case measure=>simp [intOf] <;> omega
  ·obtain rfl:i=m:=by omega
   have d1:¬ (i:Int)<(i:Int):=by omega
   have HF:=aa (And.intro (show OwnE lineE (fun b=>w.heap.size<=b) wo w.heap.size 30 u5 (A.flatMap (aR wd)) from by
    have h:=HO.out;rw [HM.out,List.take_length] at h;exact h.base gZ.out.size) (gZ.out.trans (HB.out.mono gZ.out.size)))
   clear HO HB;go_wp2;go_ret;exact ⟨_,rfl,(HF.out.1.held (fun b hb _=>hb)).zone (fun _ _ _=>trivial),HF.out.2⟩
theorem bS(Z:aj)(lv:Value)(Ls:List Ln)(w:World)(hv:HeldE lineE Z w lv Ls)(hr:∀ k,k<Ls.length->(Ls.getD k zl).1.length<=4398046511104):Calls Tryd.prog 21 #[lv] w (Gives w (.bool (cm Ls))):=by
 unfold cm;have mn:=hv.max;obtain ⟨lo,lc,rfl⟩:=hv.len;have hlc:=(aL hv).2.1;have kY:=aa (aL hv).2.2;have HR:=aa hr;obtain ⟨n,hn⟩:=ab (Ls.length);have HNN:=aa hn;rw [<-hn] at hlc mn kY HR ⊢;have HB:=aa (Below.refl w.heap.size w);clear hn hv hr
 go_enter Tryd.func21,Tryd.ntmps21
 go_wp2
 go_loopw [3,4] (fun nv iv wr=>∃ (k:Nat),k<=n/\(∀ m,m<k->aC Ls m<1500)/\nv=.int .i64 (aC Ls k:Nat)/\iv=.int .i64 k/\wr=w) (fun _ iv _=>n - (intOf iv).toNat)
 case atStart=>exact ⟨0,Nat.zero_le _,fun m hm=>absurd hm (Nat.not_lt_zero _),rfl,rfl,rfl⟩
 case round =>
  obtain ⟨k,hk,hlt0,rfl,rfl,rfl⟩:=hrel;have nB:=aa hlt0;clear hlt0
  by_cases hs:aC Ls k<1500
  ·have ds:decide ((aC Ls k:Int)<1500)=true:=decide_eq_true (by omega);have dg:decide ((1500:Int)<=(aC Ls k:Int))=false:=ah (by omega)
   by_cases hlt:k<n
   ·obtain ⟨b,off,cv,rfl,hb,_,hc0,hc1,hcv⟩:=kY.out k hlt;have c0:=(HB.out.cell (p:=⟨b,off+k * 2,none⟩) hb).trans hc0;obtain ⟨co,cc,rfl⟩:=hcv.len;have hnr:=HR.out k hlt;have HS:=aa (show aC Ls (k+1)=aC Ls k+(Ls.getD k zl).1.length from rfl);obtain ⟨nk,hnk⟩:=ab ((Ls.getD k zl).1.length);rw [<-hnk] at c0 hnr HS;have kU:IntKind.i64.wrap ((k:Int)+1)=(k:Int)+1:=by rw [IntKind.wrap_i64];omega
    obtain ⟨s,hsk⟩:=ab (aC Ls k);have HSK:=aa hsk;rw [<-hsk] at hs ds dg HS ⊢;have hws:IntKind.i64.wrap ((s:Int)+(nk:Int))=((s+nk:Nat):Int):=by rw [IntKind.wrap_i64];omega
    have nu:(k:Int)<(n:Int):=by omega
    have kc:k<lc:=by omega
    clear hc0 hc1 hb hnk hcv hsk;go_wp2
    go_roundw
    case rel=>exact ⟨k+1,by omega,fun m hm=>by
     rcases Nat.lt_or_ge m k with h | h
     ·exact nB.out m h
     ·obtain rfl:m=k:=by omega
      rw [<-HSK.out];exact hs,by first | (rw [HS.out];done) | (rw [HS.out];push_cast;rfl) | simp [HS.out] | (go_num;rw [HS.out]),by go_num,trivial⟩
    case measure=>simp [intOf] <;> omega
   ·obtain rfl:k=n:=by omega
    have hg:decide (1500<=aC Ls k)=false:=ah (by omega);have HG:=aa hg;have e100:decide ((100:Int)<(k:Int))=decide (100<k):=by rw [decide_eq_decide];omega
    have HE:=aa e100;clear hg e100;go_wp2;go_ret;exact ⟨by rw [HG.out,Bool.false_or,<-HE.out];rfl,HB.out⟩
  ·have ds:decide ((aC Ls k:Int)<1500)=false:=ah (by omega);have dg:decide ((1500:Int)<=(aC Ls k:Int))=true:=decide_eq_true (by omega);have hmo:=bG Ls hk;have hg:decide (1500<=aC Ls n)=true:=decide_eq_true (by omega);have HG:=aa hg;clear hg hmo
   by_cases hlt:k<n
   ·have nu:(k:Int)<(n:Int):=by omega
    go_wp2;go_ret;exact ⟨by rw [HG.out,Bool.true_or];rfl,HB.out⟩
   ·obtain rfl:k=n:=by omega
    go_wp2;go_ret;exact ⟨by rw [HG.out,Bool.true_or];rfl,HB.out⟩
theorem fg{H:Type}{enc:TypeId × Value->H}{W:World}{base:Nat}{x:Value}{d:DataW H}{p:List MemPlace}(hv:Value.okWide Tryd.prog W .any base 22 x)(h:DataW.Trod enc Tryd.prog W 0 (fun _=>true) true 22 x d p)(hz:∀ z ∈ d.weights Tryd.prog 22,z<=reachBytes) :
  ∃ L,HeldE lineE (fun b=>b<W.heap.size) W x L/\∀ k,k<L.length->(L.getD k zl).1.length<=4398046511104:=by
 obtain ⟨L,hL,kd,_⟩:=fj (E:=lineE) Tryd.underlying22 (by kernel_rfl) (by decide) (eJ Tryd.underlying30 (by kernel_rfl) rfl rfl (cC Tryd.underlying28 (by kernel_rfl) (by decide) eK) (fV (eP Tryd.underlying4 (by kernel_rfl)))) hv h hz;refine ⟨L,hL,fun k hk=>?_⟩;have hb:Tryd.prog.bytesOf 74=32:=by kernel_rfl
 have h9:=(kd (L.getD k zl) (by rw [List.getD_eq_getElem?_getD,List.getElem?_eq_getElem hk];exact List.getElem_mem hk)).1.2;rw [hb] at h9;have hq:reachBytes=140737488351232:=rfl;rw [hq] at h9;omega
end Go.Proofs.YthdphijabffpiaaDoor
