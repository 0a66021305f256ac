import Derived.Test.YthdphijabffpiaaDoorZ0
import Derived.Test.YthdphijabffpiaaDoorSchD
import Derived.Test.YthdphijabffpiaaDoorSchG
import Derived.Test.YthdphijabffpiaaDoorRgnW
import Derived.Test.YthdphijabffpiaaDoorMg1
import Derived.Lib.MinMax
import Derived.Deep.Cut
set_option maxRecDepth 100000
set_option linter.unusedVariables false
set_option linter.unusedSimpArgs false
set_option maxHeartbeats 3000000
namespace Go.Proofs.YthdphijabffpiaaDoor
open Go.RowKit Go.ChangeShapes Go.WideShapes
theorem dx:Tryd.prog.stoodInHeld 80=false:=by kernel_rfl
def cT(a b c a' b' c':Int):Bool:=a == a' && (b == b' && c == c')
theorem fh(a b c a' b' c':Int)(w:World):(binOp .eql 80 (.agg #[.int .i64 a,.int .i64 b,.int .i64 c]) (.agg #[.int .i64 a',.int .i64 b',.int .i64 c'])).run Tryd.prog w=.ok (.bool (cT a b c a' b' c')) w:=by
 rw [run_eql_struct,run_equalIn_agg _ _ _ _ _ (by kernel_rfl) dx];simp only [Program.fieldsOf,Tryd.underlying80]
 by_cases h1:a=a' <;> by_cases h2:b=b' <;> by_cases h3:c=c' <;> simp [Op.eqFields,go_sem,part,h1,h2,h3,cT]
theorem gh(a b c a' b' c':Int)(w:World):(binOp .neq 80 (.agg #[.int .i64 a,.int .i64 b,.int .i64 c]) (.agg #[.int .i64 a',.int .i64 b',.int .i64 c'])).run Tryd.prog w=.ok (.bool (!cT a b c a' b' c')) w:=by
 rw [run_neq_struct,run_equalIn_agg _ _ _ _ _ (by kernel_rfl) dx];simp only [Program.fieldsOf,Tryd.underlying80]
 by_cases h1:a=a' <;> by_cases h2:b=b' <;> by_cases h3:c=c' <;> simp [Op.eqFields,go_sem,part,h1,h2,h3,cT]
theorem c6(a b c:Int):cT a b c a b c=true:=by simp [cT]
def c7(v:Vw):Bool:=decide (500<=bu v.L v.L.length) || decide (100<v.L.length)
theorem ec(v:Vw)(lv:Value)(w:World)(hv:HeldE lineE (fun _=>True) w lv v.L)(hr:∀ k,k<v.L.length->(v.L.getD k zl).1.length<=4398046511104):Calls Tryd.prog 42 #[aN v lv] w (Gives w (.bool (c7 v))):=by
 obtain ⟨vw,vh,Ls,r,c,pd,au⟩:=v;simp only at hv hr;unfold aN c7;simp only;have lO:=hv.max;obtain ⟨lo,lc,rfl⟩:=hv.len;have hlc:=(aH hv).2.1;have ik:=aa (aH hv).2.2;have HR:=aa hr;obtain ⟨n,hn⟩:=ab (Ls.length);have iy:=aa hn;rw [<-hn] at hlc lO ik HR ⊢;obtain ⟨W1,hW1⟩:=ab (w.alloc (.cells [Value.int .i64 vw,.int .i64 vh,.slice lo n lc,.int .i64 r,.int .i64 c,.bool pd,.bool au].toArray 26));obtain ⟨gv,ie⟩:=ab (w.heap.size);have hb1:Below w.heap.size w W1:=by rw [hW1];exact af _ _
 have ij:Has W1 gv [.int .i64 vw,.int .i64 vh,.slice lo n lc,.int .i64 r,.int .i64 c,.bool pd,.bool au] 26:=by rw [hW1,ie];exact Has.new w _ _
 have q2:=ij.cell 2 _ rfl;have HB:=aa hb1;have io:w.alloc (.cells #[Value.int .i64 vw,.int .i64 vh,.slice lo n lc,.int .i64 r,.int .i64 c,.bool pd,.bool au] 26)=W1:=hW1.symm;have iF:=aa ie;clear hW1 hb1 ij ie hn hv hr
 go_enter Tryd.func42,Tryd.ntmps42
 go_upto_region 1 with (fail)
 rw [<-iF.out];clear io;go_wp2
 go_loopw [3,4] (fun nv iv wr=>∃ (k:Nat),k<=n/\(∀ m,m<k->bu Ls m<500)/\nv=.int .i64 (bu Ls k:Nat)/\iv=.int .i64 k/\wr=W1) (fun _ iv _=>n - (intOf iv).toNat)
 case atStart=>exact ⟨0,Nat.zero_le _,fun m hm=>absurd hm (Nat.not_lt_zero _),rfl,rfl,rfl⟩
 case round =>
  obtain ⟨k,hk,hlt0,rfl,rfl,rfl⟩:=hrel;have lI:=aa hlt0;clear hlt0
  by_cases hs:bu Ls k<500
  ·have ds:decide ((bu Ls k:Int)<500)=true:=decide_eq_true (by omega);have dg:decide ((500:Int)<=(bu Ls k:Int))=false:=ah (by omega)
   by_cases hlt:k<n
   ·obtain ⟨b,off,cv,rfl,hb,_,hc0,hc1,hcv⟩:=ik.out k hlt;have c0:=(HB.out.cell (p:=⟨b,off+k * 2,none⟩) hb).trans hc0;obtain ⟨co,cc,rfl⟩:=hcv.len;have hnr:=HR.out k hlt;have HS:=aa (show bu Ls (k+1)=bu Ls k+(Ls.getD k zl).1.length from rfl);obtain ⟨nk,i8⟩:=ab ((Ls.getD k zl).1.length);rw [<-i8] at c0 hnr HS;have kc:IntKind.i64.wrap ((k:Int)+1)=(k:Int)+1:=by rw [IntKind.wrap_i64];omega
    obtain ⟨s,hsk⟩:=ab (bu Ls k);have HSK:=aa hsk;rw [<-hsk] at hs ds dg HS ⊢;have lH:IntKind.i64.wrap ((s:Int)+(nk:Int))=((s+nk:Nat):Int):=by rw [IntKind.wrap_i64];omega
    have jU:(k:Int)<(n:Int):=by omega
    have iJ:k<lc:=by omega
    clear hc0 hc1 hb i8 hcv hsk;go_wp2
    go_roundw
    case rel=>exact ⟨k+1,by omega,fun m hm=>by
     rcases Nat.lt_or_ge m k with h | h
     ·exact lI.out m h
     ·obtain rfl:m=k:=by omega
      rw [<-HSK.out];exact hs,by first | (rw [HS.out];done) | (rw [HS.out];push_cast;rfl) | simp [HS.out] | (go_num;rw [HS.out]),by go_num,trivial⟩
    case measure=>simp [intOf] <;> omega
   ·obtain rfl:k=n:=by omega
    have hg:decide (500<=bu Ls k)=false:=ah (by omega);have HG:=aa hg;have e100:decide ((100:Int)<(k:Int))=decide (100<k):=by rw [decide_eq_decide];omega
    have HE:=aa e100;clear hg e100;go_wp2;go_ret;exact ⟨by rw [HG.out,Bool.false_or,<-HE.out];rfl,HB.out⟩
  ·have ds:decide ((bu Ls k:Int)<500)=false:=ah (by omega);have dg:decide ((500:Int)<=(bu Ls k:Int))=true:=decide_eq_true (by omega);have hmo:=eQ Ls hk;have hg:decide (500<=bu Ls n)=true:=decide_eq_true (by omega);have HG:=aa hg;clear hg hmo
   by_cases hlt:k<n
   ·have jU:(k:Int)<(n:Int):=by omega
    go_wp2;go_ret;exact ⟨by rw [HG.out,Bool.true_or];rfl,HB.out⟩
   ·obtain rfl:k=n:=by omega
    go_wp2;go_ret;exact ⟨by rw [HG.out,Bool.true_or];rfl,HB.out⟩
theorem cE(r:Int)(w:World):Calls Tryd.prog 75 #[.int .i32 r] w (fun e w'=>∃ a k,e=.returned (.agg #[.int .i64 1,.slice a 1 k])/\HeldE (aF .i32) (fun _=>True) w' (.slice a 1 k) [r]/\Below w.heap.size w w'):=by
 obtain ⟨Wa,gP⟩:=ab (w.alloc (.cells [Value.int .i64 0,.slice none 0 0].toArray 74));obtain ⟨Wb,il⟩:=ab (Wa.alloc (.cells [Value.int .i32 r].toArray 21));have ba:Below w.heap.size w Wa:=by rw [gP];exact af _ _
 have bb:Below Wa.heap.size Wa Wb:=by rw [il];exact af _ _
 have sa':Wa.heap.size=w.heap.size+1:=by rw [gP];exact Array.size_push _
 have ga:Has Wa w.heap.size [.int .i64 0,.slice none 0 0] 74:=by rw [gP];exact Has.new w _ _
 have ht:HeldE (aF .i32) (fun b=>b≠w.heap.size) Wb (.slice (some ⟨Wa.heap.size,0,none⟩) 1 1) [r]:=by rw [il];exact bL (Y:=fun _=>False) [.int .i32 r] r rfl (fun _ _ h=>h.elim) (by omega)
 have ga:=Has.below ga bb ga.lt;rw [sa'] at ht;have HA:=aa ga;have HT:=aa ht;have HB:=aa (ba.trans (bb.mono ba.size));have HW:=aa (show (w.alloc (.cells #[Value.int .i64 0,.slice none 0 0] 74)).alloc (.cells #[Value.int .i32 r] 21)=Wb from by rw [il,gP]);clear gP il ba bb sa' ga ht;obtain ⟨g,hg⟩:=ab (w.heap.size);have HG:=aa hg;rw [<-hg] at HA HT;clear hg
 go_enter Tryd.func75,Tryd.ntmps75
 go_wp2_with (rw [HW.out,<-HG.out];refine cQ rfl 74 (.tmp 2) (.tmp 5) rfl g rfl 74 [.int .i64 0,.slice none 0 0] [.int .i64 1,.slice (some ⟨g+1,0,none⟩) 1 1] 2 rfl HA.out (by kernel_rfl) rfl rfl (by intro v hv;simp at hv;rcases hv with rfl | rfl <;> rfl) ?_;intro w5 h5 b5;have HF:=aa (And.intro h5 (And.intro (HT.out.kept (KeepZ.but b5)) (HB.out.trans (b5.below HB.out.size (by have:=HG.out;omega)))));clear h5 b5)
 exact bodyPost_ret (v:=.agg [Value.int .i64 1,.slice (some ⟨g+1,0,none⟩) 1 1].toArray) (eC Tryd.results75 _ _ g 74 _ _ 2 rfl HF.out.1 Tryd.underlying74 rfl (by kernel_rfl) rfl) rfl ⟨_,_,rfl,HF.out.2.1.zone (fun _ _ _=>trivial),HF.out.2.2⟩
def w53:Vw:=⟨2,2,[([(1,[1]),(1,[2])],true),([(1,[3]),(0,[])],false)],0,0,false,false⟩
theorem gy(w:World)(K1 K2:Int)(a b:List Int){o1 o2:Option Addr}{n1 n2 k1 k2:Nat}(h1:HeldE (aF .i32) (fun _=>True) w (.slice o1 n1 k1) a)(h2:HeldE (aF .i32) (fun _=>True) w (.slice o2 n2 k2) b):HeldE cellE (fun _=>True) (w.alloc (.cells #[Value.int .i64 K1,.slice o1 n1 k1,.int .i64 K2,.slice o2 n2 k2] 74)) (.slice (some ⟨w.heap.size,0,none⟩) 2 2) [(K1,a),(K2,b)]:=by
 refine (OwnE.lit (Z:=fun _=>True) (B:=0) (ty:=74) w cellE [[.int .i64 K1,.slice o1 n1 k1],[.int .i64 K2,.slice o2 n2 k2]] [(K1,a),(K2,b)] 2 rfl rfl (Nat.zero_le _) (by decide) (fun i hi=>?_) _ rfl).held (fun _ _ _=>trivial)
 match i,hi with
 | 0,_=>exact cell_rep.2 ⟨_,rfl,h1⟩
 | 1,_=>exact cell_rep.2 ⟨_,rfl,h2⟩
theorem ed(sa:Nat->Addr)(w:World)(hs:Five w sa):Calls Tryd.prog 41 #[] w (Yes w):=by
 have HS:=aa hs;clear hs
 go_enter Tryd.func41,Tryd.ntmps41
 go_wp2_with fail
 refine (cE 1 _).mono ?_;rintro e w1 ⟨a1,k1,rfl,h1,b1⟩;have H1:=aa h1;have B1:=aa b1;clear h1 b1
 go_wp2_with fail
 refine (cE 2 _).mono ?_;rintro e w2 ⟨a2,k2,rfl,h2,b2⟩;have B2:=aa (B1.out.trans (b2.mono B1.out.size));have hr:=gy w2 1 1 [1] [2] (H1.out.below b2) h2;obtain ⟨V3,ng⟩:=ab (w2.alloc (.cells #[Value.int .i64 1,.slice a1 1 k1,.int .i64 1,.slice a2 1 k2] 74));rw [<-ng] at hr;have HR:=aa hr;have B3:=aa (show Below w.heap.size w V3 from by rw [ng];exact B2.out.alloc B2.out.size _);have i7:=aa ng.symm;obtain ⟨g2,hg2⟩:=ab (w2.heap.size);have kS:=aa hg2;rw [<-hg2] at HR;clear h2 b2 hr ng hg2
 go_wp2_with fail
 rw [i7.out,<-kS.out];refine (cE 3 V3).mono ?_;rintro e w5 ⟨a3,k3,rfl,h3,b3⟩;have B5:=aa (B3.out.trans (b3.mono B3.out.size));have hr:=gy w5 1 0 [3] [] h3 (HeldE.nil _ _ _);have hr4:=HR.out.below b3;obtain ⟨V6,mb⟩:=ab (w5.alloc (.cells #[Value.int .i64 1,.slice a3 1 k3,.int .i64 0,.slice none 0 0] 74));have b6:Below w5.heap.size w5 V6:=by rw [mb];exact af _ _
 rw [<-mb] at hr;obtain ⟨g5,mF⟩:=ab (w5.heap.size);rw [<-mF] at hr;have s6:V6.heap.size=g5+1:=by rw [mb,mF];exact Array.size_push _
 obtain ⟨V7,me⟩:=ab (V6.alloc (.cells [Value.slice (some ⟨g2,0,none⟩) 2 2,.bool true,.slice (some ⟨g5,0,none⟩) 2 2,.bool false].toArray 30));have b7:Below V6.heap.size V6 V7:=by rw [me];exact af _ _
 have d1:HeldE lineE (fun _=>True) V7 (.slice (some ⟨V6.heap.size,0,none⟩) 2 2) w53.L:=by
  rw [me];refine (OwnE.lit (Z:=fun _=>True) (B:=0) (ty:=30) V6 lineE [[.slice (some ⟨g2,0,none⟩) 2 2,.bool true],[.slice (some ⟨g5,0,none⟩) 2 2,.bool false]] w53.L 2 rfl rfl (Nat.zero_le _) (by decide) (fun i hi=>?_) _ rfl).held (fun _ _ _=>trivial)
  match i,hi with
  | 0,_=>exact line_rep.2 ⟨_,rfl,hr4.below b6⟩
  | 1,_=>exact line_rep.2 ⟨_,rfl,hr⟩
 have s7:V7.heap.size=g5+1+1:=by rw [me,<-s6];exact Array.size_push _
 obtain ⟨V8,mP⟩:=ab (V7.alloc (.cells [Value.int .i64 2,.int .i64 2,.slice (some ⟨g5+1,0,none⟩) 2 2,.int .i64 0,.int .i64 0,.bool false,.bool false].toArray 26));have b8:Below V7.heap.size V7 V8:=by rw [mP];exact af _ _
 have kh:Has V8 V7.heap.size [.int .i64 2,.int .i64 2,.slice (some ⟨g5+1,0,none⟩) 2 2,.int .i64 0,.int .i64 0,.bool false,.bool false] 26:=by rw [mP];exact Has.new V7 _ _
 have bb:Below w.heap.size w V8:=by
  have q6:=B5.out.trans (b6.mono B5.out.size);have q7:=q6.trans (b7.mono q6.size);exact q7.trans (b8.mono q7.size)
 rw [s7] at kh;rw [s6] at d1;obtain ⟨gv,ie⟩:=ab (g5+1+1);obtain ⟨gl,iG⟩:=ab (g5+1);rw [<-ie,<-iG] at kh;rw [<-iG] at d1;have iF:=aa ie;have n7:=aa iG;have mL:=aa mF;have HX:=aa kh;have HB:=aa bb;have lD:=aa (show ViewAt V8 w53 (.slice (some ⟨gl,0,none⟩) 2 2) from ⟨d1.below b8,by decide,by decide,by decide,by decide⟩);have iy:=aa (show ((w5.alloc (.cells #[Value.int .i64 1,.slice a3 1 k3,.int .i64 0,.slice none 0 0] 74)).alloc (.cells #[Value.slice (some ⟨g2,0,none⟩) 2 2,.bool true,.slice (some ⟨g5,0,none⟩) 2 2,.bool false] 30)).alloc (.cells #[Value.int .i64 2,.int .i64 2,.slice (some ⟨gl,0,none⟩) 2 2,.int .i64 0,.int .i64 0,.bool false,.bool false] 26)=V8 from by rw [mP,me,mb,iG]);clear h3 b3 hr hr4 mb b6 mF s6 me b7 d1 s7 mP b8 kh bb ie iG H1 B1 B2 HR B3 i7 kS B5
 go_upto_region 2 with (fail)
 rw [<-mL.out,<-iF.out,<-n7.out,iy.out];have q0:=HX.out.cell 0 _ rfl;have q1:=HX.out.cell 1 _ rfl;have q2:=HX.out.cell 2 _ rfl;have q3:=HX.out.cell 3 _ rfl;have q4:=HX.out.cell 4 _ rfl;have q5:=HX.out.cell 5 _ rfl;have q6:=HX.out.cell 6 _ rfl;have b9:Below V8.heap.size V8 (V8.alloc (.cells [Value.int .i32 2,.int .i32 3].toArray 21)):=af _ _;have h2:HeldE (aF .i32) (fun _=>True) (V8.alloc (.cells [Value.int .i32 2,.int .i32 3].toArray 21)) (.slice (some ⟨V8.heap.size,0,none⟩) 2 2) [2,3]:=eR (fV .i32 V8 [Value.int .i32 2,.int .i32 3] 21 2 2 [2,3] rfl rfl) (Nat.le_refl _) (by decide) (fun _ _ _=>trivial);have HA:=aa (db sa (fun _=>True) w53 (.slice (some ⟨gl,0,none⟩) 2 2) _ [2,3] _ ((HS.out.below HB.out).below b9) (lD.out.below b9) h2);rw [show cr w53 [2,3]=[(0,1,2)] from by decide +kernel] at HA;have lA:=aa (HB.out.trans (b9.mono HB.out.size));unfold aN w53 at HA;simp only at HA;clear lD HS b9 h2
 go_wp2_with fail
 refine HA.out.mono ?_;rintro e w10 ⟨hv,rfl,ho,b10⟩;have hh:=ho.held (Z:=fun _=>True) (fun _ _ _=>trivial);obtain ⟨xo,xk,ehv⟩:=hh.len;rw [show ([(0,1,2)]:List Ht).length=1 from rfl] at ehv;subst ehv;obtain ⟨hn,hc,hat⟩:=dQ hh;obtain ⟨hb,hoff,e0,hlt,_,c0,c1,c2⟩:=hat 0 (by decide);subst e0;rw [show ([(0,1,2)]:List Ht).getD 0 zht=(0,1,2) from rfl] at c0 c1 c2;simp only [Nat.zero_mul,Nat.add_zero] at c0 c1 c2;have HF:=aa (lA.out.trans (b10.mono lA.out.size));have mA:0<xk:=by omega
 have hq:=fh;clear hn hat hh ho b10 hlt q0 q1 q2 q3 q4 q5 q6;go_wp2;go_ret;exact ⟨ae,HF.out⟩
end Go.Proofs.YthdphijabffpiaaDoor
