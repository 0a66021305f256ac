import Derived.Test.YthdphijabffpiaaDoorZ0
import Derived.Test.YthdphijabffpiaaDoorSchF
set_option maxRecDepth 100000
set_option linter.unusedVariables false
set_option linter.unusedSimpArgs false
set_option maxHeartbeats 2000000
namespace Go.Proofs.YthdphijabffpiaaDoor
open Go.RowKit Go.ChangeShapes Go.WideShapes
def dv(v:Vw)(W H:Nat)(x:List Int)(i j:Nat):Nat:=cM v.L W H x x.length i j [] 1
theorem fg(Y:ak)(v:Vw)(lv tv:Value)(x:List Int)(W H:Nat)(hn:NatV v W H)(i j:Nat)(hs:aV v.L W H i j)(w:World)(hv:ViewAt w v lv)(ht:HeldE (aF .i32) Y w tv x)(hx:x.length<=1000):Calls Tryd.prog 45 #[aN v lv,.int .i64 (i:Int),.int .i64 (j:Int),tv] w (Gives w (.int .i64 (dv v W H x i j:Nat))):=by
 have jr:=aa (fun (a b:Nat) (h:aV v.L W H a b) (w':World) (b':Below w.heap.size w w')=>fM v lv W H hn a b h w' (hv.below b'));have jT:=aa (fun (a b:Nat) (h:aV v.L W H a b)=>dS hn a b h);have HTL:=aa (fun (a b:Nat) (h:aV v.L W H a b)=>show (bj v.L a b).length<=17 from by
  have h1:=dT h.2.2 (hn.row a h.2.1).2;unfold bH at h1;simp only [Bool.and_eq_true] at h1;have h2:=gk h1.1.1;unfold gC at h2;rw [List.length_append] at h2;unfold bj;omega)
 have iL:=aa hn.len;have iT:=aa (fun i (hi:i<H)=>(hn.row i hi).1);have ko:=hn.h2;have hw2:=hn.w2;unfold dv;obtain ⟨tot,j3⟩:=ab (cM v.L W H x x.length i j [] 1);rw [<-j3];have HTT:=aa ht;have lT:=aa hs;obtain ⟨vw,vh,Ls,r,c,pd,au⟩:=v;obtain ⟨lo,lc,elv⟩:=hv.1.len;rw [hn.len] at elv;subst elv;have im:=aH hv.1;simp only at im iL iT jr HTL lT j3 jT;have hlc:=im.2.1;have ik:=aa im.2.2;have mn:=aa j3;rw [show ∀ z,aN ⟨vw,vh,Ls,r,c,pd,au⟩ z=.agg #[.int .i64 vw,.int .i64 vh,z,.int .i64 r,.int .i64 c,.bool pd,.bool au] from fun _=>rfl] at jr ⊢;obtain ⟨xo,xc,etv⟩:=ht.len;subst etv;obtain ⟨n,i6⟩:=ab (x.length);have HN:=aa i6;rw [<-i6] at HTT hx ⊢;obtain ⟨Wa,gP⟩:=ab (w.alloc (.cells ([.int .i64 vw,.int .i64 vh,.slice lo H lc,.int .i64 r,.int .i64 c,.bool pd,.bool au]:List Value).toArray 26));have ba:Below w.heap.size w Wa:=by rw [gP];exact af _ _
 have ga:Has Wa w.heap.size [.int .i64 vw,.int .i64 vh,.slice lo H lc,.int .i64 r,.int .i64 c,.bool pd,.bool au] 26:=by rw [gP];exact Has.new w _ _
 have iY:=aa (show w.alloc (.cells #[.int .i64 vw,.int .i64 vh,.slice lo H lc,.int .i64 r,.int .i64 c,.bool pd,.bool au] 26)=Wa from by rw [gP]);have iM:=aa ga;have HB:=aa ba;have lx:=aa ga.lt;obtain ⟨B,hB⟩:=ab (Wa.heap.size);have j7:=aa hB;clear gP ba ga hv ht im hn hs j3 i6 hB
 go_enter Tryd.func45,Tryd.ntmps45
 go_upto_region 1 with (fail)
 rw [iY.out];go_wp2
 go_loopw [1,2,9,10] (fun iv jv gv nv wr=>∃ (a b k m:Nat) (got:List Int),Hid (aV Ls W H a b)/\iv=.int .i64 a/\jv=.int .i64 b/\nv=.int .i64 m/\m+k=n+1/\1<=m/\got.length<=17 * (m - 1)/\OwnE (aF .i32) (fun _=>True) wr B 21 gv got/\Hid (cM Ls W H x k a b got m=tot)/\Below B Wa wr) (fun _ _ _ nv _=>n+1 - (intOf nv).toNat)
 case atStart=>exact ⟨i,j,n,1,[],lT,rfl,rfl,rfl,by omega,Nat.le_refl _,Nat.zero_le _,OwnE.nil _ _ _ _ _,aa (by rw [mn.out,HN.out]),Below.refl _ _⟩
 case round =>
  obtain ⟨a,b,k,m,got,HST,rfl,rfl,rfl,hmk,lf,iG,hown,jt,hbr⟩:=hrel;obtain ⟨wo,jy⟩:=ab (wr);subst jy;have HO:=aa hown;have ic:=aa hbr;have nC:=aa (iM.out.below hbr (by rw [j7.out];exact lx.out));have gS:=aa (HB.out.trans (hbr.mono (by rw [j7.out];exact Nat.le_of_lt lx.out)));clear hown hbr
  by_cases hmn:m<=n
  ·have d1:(m:Int)<=(n:Int):=by omega
   obtain ⟨k',rfl⟩ : ∃ k',k=k'+1:=⟨k - 1,by omega⟩;have ha:=HST.out.2.1;have hbW:=HST.out.2.2;obtain ⟨lb,off,cv,e0,iw,_,l0,_,hcv⟩:=ik.out a (by rw [iL.out];exact ha);subst e0;have it:=iT.out a ha;obtain ⟨co,cc,ecv⟩:=hcv.len;rw [it] at ecv;subst ecv;obtain ⟨g6,hcc,iA⟩:=aX hcv;clear g6;obtain ⟨cb,coff,xv,rfl,hcb,_,_,x1,hh⟩:=iA b (by omega);obtain ⟨X,hX⟩:=ab (bj Ls a b);rw [show ((Ls.getD a zl).1.getD b zc).2=X from hX.symm] at hh;have nw:=HTL.out a b HST.out;rw [<-hX] at nw;obtain ⟨tx,tc,exv⟩:=hh.len;subst exv;have oa:=aa (hh.zone (Y:=fun z=>z<w.heap.size) (fun z hz _=>hz));have l0:=(gS.out.cell (p:=⟨lb,off+a * 2,none⟩) iw).trans l0;have x1:=(gS.out.cell (p:=⟨cb,coff+b * 2+1,none⟩) hcb).trans x1;have q2:=nC.out.cell 2 _ rfl;have hac:a<lc:=by omega
   have haI:(a:Int)<(H:Int):=by omega
   have m7:b<cc:=by omega
   have hbI:(b:Int)<(W:Int):=by omega
   have kL:=HO.out.lt;have HU:=aa ((oa.out.below gS.out).zone (Y:=fun z=>True/\u9.ownBlock≠some z) (fun z _ hz=>⟨trivial,fun e=>by have:=(kL z e).1;have:=j7.out;have:=lx.out;omega⟩));have jH:=jt.out;have hre2:(if got++X=x then m else if (ap Ls W H a b).2.2=true then cM Ls W H x k' (ap Ls W H a b).1 (ap Ls W H a b).2.1 (got++X) (m+1) else 0)=tot:=by rw [hX];exact jH
   have lM:=aa hre2;have kU:=aa ic.out.size;have hgl2:got.length<=20000:=by omega
   have nY:=aa nw;clear iw hcb iA hcv it hh hX nw kL jH hre2;have HSZ2:=aa (show B<=wo.heap.size from by rw [j7.out];exact kU.out)
   go_wp2_with (at_builtin;refine aL (E:=aF .i32) (Z:=fun _=>True) rfl (.tmp 20) (.tmp 30) 57 rfl (.int .i32 0) 4 Tryd.underlying57 fy rfl (Nat.lt_succ_self 0) rfl rfl HO.out HU.out (by have:=nY.out;omega) (by have:=nY.out;omega) HSZ2.out ?_)
   intro v2 w6 iq ja _ _;obtain ⟨G,hG⟩:=ab (got++X);rw [<-hG] at iq lM;have hGl:G.length<=17 * (m+1 - 1):=by rw [hG,List.length_append];have:=nY.out;omega
   have HO6:=aa iq;have HG6:=aa (iq.held (Z:=fun _=>True) (fun _ _ _=>trivial));have ke:=aa (ic.out.trans ja);have jl:=aa (gS.out.trans (ja.mono (by rw [j7.out];exact Nat.le_of_lt lx.out)));have HGA6:=aa (iM.out.below ke.out (by rw [j7.out];exact lx.out));have kC:=aa (fY v2 _ G x w6 HG6.out.ints (HTT.out.below jl.out).ints HG6.out.max);clear iq ja hG l0 x1 q2
   by_cases hGx:G=x
   ·have HE:=aa (show tot=m from by have h9:=lM.out;rw [if_pos hGx] at h9;exact h9.symm);rw [show bp G x=true from by unfold bp;exact decide_eq_true hGx] at kC;clear hGx
    go_wp2_with fail
    refine (kC.out).mono ?_;rintro e w7 ⟨rfl,b7⟩;have HF:=aa (jl.out.trans (b7.mono jl.out.size));clear b7;go_wp2;go_ret;exact ⟨by rw [HE.out];rfl,HF.out⟩
   ·have kM:=aa (show (if (ap Ls W H a b).2.2=true then cM Ls W H x k' (ap Ls W H a b).1 (ap Ls W H a b).2.1 G (m+1) else 0)=tot from by have h9:=lM.out;rw [if_neg hGx] at h9;exact h9);rw [show bp G x=false from by unfold bp;exact decide_eq_false hGx] at kC;clear hGx
    go_wp2_with fail
    refine (kC.out).mono ?_;rintro e w7 ⟨rfl,b7⟩;have lF:=aa (ke.out.trans (b7.mono (by rw [j7.out];exact ke.out.size)));have kW:=aa (jl.out.trans (b7.mono jl.out.size));have iN:=aa (HGA6.out.below b7 HGA6.out.lt);have HO7:=aa (HO6.out.below b7);have nM:=aa (jT.out a b HST.out);have kq:=aa (jr.out a b HST.out _ kW.out);clear b7;have q0:=iN.out.cell 0 _ rfl;have q1:=iN.out.cell 1 _ rfl;have q2:=iN.out.cell 2 _ rfl;have q3:=iN.out.cell 3 _ rfl;have q4:=iN.out.cell 4 _ rfl;have q5:=iN.out.cell 5 _ rfl;have q6:=iN.out.cell 6 _ rfl;obtain ⟨⟨na,nb,nt⟩,hN⟩ : ∃ y,y=ap Ls W H a b:=⟨_,rfl⟩;rw [<-hN] at kM nM kq;simp only at kM nM kq;clear hN
    go_wp2_with fail
    refine kq.out.mono ?_;rintro e w8 ⟨rfl,b8⟩;have HB8:=aa (lF.out.trans (b8.mono (by rw [j7.out];exact lF.out.size)));have HBW8:=aa (kW.out.trans (b8.mono kW.out.size));have HO8:=aa (HO7.out.below b8);clear b8 q0 q1 q2 q3 q4 q5 q6
    cases nt with
    |false =>
     have HE:=aa (show tot=0 from by have h9:=kM.out;rw [if_neg (by decide)] at h9;exact h9.symm);go_wp2;go_ret;exact ⟨by rw [HE.out];rfl,HBW8.out⟩
    |true =>
     have HE:=aa (show cM Ls W H x k' na nb G (m+1)=tot from by have h9:=kM.out;rw [if_pos rfl] at h9;exact h9);have mc:=aa (show aV Ls W H na nb from by
      obtain ⟨_,Q,_,h9⟩:=nM.out
      rcases h9 with h9 | h9
      ·exact h9.2.1
      ·exact absurd h9.1 (by decide))
     go_wp2
     go_roundw
     case rel=>exact ⟨na,nb,k',m+1,G,mc,rfl,rfl,by go_num,by omega,by omega,hGl,HO8.out,HE,HB8.out⟩
     case measure=>simp [intOf] <;> omega
  ·obtain rfl:k=0:=by omega
   have d1:¬ (m:Int)<=(n:Int):=by omega
   have HE:=aa (show tot=0 from jt.out.symm);clear hmn;go_wp2;go_ret;exact ⟨by rw [HE.out];rfl,gS.out⟩
end Go.Proofs.YthdphijabffpiaaDoor
