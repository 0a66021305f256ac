import Derived.Test.YtechjomepdahiaaDoorZ0
import Derived.Test.YtechjomepdahiaaDoorWirK
import Derived.Test.YtechjomepdahiaaDoorMg1
import Derived.Laws.MakeOwn
set_option maxRecDepth 100000
set_option linter.unusedVariables false
set_option linter.unusedSimpArgs false
set_option maxHeartbeats 3000000
namespace Go.Proofs.YtechjomepdahiaaDoor
open Go.RowKit Go.ChangeShapes Go.WideShapes
def j6:Vw:=⟨1,1,[([(0,[])],false)],0,0,false,true⟩
theorem j7:aS j6=[76,1,1,0,0,2,0,2]:=by
 simp [aS,j6,ck,bQ,lnB,b8,bG,av,blk,clB]
theorem gB(sa:Nat->Addr)(w:World)(hs:Five w sa):Calls Tryd.prog 16 #[] w (Yes w):=by
 obtain ⟨i0,hi,hz0,pp,hz2⟩:=info_parts ee;have hMK:=run_makeSlice (P:=Tryd.prog) w 67 85 i0 _ Tryd.underlying67 hi hz0 .i64 .i64 1 1 (by decide) (by decide) (by rw [pp];decide) (by rw [hz2];decide) (by decide);rw [show (1:Int).toNat=1 from rfl,pp,show madeCells (Value.agg #[.int .i64 0,.slice none 0 0]).cells (1 * cellE.size)=[Value.int .i64 0,.slice none 0 0].toArray from by kernel_rfl] at hMK;obtain ⟨W1,hW1⟩:=ab (w.alloc (.cells [Value.int .i64 0,.slice none 0 0].toArray 85));have hb1:Below w.heap.size w W1:=by rw [hW1];exact l7 _ _
 have hc1:HeldE cellE (fun _=>True) W1 (.slice (some ⟨w.heap.size,0,none⟩) 1 1) [(0,[])]:=by
  rw [hW1];exact cE (E:=cellE) (Y:=fun _=>True) [.int .i64 0,.slice none 0 0] (0,[]) (cell_rep.2 ⟨_,rfl,HeldE.nil _ _ _⟩) (fun _ _ _=>trivial) trivial
 obtain ⟨W2,hW2⟩:=ab (W1.alloc (.cells [Value.slice (some ⟨w.heap.size,0,none⟩) 1 1,.bool false].toArray 69));have hb2:Below w.heap.size w W2:=by rw [hW2];exact hb1.alloc hb1.size _
 have hc2:HeldE lineE (fun _=>True) W2 (.slice (some ⟨W1.heap.size,0,none⟩) 1 1) [([(0,[])],false)]:=by
  rw [hW2];exact cE (E:=lineE) (Y:=fun _=>True) [.slice (some ⟨w.heap.size,0,none⟩) 1 1,.bool false] ([(0,[])],false) (line_rep.2 ⟨_,rfl,hc1⟩) (fun _ _ _=>trivial) trivial
 have hz1:W1.heap.size=w.heap.size+1:=by rw [hW1];simp
 rw [hz1] at hc2;have sQ:ViewAt W2 j6 (.slice (some ⟨w.heap.size+1,0,none⟩) 1 1):=⟨hc2,by decide,by decide,by decide,by decide⟩;have HA:=aa (show Calls Tryd.prog 18 #[.agg #[.int .i64 1,.int .i64 1,.slice (some ⟨w.heap.size+1,0,none⟩) 1 1,.int .i64 0,.int .i64 0,.bool false,.bool true]] W2 (fun e w'=>∃ u,e=.returned (.tuple #[u,.nilIface])/\BOwn w' W2.heap.size u (aS j6)/\Below W2.heap.size W2 w') from dA sa j6 _ W2 (hs.below hb2) sQ (by decide +kernel));have mV:=aa hb2;have HW:=aa (show (w.alloc (.cells #[Value.int .i64 0,.slice none 0 0] 85)).alloc (.cells #[Value.slice (some ⟨w.heap.size,0,none⟩) 1 1,.bool false] 69)=W2 from by rw [hW2,hW1]);clear hW1 hb1 hc1 hW2 hb2 hc2 sQ hz1 hs;have hWv:=HW.out;clear hi hz0 pp hz2
 go_enter Tryd.func16,Tryd.ntmps16
 go_wp2_with fail
 refine HA.out.mono ?_;rintro e w3 ⟨u,rfl,ho,b3⟩;have qQ:=(OwnE.held (Z:=fun _=>True) (OwnE.zone ho (Y:=fun _=>True) (fun _ _ _=>trivial)) (fun _ _ _=>trivial)).ints;rw [j7] at qQ;have hcv:=cC (P:=Tryd.prog) qQ 46 5 9 Tryd.underlying46 Tryd.underlying5 Tryd.underlying9;rw [show strOfNums [76,1,1,0,0,2,0,2]=⟨#[76,1,1,0,0,2,0,2]⟩ from by decide] at hcv;have HF:=aa (mV.out.trans (b3.mono mV.out.size));clear hWv HA ho qQ b3;go_wp2;go_ret;exact ⟨ae,HF.out⟩
def cL(Ls:List Ln):Nat->Nat
 | 0=>0
 | k+1=>cL Ls k+(Ls.getD k zl).1.length
theorem jo(Ls:List Ln){a b:Nat}(h:a<=b):cL Ls a<=cL Ls b:=by
 induction h with
 | refl=>exact Nat.le_refl _
 | step h ih=>exact Nat.le_trans ih (Nat.le_add_right _ _)
def dX(v:Vw):Bool:=decide (2500<=cL v.L v.L.length) || decide (1100<v.L.length)
theorem gC(v:Vw)(lv:Value)(w:World)(hv:HeldE lineE (fun _=>True) w lv v.L)(hr:∀ k,k<v.L.length->(v.L.getD k zl).1.length<=4398046511104):Calls Tryd.prog 17 #[aZ v lv] w (Gives w (.bool (dX v))):=by
 obtain ⟨vw,vh,Ls,r,c,pd,au⟩:=v;simp only at hv hr;unfold aZ dX;simp only;have vD:=hv.max;obtain ⟨lo,lc,rfl⟩:=hv.len;have hlc:=(aP hv).2.1;have rx:=aa (aP hv).2.2;have HR:=aa hr;obtain ⟨n,hn⟩:=ab (Ls.length);have nS:=aa hn;rw [<-hn] at hlc vD rx HR ⊢;obtain ⟨W1,hW1⟩:=ab (w.alloc (.cells [Value.int .i64 vw,.int .i64 vh,.slice lo n lc,.int .i64 r,.int .i64 c,.bool pd,.bool au].toArray 44));obtain ⟨gv,oa⟩:=ab (w.heap.size);have hb1:Below w.heap.size w W1:=by rw [hW1];exact l7 _ _
 have m7:Has W1 gv [.int .i64 vw,.int .i64 vh,.slice lo n lc,.int .i64 r,.int .i64 c,.bool pd,.bool au] 44:=by rw [hW1,oa];exact Has.new w _ _
 have q2:=m7.cell 2 _ rfl;have HB:=aa hb1;have oI:w.alloc (.cells #[Value.int .i64 vw,.int .i64 vh,.slice lo n lc,.int .i64 r,.int .i64 c,.bool pd,.bool au] 44)=W1:=hW1.symm;have pI:=aa oa;clear hW1 hb1 m7 oa hn hv hr
 go_enter Tryd.func17,Tryd.ntmps17
 go_upto_region 1 with (fail)
 rw [<-pI.out];clear oI;go_wp2
 go_loopw [3,4] (fun nv iv wr=>∃ (k:Nat),k<=n/\(∀ m,m<k->cL Ls m<2500)/\nv=.int .i64 (cL Ls k:Nat)/\iv=.int .i64 k/\wr=W1) (fun _ iv _=>n - (intOf iv).toNat)
 case atStart=>exact ⟨0,Nat.zero_le _,fun m hm=>absurd hm (Nat.not_lt_zero _),rfl,rfl,rfl⟩
 case round =>
  obtain ⟨k,hk,hlt0,rfl,rfl,rfl⟩:=hrel;have vC:=aa hlt0;clear hlt0
  by_cases hs:cL Ls k<2500
  ·have ds:decide ((cL Ls k:Int)<2500)=true:=decide_eq_true (by omega);have dg:decide ((2500:Int)<=(cL Ls k:Int))=false:=ah (by omega)
   by_cases hlt:k<n
   ·obtain ⟨b,off,cv,rfl,hb,_,hc0,hc1,hcv⟩:=rx.out k hlt;have c0:=(HB.out.cell (p:=⟨b,off+k * 2,none⟩) hb).trans hc0;obtain ⟨co,cc,rfl⟩:=hcv.len;have qV:=HR.out k hlt;have HS:=aa (show cL Ls (k+1)=cL Ls k+(Ls.getD k zl).1.length from rfl);obtain ⟨nk,p9⟩:=ab ((Ls.getD k zl).1.length);rw [<-p9] at c0 qV HS;have pn:IntKind.i64.wrap ((k:Int)+1)=(k:Int)+1:=by rw [IntKind.wrap_i64];omega
    obtain ⟨s,hsk⟩:=ab (cL Ls k);have HSK:=aa hsk;rw [<-hsk] at hs ds dg HS ⊢;have hws:IntKind.i64.wrap ((s:Int)+(nk:Int))=((s+nk:Nat):Int):=by rw [IntKind.wrap_i64];omega
    have ry:(k:Int)<(n:Int):=by omega
    have tN:k<lc:=by omega
    clear hc0 hc1 hb p9 hcv hsk;go_wp2
    go_roundw
    case rel=>exact ⟨k+1,by omega,fun m hm=>by
     rcases Nat.lt_or_ge m k with h | h
     ·exact vC.out m h
     ·obtain rfl:m=k:=by omega
      rw [<-HSK.out];exact hs,by first | (rw [HS.out];done) | (rw [HS.out];push_cast;rfl) | simp [HS.out] | (go_num;rw [HS.out]),by go_num,trivial⟩
    case measure=>simp [intOf] <;> omega
   ·obtain rfl:k=n:=by omega
    have hg:decide (2500<=cL Ls k)=false:=ah (by omega);have HG:=aa hg;have e1100:decide ((1100:Int)<(k:Int))=decide (1100<k):=by rw [decide_eq_decide];omega
    have HE:=aa e1100;clear hg e1100;go_wp2;go_ret;exact ⟨by rw [HG.out,Bool.false_or,<-HE.out];rfl,HB.out⟩
  ·have ds:decide ((cL Ls k:Int)<2500)=false:=ah (by omega);have dg:decide ((2500:Int)<=(cL Ls k:Int))=true:=decide_eq_true (by omega);have hmo:=jo Ls hk;have hg:decide (2500<=cL Ls n)=true:=decide_eq_true (by omega);have HG:=aa hg;clear hg hmo
   by_cases hlt:k<n
   ·have ry:(k:Int)<(n:Int):=by omega
    go_wp2;go_ret;exact ⟨by rw [HG.out,Bool.true_or];rfl,HB.out⟩
   ·obtain rfl:k=n:=by omega
    go_wp2;go_ret;exact ⟨by rw [HG.out,Bool.true_or];rfl,HB.out⟩
end Go.Proofs.YtechjomepdahiaaDoor
