import Derived.Test.YtechjomepdahiaaDoorZ0
import Derived.Test.YtechjomepdahiaaDoorWirK
import Derived.Test.YtechjomepdahiaaDoorMg1
import Derived.Laws.MakeOwn
set_option maxRecDepth 100000
set_option linter.unusedVariables false
set_option linter.unusedSimpArgs false
set_option maxHeartbeats 3000000
namespace Go.Proofs.YtechjomepdahiaaDoor
open Go.RowKit Go.ChangeShapes Go.WideShapes
def jH:Vw:=⟨1,1,[([(0,[])],false)],0,0,false,true⟩
theorem jI:aL jH=[76,1,1,0,0,2,0,2]:=by
 simp [aL,jH,cg,bN,lnB,bZ,bD,ar,blk,clB]
theorem f8(sa:Nat->Addr)(w:World)(hs:Five w sa):Calls Tryd.prog 16 #[] w (Yes w):=by
 obtain ⟨i0,hi,hz0,oD,hz2⟩:=info_parts dT;have hMK:=run_makeSlice (P:=Tryd.prog) w 67 85 i0 _ Tryd.underlying67 hi hz0 .i64 .i64 1 1 (by decide) (by decide) (by rw [oD];decide) (by rw [hz2];decide) (by decide);rw [show (1:Int).toNat=1 from rfl,oD,show madeCells (Value.agg #[.int .i64 0,.slice none 0 0]).cells (1 * cellE.size)=[Value.int .i64 0,.slice none 0 0].toArray from by kernel_rfl] at hMK;obtain ⟨W1,hW1⟩:=ab (w.alloc (.cells [Value.int .i64 0,.slice none 0 0].toArray 85));have hb1:Below w.heap.size w W1:=by rw [hW1];exact lD _ _
 have hc1:HeldE cellE (fun _=>True) W1 (.slice (some ⟨w.heap.size,0,none⟩) 1 1) [(0,[])]:=by
  rw [hW1];exact cA (E:=cellE) (Y:=fun _=>True) [.int .i64 0,.slice none 0 0] (0,[]) (cell_rep.2 ⟨_,rfl,HeldE.nil _ _ _⟩) (fun _ _ _=>trivial) trivial
 obtain ⟨W2,hW2⟩:=ab (W1.alloc (.cells [Value.slice (some ⟨w.heap.size,0,none⟩) 1 1,.bool false].toArray 69));have hb2:Below w.heap.size w W2:=by rw [hW2];exact hb1.alloc hb1.size _
 have hc2:HeldE lineE (fun _=>True) W2 (.slice (some ⟨W1.heap.size,0,none⟩) 1 1) [([(0,[])],false)]:=by
  rw [hW2];exact cA (E:=lineE) (Y:=fun _=>True) [.slice (some ⟨w.heap.size,0,none⟩) 1 1,.bool false] ([(0,[])],false) (line_rep.2 ⟨_,rfl,hc1⟩) (fun _ _ _=>trivial) trivial
 have hz1:W1.heap.size=w.heap.size+1:=by rw [hW1];simp
 rw [hz1] at hc2;have rq:ViewAt W2 jH (.slice (some ⟨w.heap.size+1,0,none⟩) 1 1):=⟨hc2,by decide,by decide,by decide,by decide⟩;have HA:=aa (show Calls Tryd.prog 18 #[.agg #[.int .i64 1,.int .i64 1,.slice (some ⟨w.heap.size+1,0,none⟩) 1 1,.int .i64 0,.int .i64 0,.bool false,.bool true]] W2 (fun e w'=>∃ u,e=.returned (.tuple #[u,.nilIface])/\BOwn w' W2.heap.size u (aL jH)/\Below W2.heap.size W2 w') from ey sa jH _ W2 (hs.below hb2) rq (by decide +kernel));have l2:=aa hb2;have HW:=aa (show (w.alloc (.cells #[Value.int .i64 0,.slice none 0 0] 85)).alloc (.cells #[Value.slice (some ⟨w.heap.size,0,none⟩) 1 1,.bool false] 69)=W2 from by rw [hW2,hW1]);clear hW1 hb1 hc1 hW2 hb2 hc2 rq hz1 hs;have hWv:=HW.out;clear hi hz0 oD hz2
 go_enter Tryd.func16,Tryd.ntmps16
 go_wp2_with fail
 refine HA.out.mono ?_;rintro e w3 ⟨u,rfl,ho,b3⟩;have tj:=(OwnE.held (Z:=fun _=>True) (OwnE.zone ho (Y:=fun _=>True) (fun _ _ _=>trivial)) (fun _ _ _=>trivial)).ints;rw [jI] at tj;have hcv:=dX (P:=Tryd.prog) tj 46 5 9 Tryd.underlying46 Tryd.underlying5 Tryd.underlying9;rw [show strOfNums [76,1,1,0,0,2,0,2]=⟨#[76,1,1,0,0,2,0,2]⟩ from by decide] at hcv;have HF:=aa (l2.out.trans (b3.mono l2.out.size));clear hWv HA ho tj b3;go_wp2;go_ret;exact ⟨ae,HF.out⟩
def cI(Ls:List Ln):Nat->Nat
 | 0=>0
 | k+1=>cI Ls k+(Ls.getD k zl).1.length
theorem iP(Ls:List Ln){a b:Nat}(h:a<=b):cI Ls a<=cI Ls b:=by
 induction h with
 | refl=>exact Nat.le_refl _
 | step h ih=>exact Nat.le_trans ih (Nat.le_add_right _ _)
def dO(v:Vw):Bool:=decide (2500<=cI v.L v.L.length) || decide (1100<v.L.length)
theorem f9(v:Vw)(lv:Value)(w:World)(hv:HeldE lineE (fun _=>True) w lv v.L)(hr:∀ k,k<v.L.length->(v.L.getD k zl).1.length<=4398046511104):Calls Tryd.prog 17 #[bo v lv] w (Gives w (.bool (dO v))):=by
 obtain ⟨vw,vh,Ls,r,c,pd,au⟩:=v;simp only at hv hr;unfold bo dO;simp only;have uI:=hv.max;obtain ⟨lo,lc,rfl⟩:=hv.len;have hlc:=(aU hv).2.1;have qO:=aa (aU hv).2.2;have HR:=aa hr;obtain ⟨n,hn⟩:=ab (Ls.length);have mP:=aa hn;rw [<-hn] at hlc uI qO HR ⊢;obtain ⟨W1,hW1⟩:=ab (w.alloc (.cells [Value.int .i64 vw,.int .i64 vh,.slice lo n lc,.int .i64 r,.int .i64 c,.bool pd,.bool au].toArray 44));obtain ⟨gv,m8⟩:=ab (w.heap.size);have hb1:Below w.heap.size w W1:=by rw [hW1];exact lD _ _
 have mA:Has W1 gv [.int .i64 vw,.int .i64 vh,.slice lo n lc,.int .i64 r,.int .i64 c,.bool pd,.bool au] 44:=by rw [hW1,m8];exact Has.new w _ _
 have q2:=mA.cell 2 _ rfl;have HB:=aa hb1;have nQ:w.alloc (.cells #[Value.int .i64 vw,.int .i64 vh,.slice lo n lc,.int .i64 r,.int .i64 c,.bool pd,.bool au] 44)=W1:=hW1.symm;have oq:=aa m8;clear hW1 hb1 mA m8 hn hv hr
 go_enter Tryd.func17,Tryd.ntmps17
 go_upto_region 1 with (fail)
 rw [<-oq.out];clear nQ;go_wp2
 go_loopw [3,4] (fun nv iv wr=>∃ (k:Nat),k<=n/\(∀ m,m<k->cI Ls m<2500)/\nv=.int .i64 (cI Ls k:Nat)/\iv=.int .i64 k/\wr=W1) (fun _ iv _=>n - (intOf iv).toNat)
 case atStart=>exact ⟨0,Nat.zero_le _,fun m hm=>absurd hm (Nat.not_lt_zero _),rfl,rfl,rfl⟩
 case round =>
  obtain ⟨k,hk,hlt0,rfl,rfl,rfl⟩:=hrel;have uj:=aa hlt0;clear hlt0
  by_cases hs:cI Ls k<2500
  ·have ds:decide ((cI Ls k:Int)<2500)=true:=decide_eq_true (by omega);have dg:decide ((2500:Int)<=(cI Ls k:Int))=false:=ah (by omega)
   by_cases hlt:k<n
   ·obtain ⟨b,off,cv,rfl,hb,_,hc0,hc1,hcv⟩:=qO.out k hlt;have c0:=(HB.out.cell (p:=⟨b,off+k * 2,none⟩) hb).trans hc0;obtain ⟨co,cc,rfl⟩:=hcv.len;have p7:=HR.out k hlt;have HS:=aa (show cI Ls (k+1)=cI Ls k+(Ls.getD k zl).1.length from rfl);obtain ⟨nk,pj⟩:=ab ((Ls.getD k zl).1.length);rw [<-pj] at c0 p7 HS;have pL:IntKind.i64.wrap ((k:Int)+1)=(k:Int)+1:=by rw [IntKind.wrap_i64];omega
    obtain ⟨s,hsk⟩:=ab (cI Ls k);have HSK:=aa hsk;rw [<-hsk] at hs ds dg HS ⊢;have hws:IntKind.i64.wrap ((s:Int)+(nk:Int))=((s+nk:Nat):Int):=by rw [IntKind.wrap_i64];omega
    have qL:(k:Int)<(n:Int):=by omega
    have sH:k<lc:=by omega
    clear hc0 hc1 hb pj hcv hsk;go_wp2
    go_roundw
    case rel=>exact ⟨k+1,by omega,fun m hm=>by
     rcases Nat.lt_or_ge m k with h | h
     ·exact uj.out m h
     ·obtain rfl:m=k:=by omega
      rw [<-HSK.out];exact hs,by first | (rw [HS.out];done) | (rw [HS.out];push_cast;rfl) | simp [HS.out] | (go_num;rw [HS.out]),by go_num,trivial⟩
    case measure=>simp [intOf] <;> omega
   ·obtain rfl:k=n:=by omega
    have hg:decide (2500<=cI Ls k)=false:=ah (by omega);have HG:=aa hg;have e1100:decide ((1100:Int)<(k:Int))=decide (1100<k):=by rw [decide_eq_decide];omega
    have HE:=aa e1100;clear hg e1100;go_wp2;go_ret;exact ⟨by rw [HG.out,Bool.false_or,<-HE.out];rfl,HB.out⟩
  ·have ds:decide ((cI Ls k:Int)<2500)=false:=ah (by omega);have dg:decide ((2500:Int)<=(cI Ls k:Int))=true:=decide_eq_true (by omega);have hmo:=iP Ls hk;have hg:decide (2500<=cI Ls n)=true:=decide_eq_true (by omega);have HG:=aa hg;clear hg hmo
   by_cases hlt:k<n
   ·have qL:(k:Int)<(n:Int):=by omega
    go_wp2;go_ret;exact ⟨by rw [HG.out,Bool.true_or];rfl,HB.out⟩
   ·obtain rfl:k=n:=by omega
    go_wp2;go_ret;exact ⟨by rw [HG.out,Bool.true_or];rfl,HB.out⟩
end Go.Proofs.YtechjomepdahiaaDoor
