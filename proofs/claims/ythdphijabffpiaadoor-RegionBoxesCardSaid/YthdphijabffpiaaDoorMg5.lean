import Derived.Test.YthdphijabffpiaaDoorZ0
import Derived.Test.YthdphijabffpiaaDoorRgnA
import Derived.Test.YthdphijabffpiaaDoorAudF
import Derived.Lib.MinMax
set_option maxRecDepth 100000
set_option linter.unusedVariables false
set_option linter.unusedSimpArgs false
set_option maxHeartbeats 800000
namespace Go.Proofs.YthdphijabffpiaaDoor
open Go.RowKit Go.ChangeShapes Go.WideShapes
def ap(n x:Int):Int:=min (max x 0) (n - 1)
theorem bU(v:Vw)(lv:Value)(a b:Int)(w:World)(h0:1<=v.w)(h1:v.w<=1024)(h2:1<=v.h)(h3:v.h<=1024):Calls Tryd.prog 69 #[aK v lv,.agg #[.int .i64 a,.int .i64 b]] w (Gives w (.agg #[.int .i64 (ap v.h a),.int .i64 (ap v.w b)])):=by
 obtain ⟨vw,vh,Ls,r,c,pd,au⟩:=v;simp only at h0 h1 h2 h3;unfold aK ap;simp only;have w1:IntKind.i64.wrap (vh - 1)=vh - 1:=by rw [IntKind.wrap_i64];omega
 have w2:IntKind.i64.wrap (vw - 1)=vw - 1:=by rw [IntKind.wrap_i64];omega
 obtain ⟨Wa,gM⟩:=ab (w.alloc (.cells [Value.int .i64 vw,.int .i64 vh,lv,.int .i64 r,.int .i64 c,.bool pd,.bool au].toArray 26));obtain ⟨Wb,gN⟩:=ab (Wa.alloc (.cells [Value.int .i64 a,.int .i64 b].toArray 64));obtain ⟨Wc,ix⟩:=ab (Wb.alloc (.cells [Value.int .i64 0,.int .i64 0].toArray 64));have ba:Below w.heap.size w Wa:=by rw [gM];exact af _ _
 have bb:Below Wa.heap.size Wa Wb:=by rw [gN];exact af _ _
 have bc:Below Wb.heap.size Wb Wc:=by rw [ix];exact af _ _
 have sa:Wa.heap.size=w.heap.size+1:=by rw [gM];exact Array.size_push _
 have sb:Wb.heap.size=w.heap.size+2:=by rw [gN,<-Nat.add_assoc w.heap.size 1 1,<-sa];exact Array.size_push _
 have ga:Has Wa w.heap.size [.int .i64 vw,.int .i64 vh,lv,.int .i64 r,.int .i64 c,.bool pd,.bool au] 26:=by rw [gM];exact Has.new w _ _
 have gb:Has Wb Wa.heap.size [.int .i64 a,.int .i64 b] 64:=by rw [gN];exact Has.new Wa _ _
 have gc:Has Wc Wb.heap.size [.int .i64 0,.int .i64 0] 64:=by rw [ix];exact Has.new Wb _ _
 have ga:=Has.below (Has.below ga bb ga.lt) bc (Has.below ga bb ga.lt).lt;have gb:=Has.below gb bc gb.lt;have HB:=aa (ba.trans ((bb.mono ba.size).trans (bc.mono (Nat.le_trans ba.size bb.size))));rw [sa] at gb;rw [sb] at gc;have HC:=aa gc;have q0:=ga.cell 0 _ rfl;have q1:=ga.cell 1 _ rfl;have p0:=gb.cell 0 _ rfl;have p1:=gb.cell 1 _ rfl;have iP:=aa (show ((w.alloc (.cells #[Value.int .i64 vw,.int .i64 vh,lv,.int .i64 r,.int .i64 c,.bool pd,.bool au] 26)).alloc (.cells #[Value.int .i64 a,.int .i64 b] 64)).alloc (.cells #[Value.int .i64 0,.int .i64 0] 64)=Wc from by rw [ix,gN,gM]);have HSC:=aa (show w.heap.size+2<Wc.heap.size from gc.lt);clear gM gN ix ga gb gc ba bb bc sa sb
 go_enter Tryd.func69,Tryd.ntmps69
 go_upto_region 1 with (fail)
 rw [iP.out];obtain ⟨g,hg⟩:=ab (w.heap.size+2);have HG:=aa hg;rw [<-hg] at HC ⊢;clear iP hg
 go_wp2_with (refine aG rfl 64 (.tmp 4) (.tmp 19) rfl g rfl 64 [.int .i64 0,.int .i64 0] [.int .i64 (min (max a 0) (vh - 1)),.int .i64 (min (max b 0) (vw - 1))] 2 rfl HC.out (by kernel_rfl) rfl rfl (by intro v hv;simp at hv;rcases hv with rfl | rfl <;> rfl) ?_;intro w5 h5 b5)
 have m9:=HB.out.trans (b5.below HB.out.size (by have:=HG.out;omega));have HF:=aa (And.intro h5 m9);clear h5 b5 m9;go_wp2;exact bodyPost_ret (v:=.agg [Value.int .i64 (min (max a 0) (vh - 1)),.int .i64 (min (max b 0) (vw - 1))].toArray) (ce Tryd.results69 _ _ g 64 _ _ 2 rfl HF.out.1 Tryd.underlying64 rfl (by kernel_rfl) rfl) rfl ⟨rfl,HF.out.2⟩
theorem bh{Z:an}{w:World}{ao:Option Addr}{n cap:Nat}{L:List Cl}(h:HeldE cellE Z w (.slice ao n cap) L)(m:Nat)(hm:m<=L.length):HeldE cellE Z w (.slice ao m cap) (L.take m):=by
 obtain ⟨a',cap',e,jN,hcm,om,_⟩:=id h
 cases e
 have:=h.part 0 m (Nat.zero_le _) hm ao cap (fun h=>⟨h,(om h).2⟩) (fun b off e _=>by simp [e]) (fun a e=>by rw [e];simp) (by omega) hcm
 simpa using this
theorem bV(L:List Cl):aU L<=L.length:=bB L L.length
def bi(L:List Cl)(g:Bool):List Int:=if g=true then (if (L.getD (L.length - 1) zc).1=0 then aS (L.take (L.length - 1)) else aS L) else aS (L.take (aU L))++[10]
theorem eY(Z:an)(v:Value)(L:List Cl)(g:Bool)(w:World)(hv:HeldE cellE Z w v L)(hp:g=true->0<L.length)(ht:(aS L).length<=900000000000):Calls Tryd.prog 72 #[v,.bool g] w (dU (aA .i32) (fun _=>True) 21 w (bi L g)):=by
 have hl:=hv.max;obtain ⟨ao,cap,rfl,jN,_⟩:=id hv;have HC:=aa (aP hv).2.2;have HT:=aa (bh hv);have HV:=aa hv;have HN:=aa (fun m=>Nat.le_trans (dC L m) (show (aS L).length<=1000000000000 by omega));have HL:=aa (dC L (aU L));have HM:=aa (bV L);unfold bi;clear hv
 cases g with
 |false =>
  rw [if_neg (by decide)];obtain ⟨P,hP⟩:=ab (aS (L.take (aU L)));have HK:=aa (be Z _ _ w (HT.out (aU L) HM.out) (HN.out _));have hl2:=HL.out;rw [<-hP] at hl2 HK ⊢;clear hP
  go_enter Tryd.func72,Tryd.ntmps72
  go_wp2_with fail
  refine (cM Z ao L.length cap L w HV.out).mono ?_;rintro e w' ⟨rfl,rfl⟩
  go_wp2_with fail
  refine (HK.out).mono ?_;rintro e w1 ⟨v1,rfl,ho,hb⟩;have ij:=ho.lt;have HX:=aa (show HeldE (aA .i32) (fun b=>True/\v1.ownBlock≠some b) (w1.alloc (.cells [Value.int .i32 10].toArray 21)) (.slice (some ⟨w1.heap.size,0,none⟩) 1 1) [10] from a9 (Y:=fun _=>False) [.int .i32 10] 10 rfl (fun _ _ h=>h.elim) ⟨trivial,fun e=>by have:=(ij _ e).2;omega⟩);have HO:=aa (ho.below (af w1 (.cells [Value.int .i32 10].toArray 21)));have gU:=aa (hb.alloc hb.size (.cells [Value.int .i32 10].toArray 21));clear ho hb ij
  go_wp2_with (at_builtin;refine ai (E:=aA .i32) (Z:=fun _=>True) rfl (.tmp 10) (.tmp 11) 57 rfl (.int .i32 0) 4 Tryd.underlying57 aF rfl (Nat.lt_succ_self 0) rfl rfl HO.out HX.out (by simp;omega) (by simp;omega) gU.out.size ?_)
  intro v2 w2 hO hb2 _ _;have HF:=aa (And.intro hO (gU.out.trans hb2));clear hO hb2;go_wp2;go_ret;exact ⟨_,rfl,HF.out.1,HF.out.2⟩
 |true =>
  rw [if_pos rfl];have h0:=hp rfl;obtain ⟨b,off,tv,rfl,hb,_,c0,c1,_⟩:=HC.out (L.length - 1) (by omega);have hw:IntKind.i64.wrap ((L.length:Int) - 1)=((L.length - 1:Nat):Int):=by rw [IntKind.wrap_i64];omega
  have lr:=aa (be Z _ _ w (HT.out (L.length - 1) (Nat.sub_le _ _)) (HN.out _));have na:=aa (be Z _ _ w HV.out (by omega));obtain ⟨m,hm⟩:=ab (L.length - 1);have hmc:m<=cap:=by omega
  have hml:m<L.length:=by omega
  rw [<-hm] at c0 hw lr ⊢;clear hm c1 hb;generalize (L.getD m zc).1=K at c0 ⊢
  by_cases jh:K=0
  ·subst jh;rw [if_pos rfl]
   go_enter Tryd.func72,Tryd.ntmps72
   go_wp2_with fail
   refine (lr.out).mono ?_;rintro e w1 ⟨v1,rfl,ho,hb⟩;have HF:=aa (And.intro ho hb);clear ho hb;go_wp2;go_ret;exact ⟨_,rfl,HF.out.1,HF.out.2⟩
  ·have kN:(K == 0)=false:=by rw [beq_eq_false_iff_ne];exact jh
   rw [if_neg jh]
   go_enter Tryd.func72,Tryd.ntmps72
   go_wp2_with fail
   refine (na.out).mono ?_;rintro e w1 ⟨v1,rfl,ho,hb⟩;have HF:=aa (And.intro ho hb);clear ho hb;go_wp2;go_ret;exact ⟨_,rfl,HF.out.1,HF.out.2⟩
def f6(x:Cl):Bool:=(x.1 == 0) || (decide (x.2.length=1) && (x.2.getD 0 0 == 32))
theorem dA(Z:an)(K:Int)(tv:Value)(T:List Int)(w:World)(h:HeldE (aA .i32) Z w tv T):Calls Tryd.prog 95 #[.agg #[.int .i64 K,tv]] w (Gives w (.bool (f6 (K,T)))):=by
 obtain ⟨ao,cap,rfl,hc⟩:=h.ints.view;have jN:=h.len;obtain ⟨Wa,gM⟩:=ab (w.alloc (.cells [Value.int .i64 K,.slice ao T.length cap].toArray 74));have ba:Below w.heap.size w Wa:=by rw [gM];exact af _ _
 have ga:Has Wa w.heap.size [.int .i64 K,.slice ao T.length cap] 74:=by rw [gM];exact Has.new w _ _
 have nP:=aa (show w.alloc (.cells #[Value.int .i64 K,.slice ao T.length cap] 74)=Wa from by rw [gM]);have HB:=aa ba;have p0:=ga.cell 0 _ rfl;have p1:=ga.cell 1 _ rfl;have HC:=aa (fun i hi=>by
  obtain ⟨b,off,e,hb,hx⟩:=hc i hi;exact (⟨b,off,e,(ba.cell (p:=⟨b,off+i,none⟩) hb).trans hx⟩ : ∃ b off,ao=some ⟨b,off,none⟩/\Wa.cell? ⟨b,off+i,none⟩=some (.int .i32 (T.getD i 0))))
 clear gM ba ga hc h jN;unfold f6;simp only
 by_cases h0:K=0
 ·subst h0
  go_enter Tryd.func95,Tryd.ntmps95
  go_upto_region 1 with (fail)
  rw [nP.out];go_wp2;go_ret;exact ⟨ae,HB.out⟩
 have k0:(K == 0)=false:=by rw [beq_eq_false_iff_ne];exact h0
 by_cases h1:T.length=1
 ·obtain ⟨b,off,rfl,hx⟩:=HC.out 0 (by omega);simp only [Nat.add_zero] at hx;rw [h1] at p1;rw [k0,h1];have jw:=nP.out;rw [h1] at jw;have mA:=aa jw;clear HC nP jw h0 h1;generalize T.getD 0 0=x at hx ⊢
  by_cases hx0:x=32
  ·subst hx0
   go_enter Tryd.func95,Tryd.ntmps95
   go_upto_region 1 with (fail)
   rw [mA.out];go_wp2;go_ret;exact ⟨ae,HB.out⟩
  ·have x0:(x == 32)=false:=by rw [beq_eq_false_iff_ne];exact hx0
   rw [x0]
   go_enter Tryd.func95,Tryd.ntmps95
   go_upto_region 1 with (fail)
   rw [mA.out];go_wp2;go_ret;exact ⟨ae,HB.out⟩
 ·have hl:decide (T.length=1)=false:=decide_eq_false h1;have hl2:((T.length:Int) == 1)=false:=by rw [beq_eq_false_iff_ne];omega
  rw [k0,hl];clear h0 h1 hl HC
  go_enter Tryd.func95,Tryd.ntmps95
  go_upto_region 1 with (fail)
  rw [nP.out];go_wp2;go_ret;exact ⟨ae,HB.out⟩
end Go.Proofs.YthdphijabffpiaaDoor
