import Derived.Test.YtoeggiplcaegoaaGreatDoorZ0
import Derived.Test.YtoeggiplcaegoaaGreatDoorMg1
set_option maxRecDepth 100000
set_option linter.unusedVariables false
set_option linter.unusedSimpArgs false
set_option maxHeartbeats 1000000
namespace Go.Proofs.YtoeggiplcaegoaaGreatDoor
open Go.RowKit Go.ChangeShapes Go.WideShapes
theorem oY{s:Nat}(h:s<=3):(128:Int) * 64 ^ s<=33554432:=by
 match s,h with
 | 0,_=>decide
 | 1,_=>decide
 | 2,_=>decide
 | 3,_=>decide
theorem gI(b:List Int)(n:Nat)(p q r:Bool)(hv:0<=vF b n/\vF b n<szN n)(hk:okF b (n - 1))(h1:decide (mxI (loF b (vF b n) (n - 1)) (frN n)<=mnI (hiF b (vF b n) (n - 1)) (toN n))=p)(h2:decide (mxI (loF b (vF b n) (n - 1)) (frN n)<55296)=q)(h3:decide (57343<mnI (hiF b (vF b n) (n - 1)) (toN n))=r):decide (bf b n)=(p && (q || r)):=by
 rw [<-h1,<-h2,<-h3];unfold bf;rw [Bool.eq_iff_iff]
 simp [hv.1,hv.2,hk]
theorem mq{b:List Int}{s m:Nat}(h:s<=m)(hm:okF b m):okF b s:=by
 induction m with
 |zero =>
  obtain rfl:s=0:=by omega
  exact hm
 |succ m ih =>
  by_cases e:s=m+1
  ·subst e;exact hm
  ·exact ih (by omega) hm.1
theorem jH(a b:Int):(a<b/\mxI a b=b)\/(b<=a/\mxI a b=a):=by unfold mxI;omega
theorem jI(a b:Int):(a<=b/\mnI a b=a)\/(b<a/\mnI a b=b):=by unfold mnI;omega
theorem vn(v:Value)(b:List Int)(w:World)(hb:Held .u8 w v b)(hl:1<=b.length)(hr:∀ i,i<b.length->0<=b.getD i 0/\b.getD i 0<=255) :
  Calls Tryz.prog 207 #[v,.int .i64 1] w (Gives w (.bool (decide (bf b 1)))):=by
 obtain ⟨ao,ca,rfl,hc⟩:=hb.view;have HC:=ab hc;have HR:=ab hr;obtain ⟨bb,off,rfl,De,hc0⟩:=HC.out 0 (by omega);simp only [Nat.add_zero] at hc0;have hv0:vF b 1=b.getD 0 0 - 0:=rfl;obtain ⟨x0,x1⟩:=HR.out 0 (by omega);clear hc hb hr;have hcs:(decide (vF b 1<0)=true/\decide (bf b 1)=false)\/(decide (vF b 1<0)=false/\decide (128<=vF b 1)=true/\decide (bf b 1)=false)\/(0<=vF b 1/\vF b 1<128/\decide (vF b 1<0)=false/\decide (128<=vF b 1)=false):=by
  by_cases h1:vF b 1<0
  ·exact .inl ⟨decide_eq_true h1,decide_eq_false (fun h=>by have:=h.1;omega)⟩
  ·by_cases h2:128<=vF b 1
   ·exact .inr (.inl ⟨decide_eq_false h1,decide_eq_true h2,decide_eq_false (fun h=>by have h3:=h.2.1;have h4:szN 1=128:=rfl;omega)⟩)
   ·exact .inr (.inr ⟨by omega,by omega,decide_eq_false h1,decide_eq_false h2⟩)
 obtain ⟨y,hy⟩:=ae (vF b 1);rw [<-hy] at hcs hv0;have HY:=ab hy;have Er:b.getD 0 0=y+0:=by omega
 rw [Er] at hc0 x0 x1;clear hy hv0 Er;have My:y+0 - 0=y:=by omega
 have hbl:∀ o1 o2 nq,Below w.heap.size w (((w.alloc o1).alloc o2).drewN nq):=fun o1 o2 nq=>((AU _ o1).alloc (by simp) o2).drewN nq
 have Ca:=ab hbl;clear hbl
 rcases hcs with ⟨d1,hs⟩ | ⟨d1,d2,hs⟩ | ⟨y0,y1,d1,d2⟩
 ·have HS:=ab hs;clear hs
  go_enter Tryz.func207,Tryz.ntmps207
  go_wp2
  go_quiet (fail)
  go_wp2;go_ret;exact ⟨al (by rw [HS.out];rfl),Ca.out _ _ _⟩
 ·have HS:=ab hs;clear hs
  go_enter Tryz.func207,Tryz.ntmps207
  go_wp2
  go_quiet (fail)
  go_wp2;go_ret;exact ⟨al (by rw [HS.out];rfl),Ca.out _ _ _⟩
 ·go_enter Tryz.func207,Tryz.ntmps207
  go_wp2
  go_quiet (fail)
  have hw0:=Ca.out (.cells #[.int .i64 0,.int .i64 0,.int .i64 192,.int .i64 224,.int .i64 240] 3) (.cells #[.int .i64 0,.int .i64 128,.int .i64 32,.int .i64 16,.int .i64 8] 3) nq;go_wp2;obtain ⟨W,hW⟩:=ae (((w.alloc (.cells #[.int .i64 0,.int .i64 0,.int .i64 192,.int .i64 224,.int .i64 240] 3)).alloc (.cells #[.int .i64 0,.int .i64 128,.int .i64 32,.int .i64 16,.int .i64 8] 3)).drewN nq);rw [<-hW] at hw0 ⊢;clear hW hc0
  go_loopw [8,9,10] (fun lo hi i wr=>∃ s:Nat,s<=0/\i=.int .i64 ((s:Int)+1)/\lo=.int .i64 (loF b y s)/\hi=.int .i64 (hiF b y s)/\Hid (okF b s)/\Below w.heap.size w wr) (fun _ _ i _=>1 - (intOf i).toNat)
  case atStart=>exact ⟨0,Nat.zero_le _,rfl,rfl,rfl,ab trivial,hw0⟩
  case round =>
   obtain ⟨s,hs,rfl,rfl,rfl,HK,AY⟩:=hrel;obtain ⟨l1,l2,l3⟩:=yy b y y0 (by omega) s HK.out;have l4:=oY (s:=s) (by omega);have l5:hiF b y s<33554432:=by omega
   clear l3 l4
   by_cases hlt:s<0
   ·exact absurd hlt (Nat.not_lt_zero _)
   ·obtain rfl:s=0:=by omega
    have BN:=ab (fun p q r=>gI b 1 p q r (by rw [<-HY.out];exact ⟨y0,y1⟩) HK.out);rw [<-HY.out] at BN;simp only [show 1 - 1=0 from rfl] at BN;clear HK;generalize loF b y 0=lo at *;generalize hiF b y 0=hi at *;have BC:∀ o1 o2,Below w.heap.size w ((wr.alloc o1).alloc o2):=fun o1 o2=>(AY.alloc AY.size o1).alloc (by have:=AY.size;simp;omega) o2
    have HF:=ab BC;clear BC hw0
    rcases jH lo (frN 1) with ⟨m1,m2⟩ | ⟨m1,m2⟩
    all_goals rcases jI hi (toN 1) with ⟨n1,n2⟩ | ⟨n1,n2⟩
    all_goals
     simp only [show frN 1=0 from rfl,show toN 1=127 from rfl] at m1 n1 m2 n2 BN;rw [m2,n2] at BN;clear m2 n2
    ·skip
     cases h1:decide (0<=hi)
     ·skip
      first
      |( exfalso;omega)
      |( exfalso;simp only [decide_eq_true_eq,decide_eq_false_iff_not] at h1;omega)
      |( go_wp2;go_ret;exact ⟨al (by rw [BN.out _ _ _ h1 rfl rfl];first | rfl | (simp;try omega)),HF.out _ _⟩)
     ·skip
      first
      |( exfalso;omega)
      |( exfalso;simp only [decide_eq_true_eq,decide_eq_false_iff_not] at h1;omega)
      |( go_wp2;go_ret;exact ⟨al (by rw [BN.out _ _ _ h1 rfl rfl];first | rfl | (simp;try omega)),HF.out _ _⟩)
    ·skip
     first
     |(exfalso;omega)
     |(exfalso;simp only [decide_eq_true_eq,decide_eq_false_iff_not] at l5;omega)
     |(go_wp2;go_ret;exact ⟨al (by rw [BN.out _ _ _ rfl rfl rfl];first | rfl | (simp;try omega)),HF.out _ _⟩)
    ·skip
     cases h1:decide (lo<=hi)
     ·skip
      cases h2:decide (lo<55296)
      · skip
        first
        |(exfalso;omega)
        |(exfalso;simp only [decide_eq_true_eq,decide_eq_false_iff_not] at h1 h2;omega)
        |(go_wp2;go_ret;exact ⟨al (by rw [BN.out _ _ _ h1 h2 rfl];first | rfl | (simp;try omega)),HF.out _ _⟩)
      · skip
        first
        |(exfalso;omega)
        |(exfalso;simp only [decide_eq_true_eq,decide_eq_false_iff_not] at h1 h2;omega)
        |(go_wp2;go_ret;exact ⟨al (by rw [BN.out _ _ _ h1 h2 rfl];first | rfl | (simp;try omega)),HF.out _ _⟩)
     ·skip
      cases h2:decide (lo<55296)
      · skip
        first
        |(exfalso;omega)
        |(exfalso;simp only [decide_eq_true_eq,decide_eq_false_iff_not] at h1 h2;omega)
        |(go_wp2;go_ret;exact ⟨al (by rw [BN.out _ _ _ h1 h2 rfl];first | rfl | (simp;try omega)),HF.out _ _⟩)
      · skip
        first
        |(exfalso;omega)
        |(exfalso;simp only [decide_eq_true_eq,decide_eq_false_iff_not] at h1 h2;omega)
        |(go_wp2;go_ret;exact ⟨al (by rw [BN.out _ _ _ h1 h2 rfl];first | rfl | (simp;try omega)),HF.out _ _⟩)
    ·skip
     cases h1:decide (lo<=127)
     ·skip
      cases h2:decide (lo<55296)
      · skip
        first
        |(exfalso;omega)
        |(exfalso;simp only [decide_eq_true_eq,decide_eq_false_iff_not] at h1 h2;omega)
        |(go_wp2;go_ret;exact ⟨al (by rw [BN.out _ _ _ h1 h2 rfl];first | rfl | (simp;try omega)),HF.out _ _⟩)
      · skip
        first
        |(exfalso;omega)
        |(exfalso;simp only [decide_eq_true_eq,decide_eq_false_iff_not] at h1 h2;omega)
        |(go_wp2;go_ret;exact ⟨al (by rw [BN.out _ _ _ h1 h2 rfl];first | rfl | (simp;try omega)),HF.out _ _⟩)
     ·skip
      cases h2:decide (lo<55296)
      · skip
        first
        |(exfalso;omega)
        |(exfalso;simp only [decide_eq_true_eq,decide_eq_false_iff_not] at h1 h2;omega)
        |(go_wp2;go_ret;exact ⟨al (by rw [BN.out _ _ _ h1 h2 rfl];first | rfl | (simp;try omega)),HF.out _ _⟩)
      · skip
        first
        |(exfalso;omega)
        |(exfalso;simp only [decide_eq_true_eq,decide_eq_false_iff_not] at h1 h2;omega)
        |(go_wp2;go_ret;exact ⟨al (by rw [BN.out _ _ _ h1 h2 rfl];first | rfl | (simp;try omega)),HF.out _ _⟩)
theorem vp(v:Value)(b:List Int)(w:World)(hb:Held .u8 w v b)(hl:1<=b.length)(hr:∀ i,i<b.length->0<=b.getD i 0/\b.getD i 0<=255) :
  Calls Tryz.prog 207 #[v,.int .i64 2] w (Gives w (.bool (decide (bf b 2)))):=by
 obtain ⟨ao,ca,rfl,hc⟩:=hb.view;have HC:=ab hc;have HR:=ab hr;obtain ⟨bb,off,rfl,De,hc0⟩:=HC.out 0 (by omega);simp only [Nat.add_zero] at hc0;have hv0:vF b 2=b.getD 0 0 - 192:=rfl;obtain ⟨x0,x1⟩:=HR.out 0 (by omega);clear hc hb hr;have hcs:(decide (vF b 2<0)=true/\decide (bf b 2)=false)\/(decide (vF b 2<0)=false/\decide (32<=vF b 2)=true/\decide (bf b 2)=false)\/(0<=vF b 2/\vF b 2<32/\decide (vF b 2<0)=false/\decide (32<=vF b 2)=false):=by
  by_cases h1:vF b 2<0
  ·exact .inl ⟨decide_eq_true h1,decide_eq_false (fun h=>by have:=h.1;omega)⟩
  ·by_cases h2:32<=vF b 2
   ·exact .inr (.inl ⟨decide_eq_false h1,decide_eq_true h2,decide_eq_false (fun h=>by have h3:=h.2.1;have h4:szN 2=32:=rfl;omega)⟩)
   ·exact .inr (.inr ⟨by omega,by omega,decide_eq_false h1,decide_eq_false h2⟩)
 obtain ⟨y,hy⟩:=ae (vF b 2);rw [<-hy] at hcs hv0;have HY:=ab hy;have Er:b.getD 0 0=y+192:=by omega
 rw [Er] at hc0 x0 x1;clear hy hv0 Er;have My:y+192 - 192=y:=by omega
 have hbl:∀ o1 o2 nq,Below w.heap.size w (((w.alloc o1).alloc o2).drewN nq):=fun o1 o2 nq=>((AU _ o1).alloc (by simp) o2).drewN nq
 have Ca:=ab hbl;clear hbl
 rcases hcs with ⟨d1,hs⟩ | ⟨d1,d2,hs⟩ | ⟨y0,y1,d1,d2⟩
 ·have HS:=ab hs;clear hs
  go_enter Tryz.func207,Tryz.ntmps207
  go_wp2
  go_quiet (fail)
  go_wp2;go_ret;exact ⟨al (by rw [HS.out];rfl),Ca.out _ _ _⟩
 ·have HS:=ab hs;clear hs
  go_enter Tryz.func207,Tryz.ntmps207
  go_wp2
  go_quiet (fail)
  go_wp2;go_ret;exact ⟨al (by rw [HS.out];rfl),Ca.out _ _ _⟩
 ·go_enter Tryz.func207,Tryz.ntmps207
  go_wp2
  go_quiet (fail)
  have hw0:=Ca.out (.cells #[.int .i64 0,.int .i64 0,.int .i64 192,.int .i64 224,.int .i64 240] 3) (.cells #[.int .i64 0,.int .i64 128,.int .i64 32,.int .i64 16,.int .i64 8] 3) nq;go_wp2;obtain ⟨W,hW⟩:=ae (((w.alloc (.cells #[.int .i64 0,.int .i64 0,.int .i64 192,.int .i64 224,.int .i64 240] 3)).alloc (.cells #[.int .i64 0,.int .i64 128,.int .i64 32,.int .i64 16,.int .i64 8] 3)).drewN nq);rw [<-hW] at hw0 ⊢;clear hW hc0
  go_loopw [8,9,10] (fun lo hi i wr=>∃ s:Nat,s<=1/\i=.int .i64 ((s:Int)+1)/\lo=.int .i64 (loF b y s)/\hi=.int .i64 (hiF b y s)/\Hid (okF b s)/\Below w.heap.size w wr) (fun _ _ i _=>2 - (intOf i).toNat)
  case atStart=>exact ⟨0,Nat.zero_le _,rfl,rfl,rfl,ab trivial,hw0⟩
  case round =>
   obtain ⟨s,hs,rfl,rfl,rfl,HK,AY⟩:=hrel;obtain ⟨l1,l2,l3⟩:=yy b y y0 (by omega) s HK.out;have l4:=oY (s:=s) (by omega);have l5:hiF b y s<33554432:=by omega
   clear l3 l4
   by_cases hlt:s<1
   ·have BJ:loF b y (s+1)=loF b y s * 64+(if s+1<b.length then b.getD (s+1) 0 - 128 else 0):=rfl;have DE:hiF b y (s+1)=hiF b y s * 64+63+(if s+1<b.length then b.getD (s+1) 0 - 128 - 63 else 0):=rfl;have Dc:okF b (s+1)↔okF b s/\(s+1<b.length->0<=b.getD (s+1) 0 - 128/\b.getD (s+1) 0 - 128<=63):=Iff.rfl
    by_cases DG:s+1<b.length
    ·obtain ⟨b2,o2,e2,_,B0⟩:=HC.out (s+1) DG
     cases e2
     have B0:=(AY.cell (p:=⟨bb,off+(s+1),none⟩) De).trans B0;obtain ⟨z0,z1⟩:=HR.out (s+1) DG;rw [if_pos DG] at BJ DE;have CZ:okF b (s+1)↔0<=b.getD (s+1) 0 - 128/\b.getD (s+1) 0 - 128<=63:=by rw [Dc];exact ⟨fun h=>h.2 DG,fun h=>⟨HK.out,fun _=>h⟩⟩
     have Dr:¬ okF b (s+1)->decide (bf b 2)=false:=fun h=>decide_eq_false (fun hp=>h (mq (by omega) hp.2.2.1))
     clear Dc;generalize b.getD (s+1) 0=z at *
     by_cases e1:z - 128<0
     ·have d3:decide (z - 128<0)=true:=decide_eq_true e1;have HS:=ab (Dr (fun h=>by have:=CZ.1 h;omega));clear BJ DE CZ Dr HK;generalize loF b y s=lo at *;generalize hiF b y s=hi at *;go_wp2;go_ret;exact ⟨al (by rw [HS.out];rfl),AY⟩
     by_cases e3:63<z - 128
     ·have d3:decide (z - 128<0)=false:=decide_eq_false e1;have d4:decide (63<z - 128)=true:=decide_eq_true e3;have HS:=ab (Dr (fun h=>by have:=CZ.1 h;omega));clear BJ DE CZ Dr HK;generalize loF b y s=lo at *;generalize hiF b y s=hi at *;go_wp2;go_ret;exact ⟨al (by rw [HS.out];rfl),AY⟩
     ·have d3:decide (z - 128<0)=false:=decide_eq_false e1;have d4:decide (63<z - 128)=false:=decide_eq_false e3;have Jg:=ab (CZ.2 (by omega));have BH:=ab BJ;have IO:=ab DE;clear BJ DE CZ Dr HK;generalize loF b y s=lo at *;generalize hiF b y s=hi at *;go_wp2
      go_roundw
      case rel=>exact ⟨s+1,by omega,by go_num,(by rw [BH.out];try (congr 1 <;> omega)),(by rw [IO.out];try (congr 1 <;> omega)),Jg,AY⟩
      case measure=>simp [intOf] <;> omega
    ·rw [if_neg DG] at BJ DE;have Jg:=ab (Dc.2 ⟨HK.out,fun h=>absurd h DG⟩);have BH:=ab BJ;have IO:=ab DE;clear BJ DE Dc HK;generalize loF b y s=lo at *;generalize hiF b y s=hi at *;go_wp2
     go_roundw
     case rel=>exact ⟨s+1,by omega,by go_num,(by rw [BH.out];try (congr 1 <;> omega)),(by rw [IO.out];try (congr 1 <;> omega)),Jg,AY⟩
     case measure=>simp [intOf] <;> omega
   ·obtain rfl:s=1:=by omega
    have BN:=ab (fun p q r=>gI b 2 p q r (by rw [<-HY.out];exact ⟨y0,y1⟩) HK.out);rw [<-HY.out] at BN;simp only [show 2 - 1=1 from rfl] at BN;clear HK;generalize loF b y 1=lo at *;generalize hiF b y 1=hi at *;have BC:∀ o1 o2,Below w.heap.size w ((wr.alloc o1).alloc o2):=fun o1 o2=>(AY.alloc AY.size o1).alloc (by have:=AY.size;simp;omega) o2
    have HF:=ab BC;clear BC hw0
    rcases jH lo (frN 2) with ⟨m1,m2⟩ | ⟨m1,m2⟩
    all_goals rcases jI hi (toN 2) with ⟨n1,n2⟩ | ⟨n1,n2⟩
    all_goals
     simp only [show frN 2=128 from rfl,show toN 2=2047 from rfl] at m1 n1 m2 n2 BN;rw [m2,n2] at BN;clear m2 n2
    ·skip
     cases h1:decide (128<=hi)
     ·skip
      first
      |( exfalso;omega)
      |( exfalso;simp only [decide_eq_true_eq,decide_eq_false_iff_not] at h1;omega)
      |( go_wp2;go_ret;exact ⟨al (by rw [BN.out _ _ _ h1 rfl rfl];first | rfl | (simp;try omega)),HF.out _ _⟩)
     ·skip
      first
      |( exfalso;omega)
      |( exfalso;simp only [decide_eq_true_eq,decide_eq_false_iff_not] at h1;omega)
      |( go_wp2;go_ret;exact ⟨al (by rw [BN.out _ _ _ h1 rfl rfl];first | rfl | (simp;try omega)),HF.out _ _⟩)
    ·skip
     first
     |(exfalso;omega)
     |(exfalso;simp only [decide_eq_true_eq,decide_eq_false_iff_not] at l5;omega)
     |(go_wp2;go_ret;exact ⟨al (by rw [BN.out _ _ _ rfl rfl rfl];first | rfl | (simp;try omega)),HF.out _ _⟩)
    ·skip
     cases h1:decide (lo<=hi)
     ·skip
      cases h2:decide (lo<55296)
      · skip
        first
        |(exfalso;omega)
        |(exfalso;simp only [decide_eq_true_eq,decide_eq_false_iff_not] at h1 h2;omega)
        |(go_wp2;go_ret;exact ⟨al (by rw [BN.out _ _ _ h1 h2 rfl];first | rfl | (simp;try omega)),HF.out _ _⟩)
      · skip
        first
        |(exfalso;omega)
        |(exfalso;simp only [decide_eq_true_eq,decide_eq_false_iff_not] at h1 h2;omega)
        |(go_wp2;go_ret;exact ⟨al (by rw [BN.out _ _ _ h1 h2 rfl];first | rfl | (simp;try omega)),HF.out _ _⟩)
     ·skip
      cases h2:decide (lo<55296)
      · skip
        first
        |(exfalso;omega)
        |(exfalso;simp only [decide_eq_true_eq,decide_eq_false_iff_not] at h1 h2;omega)
        |(go_wp2;go_ret;exact ⟨al (by rw [BN.out _ _ _ h1 h2 rfl];first | rfl | (simp;try omega)),HF.out _ _⟩)
      · skip
        first
        |(exfalso;omega)
        |(exfalso;simp only [decide_eq_true_eq,decide_eq_false_iff_not] at h1 h2;omega)
        |(go_wp2;go_ret;exact ⟨al (by rw [BN.out _ _ _ h1 h2 rfl];first | rfl | (simp;try omega)),HF.out _ _⟩)
    ·skip
     cases h1:decide (lo<=2047)
     ·skip
      cases h2:decide (lo<55296)
      · skip
        first
        |(exfalso;omega)
        |(exfalso;simp only [decide_eq_true_eq,decide_eq_false_iff_not] at h1 h2;omega)
        |(go_wp2;go_ret;exact ⟨al (by rw [BN.out _ _ _ h1 h2 rfl];first | rfl | (simp;try omega)),HF.out _ _⟩)
      · skip
        first
        |(exfalso;omega)
        |(exfalso;simp only [decide_eq_true_eq,decide_eq_false_iff_not] at h1 h2;omega)
        |(go_wp2;go_ret;exact ⟨al (by rw [BN.out _ _ _ h1 h2 rfl];first | rfl | (simp;try omega)),HF.out _ _⟩)
     ·skip
      cases h2:decide (lo<55296)
      · skip
        first
        |(exfalso;omega)
        |(exfalso;simp only [decide_eq_true_eq,decide_eq_false_iff_not] at h1 h2;omega)
        |(go_wp2;go_ret;exact ⟨al (by rw [BN.out _ _ _ h1 h2 rfl];first | rfl | (simp;try omega)),HF.out _ _⟩)
      · skip
        first
        |(exfalso;omega)
        |(exfalso;simp only [decide_eq_true_eq,decide_eq_false_iff_not] at h1 h2;omega)
        |(go_wp2;go_ret;exact ⟨al (by rw [BN.out _ _ _ h1 h2 rfl];first | rfl | (simp;try omega)),HF.out _ _⟩)
theorem vq(v:Value)(b:List Int)(w:World)(hb:Held .u8 w v b)(hl:1<=b.length)(hr:∀ i,i<b.length->0<=b.getD i 0/\b.getD i 0<=255) :
  Calls Tryz.prog 207 #[v,.int .i64 3] w (Gives w (.bool (decide (bf b 3)))):=by
 obtain ⟨ao,ca,rfl,hc⟩:=hb.view;have HC:=ab hc;have HR:=ab hr;obtain ⟨bb,off,rfl,De,hc0⟩:=HC.out 0 (by omega);simp only [Nat.add_zero] at hc0;have hv0:vF b 3=b.getD 0 0 - 224:=rfl;obtain ⟨x0,x1⟩:=HR.out 0 (by omega);clear hc hb hr;have hcs:(decide (vF b 3<0)=true/\decide (bf b 3)=false)\/(decide (vF b 3<0)=false/\decide (16<=vF b 3)=true/\decide (bf b 3)=false)\/(0<=vF b 3/\vF b 3<16/\decide (vF b 3<0)=false/\decide (16<=vF b 3)=false):=by
  by_cases h1:vF b 3<0
  ·exact .inl ⟨decide_eq_true h1,decide_eq_false (fun h=>by have:=h.1;omega)⟩
  ·by_cases h2:16<=vF b 3
   ·exact .inr (.inl ⟨decide_eq_false h1,decide_eq_true h2,decide_eq_false (fun h=>by have h3:=h.2.1;have h4:szN 3=16:=rfl;omega)⟩)
   ·exact .inr (.inr ⟨by omega,by omega,decide_eq_false h1,decide_eq_false h2⟩)
 obtain ⟨y,hy⟩:=ae (vF b 3);rw [<-hy] at hcs hv0;have HY:=ab hy;have Er:b.getD 0 0=y+224:=by omega
 rw [Er] at hc0 x0 x1;clear hy hv0 Er;have My:y+224 - 224=y:=by omega
 have hbl:∀ o1 o2 nq,Below w.heap.size w (((w.alloc o1).alloc o2).drewN nq):=fun o1 o2 nq=>((AU _ o1).alloc (by simp) o2).drewN nq
 have Ca:=ab hbl;clear hbl
 rcases hcs with ⟨d1,hs⟩ | ⟨d1,d2,hs⟩ | ⟨y0,y1,d1,d2⟩
 ·have HS:=ab hs;clear hs
  go_enter Tryz.func207,Tryz.ntmps207
  go_wp2
  go_quiet (fail)
  go_wp2;go_ret;exact ⟨al (by rw [HS.out];rfl),Ca.out _ _ _⟩
 ·have HS:=ab hs;clear hs
  go_enter Tryz.func207,Tryz.ntmps207
  go_wp2
  go_quiet (fail)
  go_wp2;go_ret;exact ⟨al (by rw [HS.out];rfl),Ca.out _ _ _⟩
 ·go_enter Tryz.func207,Tryz.ntmps207
  go_wp2
  go_quiet (fail)
  have hw0:=Ca.out (.cells #[.int .i64 0,.int .i64 0,.int .i64 192,.int .i64 224,.int .i64 240] 3) (.cells #[.int .i64 0,.int .i64 128,.int .i64 32,.int .i64 16,.int .i64 8] 3) nq;go_wp2;obtain ⟨W,hW⟩:=ae (((w.alloc (.cells #[.int .i64 0,.int .i64 0,.int .i64 192,.int .i64 224,.int .i64 240] 3)).alloc (.cells #[.int .i64 0,.int .i64 128,.int .i64 32,.int .i64 16,.int .i64 8] 3)).drewN nq);rw [<-hW] at hw0 ⊢;clear hW hc0
  go_loopw [8,9,10] (fun lo hi i wr=>∃ s:Nat,s<=2/\i=.int .i64 ((s:Int)+1)/\lo=.int .i64 (loF b y s)/\hi=.int .i64 (hiF b y s)/\Hid (okF b s)/\Below w.heap.size w wr) (fun _ _ i _=>3 - (intOf i).toNat)
  case atStart=>exact ⟨0,Nat.zero_le _,rfl,rfl,rfl,ab trivial,hw0⟩
  case round =>
   obtain ⟨s,hs,rfl,rfl,rfl,HK,AY⟩:=hrel;obtain ⟨l1,l2,l3⟩:=yy b y y0 (by omega) s HK.out;have l4:=oY (s:=s) (by omega);have l5:hiF b y s<33554432:=by omega
   clear l3 l4
   by_cases hlt:s<2
   ·have BJ:loF b y (s+1)=loF b y s * 64+(if s+1<b.length then b.getD (s+1) 0 - 128 else 0):=rfl;have DE:hiF b y (s+1)=hiF b y s * 64+63+(if s+1<b.length then b.getD (s+1) 0 - 128 - 63 else 0):=rfl;have Dc:okF b (s+1)↔okF b s/\(s+1<b.length->0<=b.getD (s+1) 0 - 128/\b.getD (s+1) 0 - 128<=63):=Iff.rfl
    by_cases DG:s+1<b.length
    ·obtain ⟨b2,o2,e2,_,B0⟩:=HC.out (s+1) DG
     cases e2
     have B0:=(AY.cell (p:=⟨bb,off+(s+1),none⟩) De).trans B0;obtain ⟨z0,z1⟩:=HR.out (s+1) DG;rw [if_pos DG] at BJ DE;have CZ:okF b (s+1)↔0<=b.getD (s+1) 0 - 128/\b.getD (s+1) 0 - 128<=63:=by rw [Dc];exact ⟨fun h=>h.2 DG,fun h=>⟨HK.out,fun _=>h⟩⟩
     have Dr:¬ okF b (s+1)->decide (bf b 3)=false:=fun h=>decide_eq_false (fun hp=>h (mq (by omega) hp.2.2.1))
     clear Dc;generalize b.getD (s+1) 0=z at *
     by_cases e1:z - 128<0
     ·have d3:decide (z - 128<0)=true:=decide_eq_true e1;have HS:=ab (Dr (fun h=>by have:=CZ.1 h;omega));clear BJ DE CZ Dr HK;generalize loF b y s=lo at *;generalize hiF b y s=hi at *;go_wp2;go_ret;exact ⟨al (by rw [HS.out];rfl),AY⟩
     by_cases e3:63<z - 128
     ·have d3:decide (z - 128<0)=false:=decide_eq_false e1;have d4:decide (63<z - 128)=true:=decide_eq_true e3;have HS:=ab (Dr (fun h=>by have:=CZ.1 h;omega));clear BJ DE CZ Dr HK;generalize loF b y s=lo at *;generalize hiF b y s=hi at *;go_wp2;go_ret;exact ⟨al (by rw [HS.out];rfl),AY⟩
     ·have d3:decide (z - 128<0)=false:=decide_eq_false e1;have d4:decide (63<z - 128)=false:=decide_eq_false e3;have Jg:=ab (CZ.2 (by omega));have BH:=ab BJ;have IO:=ab DE;clear BJ DE CZ Dr HK;generalize loF b y s=lo at *;generalize hiF b y s=hi at *;go_wp2
      go_roundw
      case rel=>exact ⟨s+1,by omega,by go_num,(by rw [BH.out];try (congr 1 <;> omega)),(by rw [IO.out];try (congr 1 <;> omega)),Jg,AY⟩
      case measure=>simp [intOf] <;> omega
    ·rw [if_neg DG] at BJ DE;have Jg:=ab (Dc.2 ⟨HK.out,fun h=>absurd h DG⟩);have BH:=ab BJ;have IO:=ab DE;clear BJ DE Dc HK;generalize loF b y s=lo at *;generalize hiF b y s=hi at *;go_wp2
     go_roundw
     case rel=>exact ⟨s+1,by omega,by go_num,(by rw [BH.out];try (congr 1 <;> omega)),(by rw [IO.out];try (congr 1 <;> omega)),Jg,AY⟩
     case measure=>simp [intOf] <;> omega
   ·obtain rfl:s=2:=by omega
    have BN:=ab (fun p q r=>gI b 3 p q r (by rw [<-HY.out];exact ⟨y0,y1⟩) HK.out);rw [<-HY.out] at BN;simp only [show 3 - 1=2 from rfl] at BN;clear HK;generalize loF b y 2=lo at *;generalize hiF b y 2=hi at *;have BC:∀ o1 o2,Below w.heap.size w ((wr.alloc o1).alloc o2):=fun o1 o2=>(AY.alloc AY.size o1).alloc (by have:=AY.size;simp;omega) o2
    have HF:=ab BC;clear BC hw0
    rcases jH lo (frN 3) with ⟨m1,m2⟩ | ⟨m1,m2⟩
    all_goals rcases jI hi (toN 3) with ⟨n1,n2⟩ | ⟨n1,n2⟩
    all_goals
     simp only [show frN 3=2048 from rfl,show toN 3=65535 from rfl] at m1 n1 m2 n2 BN;rw [m2,n2] at BN;clear m2 n2
    ·skip
     cases h1:decide (2048<=hi)
     ·skip
      first
      |( exfalso;omega)
      |( exfalso;simp only [decide_eq_true_eq,decide_eq_false_iff_not] at h1;omega)
      |( go_wp2;go_ret;exact ⟨al (by rw [BN.out _ _ _ h1 rfl rfl];first | rfl | (simp;try omega)),HF.out _ _⟩)
     ·skip
      first
      |( exfalso;omega)
      |( exfalso;simp only [decide_eq_true_eq,decide_eq_false_iff_not] at h1;omega)
      |( go_wp2;go_ret;exact ⟨al (by rw [BN.out _ _ _ h1 rfl rfl];first | rfl | (simp;try omega)),HF.out _ _⟩)
    ·skip
     first
     |(exfalso;omega)
     |(exfalso;simp only [decide_eq_true_eq,decide_eq_false_iff_not] at l5;omega)
     |(go_wp2;go_ret;exact ⟨al (by rw [BN.out _ _ _ rfl rfl rfl];first | rfl | (simp;try omega)),HF.out _ _⟩)
    ·skip
     cases h1:decide (lo<=hi)
     ·skip
      cases h2:decide (lo<55296)
      · skip
        first
        |(exfalso;omega)
        |(exfalso;simp only [decide_eq_true_eq,decide_eq_false_iff_not] at h1 h2;omega)
        |(go_wp2;go_ret;exact ⟨al (by rw [BN.out _ _ _ h1 h2 rfl];first | rfl | (simp;try omega)),HF.out _ _⟩)
      · skip
        first
        |(exfalso;omega)
        |(exfalso;simp only [decide_eq_true_eq,decide_eq_false_iff_not] at h1 h2;omega)
        |(go_wp2;go_ret;exact ⟨al (by rw [BN.out _ _ _ h1 h2 rfl];first | rfl | (simp;try omega)),HF.out _ _⟩)
     ·skip
      cases h2:decide (lo<55296)
      · skip
        first
        |(exfalso;omega)
        |(exfalso;simp only [decide_eq_true_eq,decide_eq_false_iff_not] at h1 h2;omega)
        |(go_wp2;go_ret;exact ⟨al (by rw [BN.out _ _ _ h1 h2 rfl];first | rfl | (simp;try omega)),HF.out _ _⟩)
      · skip
        first
        |(exfalso;omega)
        |(exfalso;simp only [decide_eq_true_eq,decide_eq_false_iff_not] at h1 h2;omega)
        |(go_wp2;go_ret;exact ⟨al (by rw [BN.out _ _ _ h1 h2 rfl];first | rfl | (simp;try omega)),HF.out _ _⟩)
    ·skip
     cases h1:decide (lo<=65535)
     ·skip
      cases h2:decide (lo<55296)
      · skip
        first
        |(exfalso;omega)
        |(exfalso;simp only [decide_eq_true_eq,decide_eq_false_iff_not] at h1 h2;omega)
        |(go_wp2;go_ret;exact ⟨al (by rw [BN.out _ _ _ h1 h2 rfl];first | rfl | (simp;try omega)),HF.out _ _⟩)
      · skip
        first
        |(exfalso;omega)
        |(exfalso;simp only [decide_eq_true_eq,decide_eq_false_iff_not] at h1 h2;omega)
        |(go_wp2;go_ret;exact ⟨al (by rw [BN.out _ _ _ h1 h2 rfl];first | rfl | (simp;try omega)),HF.out _ _⟩)
     ·skip
      cases h2:decide (lo<55296)
      · skip
        first
        |(exfalso;omega)
        |(exfalso;simp only [decide_eq_true_eq,decide_eq_false_iff_not] at h1 h2;omega)
        |(go_wp2;go_ret;exact ⟨al (by rw [BN.out _ _ _ h1 h2 rfl];first | rfl | (simp;try omega)),HF.out _ _⟩)
      · skip
        first
        |(exfalso;omega)
        |(exfalso;simp only [decide_eq_true_eq,decide_eq_false_iff_not] at h1 h2;omega)
        |(go_wp2;go_ret;exact ⟨al (by rw [BN.out _ _ _ h1 h2 rfl];first | rfl | (simp;try omega)),HF.out _ _⟩)
theorem vr(v:Value)(b:List Int)(w:World)(hb:Held .u8 w v b)(hl:1<=b.length)(hr:∀ i,i<b.length->0<=b.getD i 0/\b.getD i 0<=255) :
  Calls Tryz.prog 207 #[v,.int .i64 4] w (Gives w (.bool (decide (bf b 4)))):=by
 obtain ⟨ao,ca,rfl,hc⟩:=hb.view;have HC:=ab hc;have HR:=ab hr;obtain ⟨bb,off,rfl,De,hc0⟩:=HC.out 0 (by omega);simp only [Nat.add_zero] at hc0;have hv0:vF b 4=b.getD 0 0 - 240:=rfl;obtain ⟨x0,x1⟩:=HR.out 0 (by omega);clear hc hb hr;have hcs:(decide (vF b 4<0)=true/\decide (bf b 4)=false)\/(decide (vF b 4<0)=false/\decide (8<=vF b 4)=true/\decide (bf b 4)=false)\/(0<=vF b 4/\vF b 4<8/\decide (vF b 4<0)=false/\decide (8<=vF b 4)=false):=by
  by_cases h1:vF b 4<0
  ·exact .inl ⟨decide_eq_true h1,decide_eq_false (fun h=>by have:=h.1;omega)⟩
  ·by_cases h2:8<=vF b 4
   ·exact .inr (.inl ⟨decide_eq_false h1,decide_eq_true h2,decide_eq_false (fun h=>by have h3:=h.2.1;have h4:szN 4=8:=rfl;omega)⟩)
   ·exact .inr (.inr ⟨by omega,by omega,decide_eq_false h1,decide_eq_false h2⟩)
 obtain ⟨y,hy⟩:=ae (vF b 4);rw [<-hy] at hcs hv0;have HY:=ab hy;have Er:b.getD 0 0=y+240:=by omega
 rw [Er] at hc0 x0 x1;clear hy hv0 Er;have My:y+240 - 240=y:=by omega
 have hbl:∀ o1 o2 nq,Below w.heap.size w (((w.alloc o1).alloc o2).drewN nq):=fun o1 o2 nq=>((AU _ o1).alloc (by simp) o2).drewN nq
 have Ca:=ab hbl;clear hbl
 rcases hcs with ⟨d1,hs⟩ | ⟨d1,d2,hs⟩ | ⟨y0,y1,d1,d2⟩
 ·have HS:=ab hs;clear hs
  go_enter Tryz.func207,Tryz.ntmps207
  go_wp2
  go_quiet (fail)
  go_wp2;go_ret;exact ⟨al (by rw [HS.out];rfl),Ca.out _ _ _⟩
 ·have HS:=ab hs;clear hs
  go_enter Tryz.func207,Tryz.ntmps207
  go_wp2
  go_quiet (fail)
  go_wp2;go_ret;exact ⟨al (by rw [HS.out];rfl),Ca.out _ _ _⟩
 ·go_enter Tryz.func207,Tryz.ntmps207
  go_wp2
  go_quiet (fail)
  have hw0:=Ca.out (.cells #[.int .i64 0,.int .i64 0,.int .i64 192,.int .i64 224,.int .i64 240] 3) (.cells #[.int .i64 0,.int .i64 128,.int .i64 32,.int .i64 16,.int .i64 8] 3) nq;go_wp2;obtain ⟨W,hW⟩:=ae (((w.alloc (.cells #[.int .i64 0,.int .i64 0,.int .i64 192,.int .i64 224,.int .i64 240] 3)).alloc (.cells #[.int .i64 0,.int .i64 128,.int .i64 32,.int .i64 16,.int .i64 8] 3)).drewN nq);rw [<-hW] at hw0 ⊢;clear hW hc0
  go_loopw [8,9,10] (fun lo hi i wr=>∃ s:Nat,s<=3/\i=.int .i64 ((s:Int)+1)/\lo=.int .i64 (loF b y s)/\hi=.int .i64 (hiF b y s)/\Hid (okF b s)/\Below w.heap.size w wr) (fun _ _ i _=>4 - (intOf i).toNat)
  case atStart=>exact ⟨0,Nat.zero_le _,rfl,rfl,rfl,ab trivial,hw0⟩
  case round =>
   obtain ⟨s,hs,rfl,rfl,rfl,HK,AY⟩:=hrel;obtain ⟨l1,l2,l3⟩:=yy b y y0 (by omega) s HK.out;have l4:=oY (s:=s) (by omega);have l5:hiF b y s<33554432:=by omega
   clear l3 l4
   by_cases hlt:s<3
   ·have BJ:loF b y (s+1)=loF b y s * 64+(if s+1<b.length then b.getD (s+1) 0 - 128 else 0):=rfl;have DE:hiF b y (s+1)=hiF b y s * 64+63+(if s+1<b.length then b.getD (s+1) 0 - 128 - 63 else 0):=rfl;have Dc:okF b (s+1)↔okF b s/\(s+1<b.length->0<=b.getD (s+1) 0 - 128/\b.getD (s+1) 0 - 128<=63):=Iff.rfl
    by_cases DG:s+1<b.length
    ·obtain ⟨b2,o2,e2,_,B0⟩:=HC.out (s+1) DG
     cases e2
     have B0:=(AY.cell (p:=⟨bb,off+(s+1),none⟩) De).trans B0;obtain ⟨z0,z1⟩:=HR.out (s+1) DG;rw [if_pos DG] at BJ DE;have CZ:okF b (s+1)↔0<=b.getD (s+1) 0 - 128/\b.getD (s+1) 0 - 128<=63:=by rw [Dc];exact ⟨fun h=>h.2 DG,fun h=>⟨HK.out,fun _=>h⟩⟩
     have Dr:¬ okF b (s+1)->decide (bf b 4)=false:=fun h=>decide_eq_false (fun hp=>h (mq (by omega) hp.2.2.1))
     clear Dc;generalize b.getD (s+1) 0=z at *
     by_cases e1:z - 128<0
     ·have d3:decide (z - 128<0)=true:=decide_eq_true e1;have HS:=ab (Dr (fun h=>by have:=CZ.1 h;omega));clear BJ DE CZ Dr HK;generalize loF b y s=lo at *;generalize hiF b y s=hi at *;go_wp2;go_ret;exact ⟨al (by rw [HS.out];rfl),AY⟩
     by_cases e3:63<z - 128
     ·have d3:decide (z - 128<0)=false:=decide_eq_false e1;have d4:decide (63<z - 128)=true:=decide_eq_true e3;have HS:=ab (Dr (fun h=>by have:=CZ.1 h;omega));clear BJ DE CZ Dr HK;generalize loF b y s=lo at *;generalize hiF b y s=hi at *;go_wp2;go_ret;exact ⟨al (by rw [HS.out];rfl),AY⟩
     ·have d3:decide (z - 128<0)=false:=decide_eq_false e1;have d4:decide (63<z - 128)=false:=decide_eq_false e3;have Jg:=ab (CZ.2 (by omega));have BH:=ab BJ;have IO:=ab DE;clear BJ DE CZ Dr HK;generalize loF b y s=lo at *;generalize hiF b y s=hi at *;go_wp2
      go_roundw
      case rel=>exact ⟨s+1,by omega,by go_num,(by rw [BH.out];try (congr 1 <;> omega)),(by rw [IO.out];try (congr 1 <;> omega)),Jg,AY⟩
      case measure=>simp [intOf] <;> omega
    ·rw [if_neg DG] at BJ DE;have Jg:=ab (Dc.2 ⟨HK.out,fun h=>absurd h DG⟩);have BH:=ab BJ;have IO:=ab DE;clear BJ DE Dc HK;generalize loF b y s=lo at *;generalize hiF b y s=hi at *;go_wp2
     go_roundw
     case rel=>exact ⟨s+1,by omega,by go_num,(by rw [BH.out];try (congr 1 <;> omega)),(by rw [IO.out];try (congr 1 <;> omega)),Jg,AY⟩
     case measure=>simp [intOf] <;> omega
   ·obtain rfl:s=3:=by omega
    have BN:=ab (fun p q r=>gI b 4 p q r (by rw [<-HY.out];exact ⟨y0,y1⟩) HK.out);rw [<-HY.out] at BN;simp only [show 4 - 1=3 from rfl] at BN;clear HK;generalize loF b y 3=lo at *;generalize hiF b y 3=hi at *;have BC:∀ o1 o2,Below w.heap.size w ((wr.alloc o1).alloc o2):=fun o1 o2=>(AY.alloc AY.size o1).alloc (by have:=AY.size;simp;omega) o2
    have HF:=ab BC;clear BC hw0
    rcases jH lo (frN 4) with ⟨m1,m2⟩ | ⟨m1,m2⟩
    all_goals rcases jI hi (toN 4) with ⟨n1,n2⟩ | ⟨n1,n2⟩
    all_goals
     simp only [show frN 4=65536 from rfl,show toN 4=1114111 from rfl] at m1 n1 m2 n2 BN;rw [m2,n2] at BN;clear m2 n2
    ·skip
     cases h1:decide (65536<=hi)
     ·skip
      first
      |( exfalso;omega)
      |( exfalso;simp only [decide_eq_true_eq,decide_eq_false_iff_not] at h1;omega)
      |( go_wp2;go_ret;exact ⟨al (by rw [BN.out _ _ _ h1 rfl rfl];first | rfl | (simp;try omega)),HF.out _ _⟩)
     ·skip
      first
      |( exfalso;omega)
      |( exfalso;simp only [decide_eq_true_eq,decide_eq_false_iff_not] at h1;omega)
      |( go_wp2;go_ret;exact ⟨al (by rw [BN.out _ _ _ h1 rfl rfl];first | rfl | (simp;try omega)),HF.out _ _⟩)
    ·skip
     first
     |(exfalso;omega)
     |(exfalso;simp only [decide_eq_true_eq,decide_eq_false_iff_not] at l5;omega)
     |(go_wp2;go_ret;exact ⟨al (by rw [BN.out _ _ _ rfl rfl rfl];first | rfl | (simp;try omega)),HF.out _ _⟩)
    ·skip
     cases h1:decide (lo<=hi)
     ·skip
      cases h2:decide (lo<55296)
      · skip
        first
        |(exfalso;omega)
        |(exfalso;simp only [decide_eq_true_eq,decide_eq_false_iff_not] at h1 h2;omega)
        |(go_wp2;go_ret;exact ⟨al (by rw [BN.out _ _ _ h1 h2 rfl];first | rfl | (simp;try omega)),HF.out _ _⟩)
      · skip
        first
        |(exfalso;omega)
        |(exfalso;simp only [decide_eq_true_eq,decide_eq_false_iff_not] at h1 h2;omega)
        |(go_wp2;go_ret;exact ⟨al (by rw [BN.out _ _ _ h1 h2 rfl];first | rfl | (simp;try omega)),HF.out _ _⟩)
     ·skip
      cases h2:decide (lo<55296)
      · skip
        first
        |(exfalso;omega)
        |(exfalso;simp only [decide_eq_true_eq,decide_eq_false_iff_not] at h1 h2;omega)
        |(go_wp2;go_ret;exact ⟨al (by rw [BN.out _ _ _ h1 h2 rfl];first | rfl | (simp;try omega)),HF.out _ _⟩)
      · skip
        first
        |(exfalso;omega)
        |(exfalso;simp only [decide_eq_true_eq,decide_eq_false_iff_not] at h1 h2;omega)
        |(go_wp2;go_ret;exact ⟨al (by rw [BN.out _ _ _ h1 h2 rfl];first | rfl | (simp;try omega)),HF.out _ _⟩)
    ·skip
     cases h1:decide (lo<=1114111)
     ·skip
      cases h2:decide (lo<55296)
      · skip
        first
        |(exfalso;omega)
        |(exfalso;simp only [decide_eq_true_eq,decide_eq_false_iff_not] at h1 h2;omega)
        |(go_wp2;go_ret;exact ⟨al (by rw [BN.out _ _ _ h1 h2 rfl];first | rfl | (simp;try omega)),HF.out _ _⟩)
      · skip
        first
        |(exfalso;omega)
        |(exfalso;simp only [decide_eq_true_eq,decide_eq_false_iff_not] at h1 h2;omega)
        |(go_wp2;go_ret;exact ⟨al (by rw [BN.out _ _ _ h1 h2 rfl];first | rfl | (simp;try omega)),HF.out _ _⟩)
     ·skip
      cases h2:decide (lo<55296)
      · skip
        first
        |(exfalso;omega)
        |(exfalso;simp only [decide_eq_true_eq,decide_eq_false_iff_not] at h1 h2;omega)
        |(go_wp2;go_ret;exact ⟨al (by rw [BN.out _ _ _ h1 h2 rfl];first | rfl | (simp;try omega)),HF.out _ _⟩)
      · skip
        first
        |(exfalso;omega)
        |(exfalso;simp only [decide_eq_true_eq,decide_eq_false_iff_not] at h1 h2;omega)
        |(go_wp2;go_ret;exact ⟨al (by rw [BN.out _ _ _ h1 h2 rfl];first | rfl | (simp;try omega)),HF.out _ _⟩)
end Go.Proofs.YtoeggiplcaegoaaGreatDoor
