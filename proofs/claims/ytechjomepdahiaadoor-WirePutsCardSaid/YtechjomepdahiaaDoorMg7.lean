import Derived.Test.YtechjomepdahiaaDoorZ0
import Derived.Test.YtechjomepdahiaaDoorWirV
import Derived.Test.YtechjomepdahiaaDoorErrS
import Derived.Test.YtechjomepdahiaaDoorGrdR
set_option maxRecDepth 100000
set_option linter.unusedVariables false
set_option linter.unusedSimpArgs false
set_option maxHeartbeats 2000000
namespace Go.Proofs.YtechjomepdahiaaDoor
open Go.RowKit Go.ChangeShapes Go.WideShapes
theorem i8{w:World}{sa:Nat->Addr}(h:Sents w sa):Five w sa:=⟨fun k hk=>by
 simp only [List.mem_cons,List.not_mem_nil,or_false] at hk
 rcases hk with rfl | rfl | rfl | rfl | rfl
 ·exact h.cell 1 (by decide)
 ·exact h.cell 2 (by decide)
 ·exact h.cell 3 (by decide)
 ·exact h.cell 4 (by decide)
 ·exact h.cell 7 (by decide)⟩
theorem i9(Ls:List Ln)(h:∀ i,i<Ls.length->aI (Ls.getD i zl).1=true/\(Ls.getD i zl).1.length<=1024):∀ k,k<=Ls.length->((Ls.take k).flatMap lnB).length<=k+70 * cL Ls k
 |0=>fun _=>by simp
 |k+1=>fun hk=>by
  have ih:=i9 Ls h k (by omega);have tw:k<Ls.length:=hk;obtain ⟨h1,h2⟩:=h k tw;have es:cL Ls (k+1)=cL Ls k+(Ls.getD k zl).1.length:=rfl;rw [es];rw [show Ls.getD k zl=Ls[k] from by simp [List.getD,List.getElem?_eq_getElem tw]] at h1 h2 ⊢;rw [List.take_succ_eq_append_getElem tw,List.flatMap_append,List.flatMap_singleton,List.length_append];have h3:=bV Ls[k].1.length Ls[k].1 (Nat.le_refl _) (by omega) (dh h1);have h4:(lnB Ls[k]).length=(aF Ls[k].1).length+1:=rfl;omega
theorem ix{v:Vw}(h:aH v=true)(hg:dX v=false):1<=(aS v).length/\(aS v).length<=200000:=by
 obtain ⟨h1,h2,h3,h4,h5,h6,h7,h8,h9,hx⟩:=dY h;unfold dX at hg;rw [Bool.or_eq_false_iff,decide_eq_false_iff_not,decide_eq_false_iff_not] at hg;have hl:=i9 v.L (fun i hi=>⟨(hx i hi).2,by have:=(hx i hi).1;omega⟩) v.L.length (Nat.le_refl _);rw [List.take_length] at hl;have n1:=(aD (show v.w.toNat<2097152 by omega)).2;have n2:=(aD (show v.h.toNat<2097152 by omega)).2;have n3:=(aD (show v.r.toNat<2097152 by omega)).2;have n4:=(aD (show v.c.toNat<2097152 by omega)).2;obtain ⟨hg1,hg2⟩:=hg;unfold aS;simp only [List.length_cons,List.length_append,List.length_nil];omega
theorem j5{W:World}{v:Vw}{lv:Value}(hv:HeldE lineE (fun _=>True) W lv v.L)(h0:(Lit.int .i64 v.w).wf=true)(h1:(Lit.int .i64 v.h).wf=true):ViewAt W v lv:=by
 simp [Lit.wf] at h0 h1
 exact ⟨hv,h0.1,h0.2,h1.1,h1.2⟩
theorem iw{xs y:List Int}{b:Int}(h:fZ xs=some (b,y)):az xs false=(b,y,false):=by
 cases xs with
 |nil=>cases h
 |cons x l =>
  have h:some (x,l)=some (b,y):=h
  injection h with h
  injection h with h1 h2
  subst h1 h2
  rfl
theorem dW{xs y:List Int}{n:Nat}(h:cY xs=some (n,y)):ak 3 0 1 xs false=(n,y,false):=(jd 3 0 1 xs n y).2 h
theorem kT{n:Nat}{xs f y:List Int}(h:fB n xs=some (f,y)):a9 n xs false=(f,y,false):=by
 unfold fB at h
 split at h
 ·cases h
 ·injection h with h
  injection h with h1 h2
  subst h1 h2
  rename_i hn
  exact if_neg (by rintro (e | e);exact absurd e (by decide);exact hn e)
theorem lF{xs y:List Int}{c:List Cl}(h:f8 xs=some (c,y)):bE xs false=(c,y,false):=by
 unfold f8 at h
 cases hn:cY xs with
 |none=>rw [hn] at h;cases h
 |some p =>
  obtain ⟨n,x⟩:=p;rw [hn] at h;simp only at h
  cases ht:fB (n / 2) x with
  |none=>rw [ht] at h;cases h
  |some q =>
   obtain ⟨f,z⟩:=q;rw [ht] at h;simp only at h
   split at h
   next hg =>
    injection h with h
    injection h with h1 h2
    subst h1 h2;unfold bE;rw [dW hn];simp only;rw [kT ht];simp only;rw [hg]
    rfl
   next=>cases h
theorem lG(e:Nat):∀ (f:Nat) (A B:List Cl) (xs y:List Int),gM e f A xs=some (B,y)->bP e f A xs false=(B,y,false)/\B.length=e:=by
 intro f
 induction f with
 |zero =>
  intro A B xs y h;have h:(if A.length=e then some (A,xs) else none)=some (B,y):=h
  split at h
  next he =>
   injection h with h
   injection h with h1 h2
   subst h1 h2;exact ⟨rfl,he⟩
  next=>cases h
 |succ f ih =>
  intro A B xs y h;unfold gM at h
  split at h
  next hl =>
   cases hc:f8 xs with
   |none=>rw [hc] at h;cases h
   |some p =>
    obtain ⟨c,x⟩:=p;rw [hc] at h;simp only at h;obtain ⟨i1,i2⟩:=ih _ _ _ _ h;refine ⟨?_,i2⟩;rw [fw e f A xs hl,lF hc];exact i1
  next hl =>
   split at h
   next he =>
    injection h with h
    injection h with h1 h2
    subst h1 h2;exact ⟨fu e (f+1) A xs false (fun hc=>hl hc.1),he⟩
   next=>cases h
theorem lH(wd:Nat):∀ (f:Nat) (A B:List Cl) (xs y:List Int),fk wd f A xs=some (B,y)->cj wd f A xs false=(B,y,false):=by
 intro f
 induction f with
 |zero =>
  intro A B xs y h;have h:(if A.length=wd then some (A,xs) else none)=some (B,y):=h
  split at h
  next he =>
   injection h with h
   injection h with h1 h2
   subst h1 h2
   rfl
  next=>cases h
 |succ f ih =>
  intro A B xs y h;unfold fk at h
  split at h
  next hl =>
   cases hn:cY xs with
   |none=>rw [hn] at h;cases h
   |some p =>
    obtain ⟨n,x⟩:=p;rw [hn] at h;simp only at h;unfold cj;rw [if_pos ⟨hl,rfl⟩,dW hn];simp only
    split at h
    next mH =>
     have hr:ep wd A n=true:=by
      unfold ep;rw [decide_eq_true mH.1,decide_eq_true mH.2]
      rfl
     rw [hr,if_neg (by decide)]
     split at h
     next hz =>
      rw [if_pos hz];exact ih _ _ _ _ h
     next hz =>
      rw [if_neg hz]
      cases hi:gM (A.length+n / 2) (n / 2) A x with
      |none=>rw [hi] at h;cases h
      |some q =>
       obtain ⟨C,z⟩:=q;rw [hi] at h;simp only at h;obtain ⟨i1,i2⟩:=lG _ _ _ _ _ _ hi;rw [i1];simp only;rw [decide_eq_true i2];exact ih _ _ _ _ h
    next=>cases h
  next hl =>
   injection h with h
   injection h with h1 h2
   subst h1 h2;exact fx wd (f+1) A xs false (fun hc=>hl hc.1)
theorem lI(wd:Nat):∀ (k:Nat) (A L:List Ln) (xs y:List Int),iB wd k A xs=some (L,y)->fV wd k A xs false=(L,y,false):=by
 intro k
 induction k with
 |zero =>
  intro A L xs y h;have h:some (A,xs)=some (L,y):=h
  injection h with h
  injection h with h1 h2
  subst h1 h2
  rfl
 |succ k ih =>
  intro A L xs y h;unfold iB at h
  cases ho:fZ xs with
  |none=>rw [ho] at h;cases h
  |some p =>
   obtain ⟨b,x⟩:=p;rw [ho] at h;simp only at h
   cases hc:fk wd wd [] x with
   |none=>rw [hc] at h;cases h
   |some q =>
    obtain ⟨C,z⟩:=q;rw [hc] at h;simp only at h;unfold fV;rw [if_neg (by decide),iw ho];simp only;rw [lH wd wd [] C x z hc];exact ih _ _ _ _ h
theorem kU{xs y:List Int}{v:Vw}(h:jf xs=some (v,y)):bC xs=(v,y,false):=by
 unfold jf at h
 cases h0:fZ xs with
 |none=>rw [h0] at h;cases h
 |some p0 =>
  obtain ⟨m,x0⟩:=p0;rw [h0] at h;simp only at h
  split at h
  next hm =>
   cases h1:cY x0 with
   |none=>rw [h1] at h;cases h
   |some p1 =>
    obtain ⟨w,x1⟩:=p1;rw [h1] at h;simp only at h
    cases h2:cY x1 with
    |none=>rw [h2] at h;cases h
    |some p2 =>
     obtain ⟨hh,x2⟩:=p2;rw [h2] at h;simp only at h
     cases h3:cY x2 with
     |none=>rw [h3] at h;cases h
     |some p3 =>
      obtain ⟨r,x3⟩:=p3;rw [h3] at h;simp only at h
      cases h4:cY x3 with
      |none=>rw [h4] at h;cases h
      |some p4 =>
       obtain ⟨c,x4⟩:=p4;rw [h4] at h;simp only at h
       cases h5:fZ x4 with
       |none=>rw [h5] at h;cases h
       |some p5 =>
        obtain ⟨f,x5⟩:=p5;rw [h5] at h;simp only at h
        split at h
        next hb =>
         cases h6:iB w hh [] x5 with
         |none=>rw [h6] at h;cases h
         |some p6 =>
          obtain ⟨L,x6⟩:=p6;rw [h6] at h;simp only at h
          injection h with h
          injection h with e1 e2
          subst e1 e2;have hd:gD xs=(w,hh,r,c,f,x5,false):=by
           unfold gD;simp only;rw [iw h0];simp only;rw [show (false || !(m == 76))=false from by rw [hm];decide,dW h1];simp only;rw [dW h2];simp only;rw [dW h3];simp only;rw [dW h4];simp only;rw [iw h5];simp only;rw [decide_eq_true hb.1,decide_eq_true hb.2]
           rfl
          unfold bC;simp only;rw [hd];simp only;rw [lI w hh [] L x5 x6 h6]
        next=>cases h
  next=>cases h
theorem j4{v:Vw}(h:aH v=true):bC (aS v)=(v,[],false):=kU (by have:=eb h [];rwa [List.append_nil] at this)
theorem fU(Z Y:an)(v:Vw)(lv lu:Value)(w:World)(hv:HeldE lineE Z w lv v.L)(hu:HeldE lineE Y w lu v.L):Calls Tryd.prog 24 #[aZ v lv,aZ v lu] w (Gives w (.bool true)):=by
 have pK:=aa (fun (w':World) (b:Below w.heap.size w w')=>show Calls Tryd.prog 13 #[lv,lu] w' (Gives w' (.bool true)) from by
  have:=iP _ _ lv lu v.L v.L w' (hv.below b) (hu.below b);rw [iO] at this;exact this)
 obtain ⟨lo,lc,rfl⟩:=hv.len;obtain ⟨mo,mc,rfl⟩:=hu.len;obtain ⟨nl,mA⟩:=ab (v.L.length);rw [<-mA] at pK ⊢;unfold aZ;obtain ⟨W1,hW1⟩:=ab (w.alloc (.cells [Value.int .i64 v.w,.int .i64 v.h,.slice lo nl lc,.int .i64 v.r,.int .i64 v.c,.bool v.pd,.bool v.au].toArray 44));have b1:Below w.heap.size w W1:=by rw [hW1];exact l7 _ _
 have l8:Has W1 w.heap.size [Value.int .i64 v.w,.int .i64 v.h,.slice lo nl lc,.int .i64 v.r,.int .i64 v.c,.bool v.pd,.bool v.au] 44:=by rw [hW1];exact Has.new w _ _
 have s1:W1.heap.size=w.heap.size+1:=by rw [hW1];exact Array.size_push _
 obtain ⟨W2,hW2⟩:=ab (W1.alloc (.cells [Value.int .i64 v.w,.int .i64 v.h,.slice mo nl mc,.int .i64 v.r,.int .i64 v.c,.bool v.pd,.bool v.au].toArray 44));have b2:Below W1.heap.size W1 W2:=by rw [hW2];exact l7 _ _
 have mQ:Has W2 W1.heap.size [Value.int .i64 v.w,.int .i64 v.h,.slice mo nl mc,.int .i64 v.r,.int .i64 v.c,.bool v.pd,.bool v.au] 44:=by rw [hW2];exact Has.new W1 _ _
 have l8:=l8.below b2 l8.lt;have mG:=aa hW1.symm;have rn:=aa hW2.symm;obtain ⟨ga,sF⟩:=ab (w.heap.size);obtain ⟨gb,hgb⟩:=ab (w.heap.size+1);rw [s1,<-hgb] at mQ;rw [<-sF] at l8;have HB:=aa (b1.trans (b2.mono (by omega)));have HC:=aa (pK.out W2 HB.out);have vk:=aa sF.symm;have HGB:=aa hgb.symm;have a0:=l8.cell 0 _ rfl;have a1:=l8.cell 1 _ rfl;have a2:=l8.cell 2 _ rfl;have a3:=l8.cell 3 _ rfl;have a4:=l8.cell 4 _ rfl;have a5:=l8.cell 5 _ rfl;have a6:=l8.cell 6 _ rfl;have c0:=mQ.cell 0 _ rfl;have c1:=mQ.cell 1 _ rfl;have c2:=mQ.cell 2 _ rfl;have c3:=mQ.cell 3 _ rfl;have c4:=mQ.cell 4 _ rfl;have c5:=mQ.cell 5 _ rfl;have c6:=mQ.cell 6 _ rfl;clear hW1 hW2 b1 b2 l8 mQ s1 sF hgb hv hu mA pK
 go_enter Tryd.func24,Tryd.ntmps24
 go_upto_region 1 with (fail)
 rw [mG.out,rn.out,HGB.out,vk.out]
 go_wp2_with fail
 refine HC.out.mono ?_;rintro e w3 ⟨rfl,b3⟩;have HF:=aa (HB.out.trans (b3.mono HB.out.size));clear b3;go_wp2;go_ret;exact ⟨ae,HF.out⟩
end Go.Proofs.YtechjomepdahiaaDoor
