import Derived.Test.YtechjomepdahiaaDoorZ0
import Derived.Test.YtechjomepdahiaaDoorAudF
import Derived.Test.YtechjomepdahiaaDoorMg2
import Derived.Test.YtechjomepdahiaaDoorMg3
set_option maxRecDepth 100000
set_option linter.unusedVariables false
set_option linter.unusedSimpArgs false
set_option maxHeartbeats 400000
namespace Go.Proofs.YtechjomepdahiaaDoor
open Go.RowKit Go.ChangeShapes Go.WideShapes
def aA(n:Nat):List Int:=if h:n<128 then [(n:Int)] else ((128+n % 128:Nat):Int) :: aA (n / 128)
termination_by n
decreasing_by omega
theorem ck{n:Nat}(h:n<128):aA n=[(n:Int)]:=by rw [aA,dif_pos h]
theorem dj{n:Nat}(h:128<=n):aA n=((128+n % 128:Nat):Int) :: aA (n / 128):=by rw [aA,dif_neg (by omega)]
theorem aD{n:Nat}(h:n<2097152):1<=(aA n).length/\(aA n).length<=3:=by
 by_cases h1:n<128
 ·rw [ck h1];simp
 ·rw [dj (by omega)]
  by_cases h2:n / 128<128
  ·rw [ck h2];simp
  ·rw [dj (by omega),ck (by omega)];simp
theorem bX(n:Nat):∀ x ∈ aA n,0<=x/\x<=255:=by
 induction n using Nat.strongRecOn with
 |_ n ih =>
  by_cases h1:n<128
  ·rw [ck h1];intro x hx;rw [List.mem_singleton.1 hx];omega
  ·rw [dj (by omega)];intro x hx
   rcases List.mem_cons.1 hx with rfl | hx
   ·omega
   ·exact ih (n / 128) (by omega) x hx
def blk(c:Cl):Bool:=c.1 == 0
def clB(c:Cl):List Int:=if c.2.length=0 then [] else aA (2 * (c.2.flatMap aj).length+(if c.1=2 then 1 else 0))++c.2.flatMap aj
def av(b:Bool):List Cl->Nat
 | []=>0
 | c :: l=>if blk c=b then av b l+1 else 0
theorem bY(b:Bool):∀ l:List Cl,av b l<=l.length
 |[]=>Nat.le_refl _
 |c :: l=>by
  unfold av;have:=bY b l
  split
  ·simp only [List.length_cons];omega
  ·exact Nat.zero_le _
def aF:List Cl->List Int
 | []=>[]
 | c :: l=>aA (2 * (av (blk c) l+1)+(if blk c=true then 0 else 1))++(clB c++(l.take (av (blk c) l)).flatMap clB)++aF (l.drop (av (blk c) l))
termination_by l=>l.length
decreasing_by simp only [List.length_drop,List.length_cons];omega
theorem bG:aF []=[]:=by rw [aF]
theorem b8(c:Cl)(l:List Cl):aF (c :: l)=aA (2 * (av (blk c) l+1)+(if blk c=true then 0 else 1))++(clB c++(l.take (av (blk c) l)).flatMap clB)++aF (l.drop (av (blk c) l)):=by rw [aF]
def lnB(l:Ln):List Int:=(if l.2=true then 1 else 0) :: aF l.1
def bQ(v:Vw):Int:=(if v.pd=true then 1 else 0)+(if v.au=true then 2 else 0)
def aS(v:Vw):List Int:=76 :: (aA v.w.toNat++aA v.h.toNat++aA v.r.toNat++aA v.c.toNat++[bQ v]++v.L.flatMap lnB)
abbrev Prs(α:Type):=List Int->Option (α × List Int)
def fZ:Prs Int
 | []=>none
 | b :: l=>some (b,l)
def fB(n:Nat):Prs (List Int):=fun xs=>if xs.length<n then none else some (xs.take n,xs.drop n)
def gI:Nat->Nat->Nat->Prs Nat
 |0,_,_=>fun _=>none
 |f+1,m,sh=>fun xs=>match fZ xs with
  | none=>none
  | some (b,x)=>if b<128 then some (m+b.toNat * sh,x) else gI f (m+(b.toNat - 128) * sh) (sh * 128) x
def cY:Prs Nat:=gI 3 0 1
theorem ki(f m sh:Nat)(b:Int)(x:List Int)(h:b<128):gI (f+1) m sh (b :: x)=some (m+b.toNat * sh,x):=if_pos h
theorem jw(f m sh:Nat)(b:Int)(x:List Int)(h:¬ b<128):gI (f+1) m sh (b :: x)=gI f (m+(b.toNat - 128) * sh) (sh * 128) x:=if_neg h
def bd:Nat->Nat
 | 0=>1
 | f+1=>bd f * 128
theorem gJ:∀ (f n m sh:Nat) (t:List Int),n<bd f->0<f->gI f m sh (aA n++t)=some (m+n * sh,t)
 |0,_,_,_,_=>fun _ h=>absurd h (Nat.lt_irrefl _)
 |f+1,n,m,sh,t=>fun h _=>by
  have h:n<bd f * 128:=h;obtain ⟨B,hB⟩:=ab (bd f);rw [<-hB] at h
  by_cases h1:n<128
  ·rw [ck h1,List.singleton_append,ki _ _ _ _ _ (by omega),Int.toNat_natCast]
  ·rw [dj (by omega),List.cons_append,jw _ _ _ _ _ (by omega),Int.toNat_natCast,Nat.add_sub_cancel_left];have hf:0<f:=by
    rcases Nat.eq_zero_or_pos f with e | e
    ·subst e;have:B=1:=hB;omega
    ·exact e
   have hq:n / 128<bd f:=by rw [<-hB];omega
   rw [gJ f (n / 128) _ _ t hq hf]
   congr 2
   rw [Nat.add_assoc]
   congr 1
   obtain ⟨q,qF⟩:=ab (n / 128);obtain ⟨r,hr1⟩:=ab (n % 128);have hn:n=r+q * 128:=by omega
   rw [<-qF,<-hr1,hn,Nat.add_mul,Nat.mul_assoc,Nat.mul_comm 128 sh]
theorem dK{n:Nat}(h:n<2097152)(t:List Int):cY (aA n++t)=some (n,t):=by
 unfold cY;rw [gJ 3 n 0 1 t (by show n<1 * 128 * 128 * 128;omega) (by decide)]
 simp
def gK(f:List Int):Nat:=((List.range (f.length+1)).find? fun k=>aK f k == f.length).getD 0
theorem f7{f:List Int}{K:Nat}(h:aK f K=f.length):gK f=K:=by
 unfold gK;have hK:K<f.length+1:=by have:=lp f K;omega
 cases hf:(List.range (f.length+1)).find? fun k=>aK f k == f.length with
 |none =>
  rw [List.find?_eq_none] at hf;exact absurd (by rw [beq_iff_eq];exact h) (hf K (List.mem_range.2 hK))
 |some k =>
  have:=List.find?_some hf;rw [beq_iff_eq] at this;exact ik f (this.trans h.symm)
def cZ(f:List Int):List Int:=dc f (gK f)
def gL(f:List Int):Bool:=!bh f (gK f)
def f8:Prs (List Cl):=fun xs=>match cY xs with
 |none=>none
 |some (n,x)=>match fB (n / 2) x with
  | none=>none
  | some (f,y)=>if gL f=true then some (if n % 2=1 then [(2,cZ f),(3,[])] else [(1,cZ f)],y) else none
def gM(e:Nat):Nat->List Cl->Prs (List Cl)
 | 0,A=>fun xs=>if A.length=e then some (A,xs) else none
 | f+1,A=>fun xs=>if A.length<e then (match f8 xs with
  | none=>none
  | some (c,x)=>gM e f (A++c) x) else if A.length=e then some (A,xs) else none
def fk(wd:Nat):Nat->List Cl->Prs (List Cl)
 | 0,A=>fun xs=>if A.length=wd then some (A,xs) else none
 | f+1,A=>fun xs=>if A.length<wd then (match cY xs with
  |none=>none
  |some (n,x)=>if 0<n / 2/\n / 2<=wd - A.length then (if n % 2=0 then fk wd f (A++List.replicate (n / 2) zc) x else (match gM (A.length+n / 2) (n / 2) A x with
   | none=>none
   | some (B,y)=>fk wd f B y)) else none) else some (A,xs)
def iB(wd:Nat):Nat->List Ln->Prs (List Ln)
 |0,A=>fun xs=>some (A,xs)
 |k+1,A=>fun xs=>match fZ xs with
  |none=>none
  |some (b,x)=>match fk wd wd [] x with
   | none=>none
   | some (C,y)=>iB wd k (A++[(C,decide (b=1))]) y
def jf:Prs Vw:=fun xs=>match fZ xs with
 |none=>none
 |some (m,x0)=>if m=76 then (match cY x0 with
  |none=>none
  |some (w,x1)=>match cY x1 with
   |none=>none
   |some (h,x2)=>match cY x2 with
    |none=>none
    |some (r,x3)=>match cY x3 with
     |none=>none
     |some (c,x4)=>match fZ x4 with
      |none=>none
      |some (f,x5)=>if w<=1024/\h<=1024 then (match iB w h [] x5 with
       | none=>none
       | some (L,x6)=>some (⟨w,h,L,r,c,decide (f.toNat % 2=1),decide (f.toNat / 2 % 2=1)⟩,x6)) else none) else none
theorem kj{c:Cl}(h:am c=true)(h0:0<c.2.length)(t:List Int):(c.1=1/\f8 (clB c++t)=some ([c],t))\/(c.1=2/\f8 (clB c++t)=some ([c,(3,[])],t)):=by
 obtain ⟨k,xs⟩:=c;simp only at h0;have hv:(k=1\/k=2)/\xs.length<=16/\∀ x ∈ xs,ai x=true:=by
  unfold am at h;simp only at h
  by_cases hk:(k == 0 || k == 3)=true
  ·rw [if_pos hk,beq_iff_eq] at h;omega
  ·rw [if_neg hk,Bool.and_eq_true,Bool.and_eq_true,Bool.and_eq_true,Bool.or_eq_true,beq_iff_eq,beq_iff_eq,decide_eq_true_eq,decide_eq_true_eq] at h;refine ⟨h.1.1.1,h.1.2,fun x hx=>?_⟩;have:=h.2;unfold aM at this;exact List.all_eq_true.1 this x hx
 obtain ⟨hk,hl,hx⟩:=hv;obtain ⟨F,hF⟩:=ab (xs.flatMap aj);have mD:F.length<=64:=by rw [hF];have:=du xs;omega
 obtain ⟨f1,f2,f3⟩:=iT xs hx;rw [<-hF] at f1 f2 f3;have he:=f7 f1;have hg:gL F=true:=by unfold gL;rw [he,f3];rfl
 have hr:cZ F=xs:=by unfold cZ;rw [he,f2]
 have hcb:clB (k,xs)=aA (2 * F.length+(if k=2 then 1 else 0))++F:=by
  unfold clB;simp only;rw [if_neg (by omega),<-hF]
 have uK:fB F.length (F++t)=some (F,t):=by
  unfold fB;rw [if_neg (by rw [List.length_append];omega),List.take_left',List.drop_left'] <;> rfl
 rcases hk with rfl | rfl
 ·refine .inl ⟨rfl,?_⟩;rw [hcb,if_neg (by decide),Nat.add_zero,List.append_assoc];unfold f8;rw [dK (by omega)];simp only;rw [show 2 * F.length / 2=F.length by omega,uK];simp only;rw [if_pos hg,if_neg (by omega),hr]
 ·refine .inr ⟨rfl,?_⟩;rw [hcb,if_pos rfl,List.append_assoc];unfold f8;rw [dK (by omega)];simp only;rw [show (2 * F.length+1) / 2=F.length by omega,uK];simp only;rw [if_pos hg,if_pos (by omega),hr]
theorem eK:∀ (f:Nat) (R A:List Cl) (t:List Int),R.length<=f->aI R=true->(∀ c ∈ R,blk c=false)->gM (A.length+R.length) f A (R.flatMap clB++t)=some (A++R,t)
 |0,R,A,t=>fun h _ _=>by
  have:R=[]:=List.eq_nil_of_length_eq_zero (by omega);subst this;show (if A.length=A.length+0 then some (A,t) else none)=_;rw [if_pos (Nat.add_zero _).symm,List.append_nil]
 |f+1,[],A,t=>fun _ _ _=>by
  show (if A.length<A.length+0 then _ else if A.length=A.length+0 then some (A,t) else none)=_;rw [if_neg (by omega),if_pos (Nat.add_zero _).symm,List.append_nil]
 |f+1,c :: R,A,t=>fun h hs hb=>by
  have hc:=hb c (List.mem_cons_self ..);have hsp:am c=true/\(c.1 == 3)=false/\aL (c.1 == 2) R=true:=by
   have:aL false (c :: R)=true:=hs;unfold aL at this;rw [Bool.and_eq_true,Bool.and_eq_true,beq_iff_eq] at this;exact ⟨this.1.1,this.1.2.symm,this.2⟩
  obtain ⟨h1,h3,h2⟩:=hsp;have h0:0<c.2.length:=by
   have hr:=h1;unfold am at hr;have hk:(c.1 == 0 || c.1 == 3)=false:=by rw [h3,Bool.or_false];exact hc
   rw [if_neg (by rw [hk];decide),Bool.and_eq_true,Bool.and_eq_true,Bool.and_eq_true,decide_eq_true_eq] at hr;exact hr.1.1.2
  rw [List.length_cons] at h;show (if A.length<A.length+(R.length+1) then (match f8 ((c :: R).flatMap clB++t) with
   |none=>none
   |some (c',x)=>gM (A.length+(c :: R).length) f (A++c') x) else _)=_
  rw [if_pos (by omega),List.flatMap_cons,List.append_assoc]
  rcases kj h1 h0 (R.flatMap clB++t) with ⟨hk,e⟩ | ⟨hk,e⟩
  ·rw [e];simp only;have h9:=eK f R (A++[c]) t (by omega) (by rw [hk] at h2;exact h2) (fun c' hc'=>hb c' (List.mem_cons_of_mem _ hc'));rw [List.length_append,List.length_singleton] at h9;rw [List.length_cons,show A.length+(R.length+1)=A.length+1+R.length by omega,h9,List.append_assoc]
   rfl
  ·rw [e];simp only;rw [hk] at h2
   cases R with
   |nil=>exact absurd h2 (by decide)
   |cons d R =>
    have hd:am d=true/\d.1=3/\aL false R=true:=by
     unfold aL at h2;rw [Bool.and_eq_true,Bool.and_eq_true,beq_iff_eq] at h2;have e3:d.1=3:=by
      have:=h2.1.2
      simpa using this
     refine ⟨h2.1.1,e3,?_⟩;have:=h2.2;rw [e3] at this;exact this
    obtain ⟨d1,d2,d3⟩:=hd;have vF:d=(3,[]):=by
     obtain ⟨dk,dx⟩:=d;simp only at d2;subst d2;unfold am at d1;have:dx.length=0:=by simpa using d1
     rw [List.eq_nil_of_length_eq_zero this]
    subst vF;have h9:=eK f R (A++[c,(3,[])]) t (by simp only [List.length_cons] at h;omega) d3 (fun c' hc'=>hb c' (List.mem_cons_of_mem _ (List.mem_cons_of_mem _ hc')));rw [List.length_append] at h9;rw [List.flatMap_cons,show clB ((3,[]):Cl)=[] from rfl,List.nil_append,show A.length+(c :: (3,[]) :: R).length=A.length+[c,((3,[]):Cl)].length+R.length by simp only [List.length_cons,List.length_nil];omega,h9,List.append_assoc]
    rfl
theorem fA(b:Bool):∀ (l:List Cl) (j:Nat),j<av b l->blk (l.getD j zc)=b
 |[],j=>fun h=>absurd h (Nat.not_lt_zero _)
 |c :: l,j=>fun h=>by
  unfold av at h
  split at h
  next hc =>
   cases j with
   | zero=>exact hc
   | succ j=>exact fA b l j (by omega)
  next=>exact absurd h (Nat.not_lt_zero _)
theorem eI(b:Bool):∀ (l:List Cl),av b l<l.length->blk (l.getD (av b l) zc)≠b
 |[]=>fun h=>absurd h (Nat.not_lt_zero _)
 |c :: l=>fun h=>by
  unfold av at h ⊢
  split at h
  next hc =>
   rw [if_pos hc];exact eI b l (by simp only [List.length_cons] at h;omega)
  next hc =>
   rw [if_neg hc];exact hc
theorem kg{c:Cl}(h:am c=true)(hb:blk c=true):c=zc:=by
 obtain ⟨k,x⟩:=c;have hk:k=0:=by unfold blk at hb;simpa using hb
 subst hk;unfold am at h;have:x.length=0:=by simpa using h
 rw [List.eq_nil_of_length_eq_zero this]
theorem ld(l:List Cl)(h:∀ j,j<l.length->l.getD j zc=zc):l=List.replicate l.length zc :=
 kP zc (by simp) (fun i hi=>by rw [h i hi,j0])
theorem ju(c:Cl)(l:List Cl)(hs:aI (c :: l)=true):aI (c :: l.take (av (blk c) l))=true/\aI (l.drop (av (blk c) l))=true/\(∀ d ∈ c :: l.take (av (blk c) l),blk d=blk c)/\(blk c=true->c :: l.take (av (blk c) l)=List.replicate (av (blk c) l+1) zc):=by
 obtain ⟨k,hk⟩:=ab (av (blk c) l);have hle:=bY (blk c) l;have mS:=fA (blk c) l;have hend:=eI (blk c) l;rw [<-hk] at hle mS hend ⊢;have hp:=(dE (c :: l)).1 hs;have h3:((c :: l).getD (k+1) zc).1≠3:=by
  intro h3
  rcases Nat.lt_or_ge k l.length with hl | hl
  ·have hl2:k+1<(c :: l).length:=by simp only [List.length_cons];omega
   obtain ⟨_,_,h4⟩:=hp (k+1) hl2;obtain ⟨_,h5⟩:=h4 h3;rw [Nat.add_sub_cancel] at h5;have e:=hend hl;have wJ:(l.getD k zc).1=3:=h3;have hb1:blk (l.getD k zc)=false:=by unfold blk;rw [wJ];rfl
   rw [hb1] at e;have uA:blk c=true:=by
    cases h:blk c with
    | true=>rfl
    | false=>exact absurd h.symm e
   have hb2:blk ((c :: l).getD k zc)=blk c:=by
    cases k with
    | zero=>rfl
    | succ j=>exact mS j (by omega)
   rw [uA] at hb2;unfold blk at hb2;rw [h5] at hb2;exact absurd hb2 (by decide)
  ·have:(c :: l).getD (k+1) zc=zc:=by
    show l.getD k zc=zc;rw [List.getD_eq_getElem?_getD,List.getElem?_eq_none hl];rfl
   rw [this] at h3;exact absurd h3 (by decide)
 have hc2:=jX hs (k+1) h3;have hall:∀ d ∈ c :: l.take k,blk d=blk c:=fun d hd=>by
  rcases List.mem_cons.1 hd with rfl | hd
  ·rfl
  ·obtain ⟨j,hj,rfl⟩:=List.getElem_of_mem hd;rw [List.length_take] at hj;have:=mS j (by omega);rw [show l.getD j zc=l[j]'(by omega) from by simp [List.getD,List.getElem?_eq_getElem (show j<l.length by omega)]] at this;rw [List.getElem_take];exact this
 refine ⟨hc2.1,hc2.2,hall,fun hb=>?_⟩;have hlen:(c :: l.take k).length=k+1:=by simp only [List.length_cons,List.length_take];omega
 have:=ld (c :: l.take k) (fun j hj=>by
  have hm:(c :: l.take k).getD j zc ∈ c :: l.take k:=by
   rw [show (c :: l.take k).getD j zc=(c :: l.take k)[j] from by simp [List.getD,List.getElem?_eq_getElem hj]];exact List.getElem_mem hj
  have hrt:=((dE (c :: l.take k)).1 hc2.1 j hj).1;exact kg hrt (by rw [hall _ hm,hb]))
 rw [hlen] at this;exact this
theorem iz(n:Nat):(List.replicate n zc).flatMap clB=[]:=by
 induction n with
 | zero=>rfl
 | succ n ih=>rw [List.replicate_succ,List.flatMap_cons,ih];rfl
theorem eJ(wd:Nat)(hw:wd<=1024):∀ (f:Nat) (L A:List Cl) (t:List Int),L.length<=f->A.length+L.length=wd->aI L=true->fk wd f A (aF L++t)=some (A++L,t)
 |0,L,A,t=>fun h he _=>by
  have:L=[]:=List.eq_nil_of_length_eq_zero (by omega);subst this;rw [bG];show (if A.length=wd then some (A,t) else none)=_;rw [if_pos (by simpa using he),List.append_nil]
 |f+1,[],A,t=>fun _ he _=>by
  rw [bG];show (if A.length<wd then _ else some (A,t))=_;rw [if_neg (by simp only [List.length_nil] at he;omega),List.append_nil]
 |f+1,c :: l,A,t=>fun h he hs=>by
  obtain ⟨p1,p2,p3,p4⟩:=ju c l hs;have hle:=bY (blk c) l;rw [b8];obtain ⟨k,hk⟩:=ab (av (blk c) l);rw [<-hk] at p1 p2 p3 p4 hle ⊢;simp only [List.length_cons] at h he;have mD:(if blk c=true then 0 else 1)<=1:=by split <;> omega
  obtain ⟨fl,hf⟩ : ∃ fl:Nat,fl=(if blk c=true then 0 else 1):=⟨_,rfl⟩;rw [<-hf] at mD ⊢;have hrest:(clB c++(l.take k).flatMap clB)=(c :: l.take k).flatMap clB:=rfl;rw [hrest,List.append_assoc,List.append_assoc];show (if A.length<wd then (match cY (aA (2 * (k+1)+fl)++((c :: l.take k).flatMap clB++(aF (l.drop k)++t))) with
   |none=>none
   |some (n,x)=>if 0<n / 2/\n / 2<=wd - A.length then (if n % 2=0 then fk wd f (A++List.replicate (n / 2) zc) x else (match gM (A.length+n / 2) (n / 2) A x with
    | none=>none
    | some (B,y)=>fk wd f B y)) else none) else some (A,_))=_
  rw [if_pos (by omega),dK (by omega)];simp only;have r8:(2 * (k+1)+fl) / 2=k+1:=by omega
  rw [r8,if_pos ⟨by omega,by omega⟩];have hdr:(l.drop k).length<=f:=by rw [List.length_drop];omega
  have hlt:(c :: l.take k).length=k+1:=by simp only [List.length_cons,List.length_take];omega
  have hcat:A++(c :: l.take k)++l.drop k=A++c :: l:=by rw [List.append_assoc,List.cons_append,List.take_append_drop]
  cases hb:blk c with
  |true =>
   rw [hb] at hf;rw [if_pos rfl] at hf;rw [if_pos (by omega),p4 hb,iz,List.nil_append];rw [eJ wd hw f (l.drop k) (A++List.replicate (k+1) zc) t hdr (by rw [List.length_append,List.length_replicate,List.length_drop];omega) p2,<-p4 hb,hcat]
  |false =>
   rw [hb] at hf;rw [if_neg (by decide)] at hf;rw [if_neg (by omega)];have hi:=eK (k+1) (c :: l.take k) A (aF (l.drop k)++t) (by omega) p1 (fun d hd=>by rw [p3 d hd,hb]);rw [hlt] at hi;rw [hi];simp only;rw [eJ wd hw f (l.drop k) (A++(c :: l.take k)) t hdr (by rw [List.length_append,hlt,List.length_drop];omega) p2,hcat]
theorem gH(wd:Nat)(hw:wd<=1024):∀ (Ls A:List Ln) (t:List Int),(∀ l ∈ Ls,l.1.length=wd/\aI l.1=true)->iB wd Ls.length A (Ls.flatMap lnB++t)=some (A++Ls,t)
 |[],A,t=>fun _=>by rw [List.append_nil];rfl
 |l :: Ls,A,t=>fun h=>by
  obtain ⟨h1,h2⟩:=h l (List.mem_cons_self ..);rw [List.flatMap_cons,List.append_assoc];unfold lnB;rw [List.cons_append];show (match fk wd wd [] (aF l.1++(Ls.flatMap _++t)) with
   | none=>none
   | some (C,y)=>iB wd Ls.length (A++[(C,decide ((if l.2=true then (1:Int) else 0)=1))]) y)=_
  rw [eJ wd hw wd l.1 [] _ (by omega) (by simp [h1]) h2];simp only [List.nil_append];have e:decide ((if l.2=true then (1:Int) else 0)=1)=l.2:=by cases l.2 <;> rfl
  rw [e];have:=gH wd hw Ls (A++[(l.1,l.2)]) t (fun l' hl'=>h l' (List.mem_cons_of_mem _ hl'));rw [List.append_assoc] at this;exact this
theorem iA(pd au:Bool):decide (((if pd=true then (1:Int) else 0)+(if au=true then 2 else 0)).toNat % 2=1)=pd/\decide (((if pd=true then (1:Int) else 0)+(if au=true then 2 else 0)).toNat / 2 % 2=1)=au:=by
 cases pd <;> cases au <;> decide
theorem eb{v:Vw}(h:aH v=true)(t:List Int):jf (aS v++t)=some (v,t):=by
 rw [eL] at h;simp only [Bool.and_eq_true,beq_iff_eq] at h;obtain ⟨⟨⟨⟨h1,h2⟩,h3⟩,h4⟩,h5⟩:=h;obtain ⟨vw,vh,Ls,r,c,pd,au⟩:=v;simp only at h1 h2 h3 h4 h5;unfold aB at h1 h2;simp only [Bool.and_eq_true,decide_eq_true_eq] at h1 h2;have qA:0<=r/\r<vh/\0<=c/\c<vw:=by
  unfold ap aE at h4;simp only [Bool.and_eq_true,Bool.or_eq_true,decide_eq_true_eq] at h4
  first | omega | (obtain ⟨⟨⟨⟨a1,a2⟩,a3⟩,a4⟩,_⟩:=h4;omega)
 have hlin:∀ l ∈ Ls,l.1.length=vw.toNat/\aI l.1=true:=fun l hl=>by
  obtain ⟨i,hi,rfl⟩:=List.getElem_of_mem hl;have:=List.all_eq_true.1 h5 i (List.mem_range.2 hi);rw [show Ls.getD i zl=Ls[i] from by simp [List.getD,List.getElem?_eq_getElem hi]] at this;unfold cq at this;rw [Bool.and_eq_true,decide_eq_true_eq] at this;exact ⟨by omega,this.2⟩
 have hR:=gH vw.toNat (by omega) Ls [] t hlin;rw [List.nil_append] at hR;obtain ⟨W,hW⟩:=ab (vw.toNat);obtain ⟨R,hRr⟩:=ab (r.toNat);obtain ⟨C,hC⟩:=ab (c.toNat);have hH:vh.toNat=Ls.length:=by omega
 unfold aS;simp only;rw [<-hW] at hR;rw [<-hW,<-hRr,<-hC,hH];obtain ⟨X,hX⟩:=ab (Ls.flatMap lnB);rw [<-hX] at hR ⊢;have mD:decide ((bQ ⟨vw,vh,Ls,r,c,pd,au⟩).toNat % 2=1)=pd/\decide ((bQ ⟨vw,vh,Ls,r,c,pd,au⟩).toNat / 2 % 2=1)=au:=by
  exact iA pd au
 obtain ⟨F,hF⟩:=ab (bQ ⟨vw,vh,Ls,r,c,pd,au⟩);rw [<-hF] at mD ⊢;have rd:∀ (n:Nat) (x:List Int),n<2097152->cY (aA n++x)=some (n,x):=fun n x h=>dK h x
 simp only [List.cons_append,List.append_assoc,List.nil_append];unfold jf fZ;simp only;rw [if_pos trivial,rd _ _ (by omega)];simp only;rw [rd _ _ (by omega)];simp only;rw [rd _ _ (by omega)];simp only;rw [rd _ _ (by omega)];simp only;rw [if_pos ⟨by omega,by omega⟩,hR];simp only;rw [mD.1,mD.2]
 congr 2
 simp only [Vw.mk.injEq,and_true,true_and];refine ⟨by omega,by omega,by omega,by omega⟩
theorem kh{v u:Vw}(hv:aH v=true)(hu:aH u=true)(s t:List Int)(h:aS v++s=aS u++t):v=u/\s=t:=by
 have h1:=eb hv s;have h2:=eb hu t;rw [h,h2] at h1;simp only [Option.some.injEq,Prod.mk.injEq] at h1;exact ⟨h1.1.symm,h1.2.symm⟩
end Go.Proofs.YtechjomepdahiaaDoor
