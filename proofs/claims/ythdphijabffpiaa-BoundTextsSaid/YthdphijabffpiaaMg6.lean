import Derived.Test.YthdphijabffpiaaZ0
import Derived.Test.YthdphijabffpiaaGaugeC
import Derived.Test.YthdphijabffpiaaMg1
import Derived.Test.YthdphijabffpiaaMg5
import Derived.Test.YthdphijabffpiaaGraI
import Derived.Laws.Cover4
import Derived.Test.YthdphijabffpiaaCluN
import Derived.Lib.MinMax
import Derived.Deep.Cut
set_option maxRecDepth 100000
set_option linter.unusedVariables false
set_option linter.unusedSimpArgs false
set_option maxHeartbeats 3000000
namespace Go.Proofs.Ythdphijabffpiaa
open Go.RowKit Go.ChangeShapes Go.WideShapes
def cN(ps:List Pr):Nat->Bool
 | 0=>false
 | k+1=>(ps.getD k Pr.none).pc
def gr(xs:List Int)(ps:List Pr)(i:Nat):Bool:=dF (decide (0<i)) (cN ps i) (xs.getD i 0) (ps.getD i Pr.none).br (ps.getD i Pr.none).pc (ps.getD i Pr.none).ea
def eo(xs:List Int)(ps:List Pr):Nat->Bool
 | 0=>false
 | k+1=>eo xs ps k || gr xs ps k
def eA(xs:List Int)(ps:List Pr)(n:Nat):Int:=if eo xs ps n=true then 2 else 1
theorem ez{xs:List Int}(k:Nat)(hk:k<xs.length):cN (ai xs) (k+1)=av tPict (xs.getD k 0):=by
 show ((ai xs).getD k Pr.none).pc=_;rw [bR hk]
 rfl
theorem gp(xs:List Int)(ps:List Pr)(k:Nat):(if eo xs ps k=true then (2:Int) else 1)=eA xs ps k:=rfl
theorem gq(v:Value)(xs:List Int)(w:World)(hx:Held .i32 w v xs)(hn:xs.length<=1000000) :
  Calls Try.prog 21 #[v] w (Gives w (.int .i64 (eA xs (ai xs) xs.length))):=by
 obtain ⟨ao,ca,rfl,hc⟩:=hx.view;have HC:=aa hc;clear hc hx
 go_enter Try.func21,Try.ntmps21
 go_wp2
 go_loopw [3,9] (fun wd i wr=>∃ k:Nat,k<=xs.length/\i=.int .i64 k/\wd=.int .i64 (eA xs (ai xs) k)/\aZ wr w.heap.size (decide (0<k)) (cN (ai xs) k) (eo xs (ai xs) k)/\Below w.heap.size w wr) (fun _ i _=>xs.length - (intOf i).toNat)
 case atStart=>exact ⟨0,Nat.zero_le _,rfl,rfl,Has.new w _ _,iF _ _⟩
 case round =>
  obtain ⟨k,hk,rfl,rfl,hg,iN⟩:=hrel
  by_cases hlt:k<xs.length
  ·obtain ⟨b,off,rfl,hb,kt⟩:=HC.out k hlt;have kt:=(iN.cell (p:=⟨b,off+k,none⟩) hb).trans kt;have hst:=fun w' (h:aZ w' w.heap.size (decide (0<k)) (cN (ai xs) k) (eo xs (ai xs) k))=>fL w.heap.size _ _ _ (xs.getD k 0) ((ai xs).getD k Pr.none).br ((ai xs).getD k Pr.none).pc ((ai xs).getD k Pr.none).cv ((ai xs).getD k Pr.none).ea w' h
   rw [bR hlt] at hst;have hnext:(eo xs (ai xs) k || dF (decide (0<k)) (cN (ai xs) k) (xs.getD k 0) (aG (xs.getD k 0)).br (aG (xs.getD k 0)).pc (aG (xs.getD k 0)).ea)=eo xs (ai xs) (k+1):=by
    show _=(eo xs (ai xs) k || gr xs (ai xs) k);unfold gr;rw [bR hlt]
   rw [hnext] at hst;have jW:=ez (xs:=xs) k hlt;rw [show (aG (xs.getD k 0)).pc=cN (ai xs) (k+1) from jW.symm] at hst;obtain ⟨pic',hp'⟩:=ab (cN (ai xs) (k+1));have HST:=aa hst;have HP:=aa jW;have HG:=aa hg;clear hst hnext jW hg hp';obtain ⟨r,hr⟩:=ab (xs.getD k 0);rw [<-hr] at kt HST HP;clear hr
   go_wp2_with fail
   refine (c6 r _).mono ?_;rintro e w1 ⟨rfl,b1⟩;rw [show dx r=.agg #[.int .i64 (aG r).br,.bool (cN (ai xs) (k+1)),.int .i64 (aG r).cv,.int .i64 (aG r).ea] by rw [HP.out];rfl];have hg1:aZ w1 w.heap.size _ _ _:=Has.below HG.out b1 (Has.lt HG.out);have hb1:=iN.trans (b1.mono iN.size);have HG1:=aa hg1;clear hg1 kt
   go_wp2_with fail
   refine (HST.out _ HG1.out).mono ?_;rintro e w2 ⟨rfl,hg2,jA⟩;have hb2:=hb1.trans (jA.below hb1.size (Nat.le_refl _));rw [gp];have hg3:aZ w2 w.heap.size (decide (0<k+1)) (cN (ai xs) (k+1)) (eo xs (ai xs) (k+1)):=by rw [decide_eq_true (show 0<k+1 by omega)];exact hg2
   clear hg2 jA;go_wp2
   go_roundw
   case rel=>exact ⟨k+1,by omega,by go_num,rfl,hg3,hb2⟩
   case measure=>simp [intOf] <;> omega
  ·obtain rfl:k=xs.length:=by omega
   go_wp2;go_ret;exact ⟨ae,iN⟩
section
attribute [local go_sem] Oper.semAt_some
section
variable {P : Program} {F : Fence} {nf : Nat} {α : Type} {E : Elem α} {Z : aE} {w : World} {v u : Value} {L M : List α} {B : Nat} {ty : TypeId}
end
def gD(xs:List Int)(w:World)(e:Ending)(w':World):Prop:=∃ B v,e=.returned (.func (.func 17) #[] #[.pointer (some ⟨B,0,none⟩)])/\w'.cell? ⟨B,0,none⟩=some v/\Held .i32 w' v xs/\Below w.heap.size w w'/\w.heap.size<=B
theorem eM(v:Value)(xs:List Int)(w:World)(hx:Held .i32 w v xs)(hn:xs.length<=1000000):Calls Try.prog 10 #[v] w (gD xs w):=by
 obtain ⟨ao,ca,rfl⟩:=hx.len;have HC:=aa (cD _ xs w hx (by omega));clear hx
 go_enter Try.func10,Try.ntmps10
 go_wp2_with fail
 refine HC.out.mono ?_;rintro e w1 ⟨v1,rfl,jL,b1⟩;have hh:=cL jL;obtain ⟨a1,c1,rfl⟩:=hh.len;have HH:=aa (hh.below ((Below.refl _ w1).alloc (Nat.le_refl _) (.cells #[.slice a1 xs.length c1] 22)));have HB:=aa (b1.alloc b1.size (.cells #[.slice a1 xs.length c1] 22));have HN:=aa (show (w1.alloc (.cells #[.slice a1 xs.length c1] 22)).cell? ⟨w1.heap.size,0,none⟩=some (.slice a1 xs.length c1) from (Has.new w1 [.slice a1 xs.length c1] 22).cell 0 _ rfl);have HS:=aa b1.size;clear jL b1 hh HC;go_wp2;go_ret;exact ⟨_,_,rfl,HN.out,HH.out,HB.out,HS.out⟩
end
section
attribute [local go_sem] Oper.semAt_some
theorem hH(xs:List Int):(clS xs).length<=xs.length:=by
 unfold clS;rw [bh _ (a8 _)];exact cG _ _
def bJ(xs:List Int)(pre:List Cu):List (List Int):=pre.map fun x=>aB xs x.p
def aL(xs:List Int):List (List Int):=(clS xs).map (aB xs)
theorem _root_.Go.Proofs.Ythdphijabffpiaa.HeldE.zoned{α:Type}{E:Elem α}{Z Y:aE}{w:World}{v:Value}{L:List α}(h:HeldE E Z w v L)(hy:∀ b,b<w.heap.size->Z b->Y b):HeldE E Y w v L:=h.zone hy
theorem eL{xs:List Int}{pre:List Cu}(h:pre.map Cu.p=clS xs):bJ xs pre=aL xs:=by
 unfold bJ aL;rw [<-h,List.map_map]
 rfl
theorem XCu.held{xs:List Int}{lo hi:Nat}{x:Cu}{W:World}(h:XCu xs lo hi x W):Held .i32 W x.v (aB xs x.p):=by
 obtain ⟨g,hv,h1,h2,h3,h4,h5,h6⟩:=h;have hl:=bw xs x.p (Nat.le_of_lt h4) h5;rw [hv,<-hl];refine en h3 fun i hi=>?_
 rw [hl] at hi;rw [h6 _ (by omega)]
 congr 2
 unfold aB
 simp [List.getD,List.getElem?_take,hi,List.getElem?_drop]
theorem XCu.upd{xs:List Int}{lo hi:Nat}{x:Cu}{W W':World}{S:aE}(h:XCu xs lo hi x W)(hu:Upd S W W')(hs:∀ b,lo<=b->b<hi->¬ S b):XCu xs lo hi x W':=by
 obtain ⟨g,hv,h1,h2,h3,h4,h5,h6⟩:=h;exact ⟨g,hv,h1,h2,Nat.lt_of_lt_of_le h3 hu.size,h4,h5,fun i hi=>(hu.keep.cell h3 (hs g h1 h2)).trans (h6 i hi)⟩
end
theorem fQ(xs:List Int)(i:Nat)(h:i<(clS xs).length):(aL xs).take (i+1)=(aL xs).take i++[aB xs ((clS xs).getD i (0,0))]:=by
 unfold aL;rw [List.take_succ_eq_append_getElem (by rw [List.length_map];exact h),List.getElem_map]
 simp [List.getD,List.getElem?_eq_getElem h]
theorem eK(xs:List Int):(aL xs).length=(ar (jR (ai xs)) xs.length).length:=by
 unfold aL;rw [List.length_map];exact bh _ (a8 _) _
theorem fY{xs:List Int}(hp:∀ x ∈ xs,(Lit.int .i32 x).wf=true):bT xs:=by
 intro i hi;have hm:xs.getD i 0 ∈ xs:=by simp [List.getD,List.getElem?_eq_getElem hi]
 have hw:=hp _ hm
 simp [Lit.wf] at hw
 exact hw
theorem fZ{H:Type}{enc:TypeId × Value->H}{W:World}{base:Nat}{v:Value}{d:DataW H}{p:List MemPlace}(hv:Value.okWide Try.prog W .any base 22 v)(h:DataW.Trod enc Try.prog W 0 (fun _=>true) true 22 v d p):∃ L,HeldE (dG .i32) (fun b=>b<W.heap.size) W v L/\bT L:=by
 obtain ⟨L,hL,hk⟩:=f6 (E:=dG .i32) Try.underlying22 (by kernel_rfl) (by decide) (f5 Try.underlying21 (by kernel_rfl)) hv h;exact ⟨L,hL,fY hk⟩
theorem eX(j:Nat->Bool)(h0:j 0=false)(n:Nat)(h:0<n):(ar j n).getD 0 0=0:=by
 have:0 ∈ ar j n:=startB_mem.2 ⟨h,h0⟩;unfold ar;obtain ⟨m,rfl⟩ : ∃ m,n=m+1:=⟨n - 1,by omega⟩;rw [List.range_succ_eq_map,List.filter_cons_of_pos (by rw [h0];rfl)]
 rfl
def aF(xs:List Int)(k:Nat):Nat:=(ar (jR (ai xs)) xs.length++[xs.length]).getD k 0
theorem dd(xs:List Int):aF xs 0=0:=by
 unfold aF
 rcases Nat.eq_zero_or_pos xs.length with h | h
 ·rw [h];rfl
 ·have h1:=eX (jR (ai xs)) (a8 _) xs.length h;have hne:0<(ar (jR (ai xs)) xs.length).length:=List.length_pos_of_mem (startB_mem.2 ⟨h,a8 _⟩);rw [List.getD,List.getElem?_append_left hne];exact h1
theorem cc(xs:List Int)(k:Nat)(h:k<(clS xs).length):(clS xs).getD k (0,0)=(aF xs k,aF xs (k+1)) :=
 d9 (jR (ai xs)) (a8 _) xs.length k (by rw [<-bh _ (a8 _)];exact h)
theorem dO(xs:List Int)(k:Nat)(h:k<(clS xs).length):aF xs k<aF xs (k+1)/\aF xs (k+1)<=xs.length:=by
 have hm:(clS xs).getD k (0,0) ∈ clS xs:=by
  rw [List.getD,List.getElem?_eq_getElem h];exact List.getElem_mem _
 have:=eb _ _ _ hm;rw [cc xs k h] at this;exact this
theorem de(xs:List Int):aF xs (clS xs).length=xs.length:=by
 unfold aF;have:(clS xs).length=(ar (jR (ai xs)) xs.length).length:=bh _ (a8 _) _;rw [this,List.getD,List.getElem?_append_right (Nat.le_refl _),Nat.sub_self]
 rfl
theorem ei(xs:List Int):∀ k,k<=(clS xs).length->(((clS xs).take k).map (aB xs)).flatten=xs.take (aF xs k)
 |0,_=>by rw [dd];simp
 |k+1,h=>by
  have ih:=ei xs k (by omega);rw [List.take_succ_eq_append_getElem (by omega),List.map_append,List.flatten_append,ih];have e:(clS xs)[k]'(by omega)=(aF xs k,aF xs (k+1)):=by
   rw [<-cc xs k (by omega)]
   simp [List.getD,List.getElem?_eq_getElem (show k<(clS xs).length by omega)]
  simp only [List.map_cons,List.map_nil,List.flatten_cons,List.flatten_nil,List.append_nil];rw [e];exact eS xs _ _ (Nat.le_of_lt (dO xs k (by omega)).1)
theorem hP(xs:List Int)(k:Nat)(h:k<=(clS xs).length):aF xs k<=xs.length:=by
 rcases Nat.eq_zero_or_pos k with e | e
 ·rw [e,dd];exact Nat.zero_le _
 ·obtain ⟨m,rfl⟩ : ∃ m,k=m+1:=⟨k - 1,by omega⟩;exact (dO xs m (by omega)).2
theorem hX{xs:List Int}{pre:List Cu}{x:Cu}(h:(pre++[x]).map Cu.p <+: clS xs):pre.length<(clS xs).length/\x.p=(aF xs pre.length,aF xs (pre.length+1))/\pre.map Cu.p=(clS xs).take pre.length:=by
 have hl:=h.length_le;rw [List.length_map,List.length_append,List.length_singleton] at hl;have ht:=List.prefix_iff_eq_take.1 h;rw [List.length_map,List.length_append,List.length_singleton,List.map_append] at ht;have h1:(pre.map Cu.p++[x.p]).take pre.length=((clS xs).take (pre.length+1)).take pre.length:=by rw [<-ht];rfl
 have h2:(pre.map Cu.p++[x.p]).getD pre.length (0,0)=((clS xs).take (pre.length+1)).getD pre.length (0,0):=by rw [<-ht];rfl
 rw [List.take_take,List.take_left' (by simp),Nat.min_eq_left (by omega)] at h1;refine ⟨by omega,?_,h1⟩;rw [List.getD,List.getElem?_append_right (by simp)] at h2;simp only [List.length_map,Nat.sub_self,List.getElem?_cons_zero,Option.getD_some] at h2;rw [h2];have e:((clS xs).take (pre.length+1)).getD pre.length (0,0)=(clS xs).getD pre.length (0,0):=by simp [List.getD,List.getElem?_take]
 rw [e,cc xs _ (by omega)]
def dR(A B:List (Int × Int)):Bool:=A.all fun p=>B.all fun q=>decide (p.2<q.1) || decide (q.2<p.1)
theorem cz{A B:List (Int × Int)}(h:dR A B=true){r:Int}(ha:av A r=true):av B r=false:=by
 cases hb:av B r with
 |false=>rfl
 |true =>
  obtain ⟨p,hp,h1⟩:=List.any_eq_true.1 ha;obtain ⟨q,hq,h2⟩:=List.any_eq_true.1 hb;have h3:=List.all_eq_true.1 (List.all_eq_true.1 h p hp) q hq
  simp at h1 h2 h3
  omega
theorem ga:dR tControl tPict=true:=by decide +kernel
theorem gb:dR tControl tCons=true:=by decide +kernel
theorem gc:dR tControl tLink=true:=by decide +kernel
theorem gd:dR tControl tJoin=true:=by decide +kernel
theorem fx(r:Int):aR r=0\/9<=aR r:=by
 unfold aR
 repeat' split
 all_goals omega
theorem fy{r:Int}(h:1<=bb r/\bb r<=3):av tPict r=false/\bd r=0:=by
 have hc:r=13\/r=10\/av tControl r=true:=by
  by_cases h1:r=13
  ·exact .inl h1
  by_cases h2:r=10
  ·exact .inr (.inl h2)
  right;right
  cases hi:av tControl r with
  |true=>rfl
  |false =>
   exfalso;unfold bb ay at h;rw [if_neg h1,if_neg h2,hi] at h;simp only [Bool.false_eq_true,if_false] at h;have iI:=fx r
   repeat' split at h
   all_goals omega
 rcases hc with rfl | rfl | hc
 ·exact ⟨by decide +kernel,by decide +kernel⟩
 ·exact ⟨by decide +kernel,by decide +kernel⟩
 ·refine ⟨cz ga hc,?_⟩;unfold bd;rw [cz gb hc,cz gc hc,cz gd hc]
  rfl
theorem ek{xs ys:List Pr}:∀ k,(∀ i,i<k->xs.getD i Pr.none=ys.getD i Pr.none)->cSt xs k=cSt ys k/\pSt xs k=pSt ys k/\oSt xs k=oSt ys k/\lSt xs k=lSt ys k
 |0,_=>⟨rfl,rfl,rfl,rfl⟩
 |k+1,h=>by
  obtain ⟨h1,h2,h3,_⟩:=ek k fun i hi=>h i (by omega)
  have h5:=h k (by omega);simp only [cSt,pSt,oSt,lSt];rw [h1,h2,h3,h5];exact ⟨rfl,rfl,rfl,rfl⟩
theorem fa{xs ys:List Pr}(k:Nat)(h:∀ i,i<k+1->xs.getD i Pr.none=ys.getD i Pr.none):jR xs k=jR ys k:=by
 obtain ⟨h1,h2,h3,h4⟩:=ek k fun i hi=>h i (by omega)
 rw [dL,dL,h1,h2,h3,h4,h k (by omega)]
theorem cI(a b:List Int)(i:Nat)(h:i<a.length):(ai (a++b)).getD i Pr.none=(ai a).getD i Pr.none:=by
 unfold ai;rw [List.map_append]
 simp [List.getD,List.getElem?_append_left (show i<(a.map aG).length by simpa using h)]
theorem cp(a b:List Int)(i:Nat):(ai (a++b)).getD (a.length+i) Pr.none=(ai b).getD i Pr.none:=by
 unfold ai;rw [List.map_append,List.getD,List.getElem?_append_right (by simp)]
 simp [List.getD]
def wdC(T:List Int):Int:=if cF (T.getD 0 0)=true then 0 else eA (T.take 16) (ai (T.take 16)) (T.take 16).length
theorem gZ(xs:List Int)(ps:List Pr)(n:Nat):eA xs ps n=1\/eA xs ps n=2:=by unfold eA;split <;> simp
theorem cZ(T:List Int):(cF (T.getD 0 0)=true/\wdC T=0)\/(cF (T.getD 0 0)=false/\1<=wdC T/\wdC T<=2):=by
 unfold wdC
 cases h:cF (T.getD 0 0) with
 |true=>exact .inl ⟨rfl,by simp⟩
 |false =>
  right
  refine ⟨rfl,?_⟩;rw [if_neg (by simp)]
  rcases gZ (T.take 16) (ai (T.take 16)) (T.take 16).length with h | h <;> omega
theorem fd(v:Value)(xs:List Int)(w:World)(hv:Held .i32 w v xs)(hl:xs.length<=1000000000):Calls Try.prog 22 #[v] w (em 21 .i32 w (xs.take 16)):=by
 obtain ⟨ao,ca,rfl⟩:=hv.len;have HO:=aa (fH _ xs w hv hl);have HL:=aa (show (xs.take 16).length<=16 by rw [List.length_take];omega);clear hv
 go_enter Try.func22,Try.ntmps22
 go_wp2_with fail
 refine HO.out.mono ?_;rintro e w1 ⟨rfl,b1⟩;obtain ⟨T,hT⟩:=ab (xs.take 16);rw [<-hT] at HL ⊢;have HB:=aa b1;have HTE:=aa hT;clear b1 hT HO
 go_wp2_with (refine bt rfl 53 (.tmp 3) (.tmp 5) rfl w1.heap.size rfl 53 (aw []) (aw T) 17 rfl (Has.new w1 (aw []) _) bV rfl (aO T HL.out) (bW T) ?_;intro w5 h5 b5)
 have ks:Below w.heap.size w w5:=(HB.out.alloc HB.out.size _).trans (b5.below (by have:=HB.out.size;simp;omega) HB.out.size);have HC:=aa (ey w1.heap.size T w5 h5 HL.out);have kH:=aa ks;clear h5 b5 ks
 go_wp2_with fail
 refine HC.out.mono ?_;rintro e w6 ⟨v6,rfl,kA,b6⟩;have HR:=aa (show em 21 .i32 w (xs.take 16) (.returned v6) w6 from by rw [<-HTE.out];exact ⟨v6,rfl,fS kA kH.out.size,kH.out.trans (b6.mono kH.out.size)⟩);clear kA b6;go_wp2;go_ret;exact HR.out
theorem fe(v:Value)(T:List Int)(w:World)(hv:Held .i32 w v T)(h0:0<T.length)(hl:T.length<=1000000):Calls Try.prog 11 #[v] w (Gives w (.int .i64 (wdC T))):=by
 obtain ⟨ao,ca,rfl⟩:=hv.len;obtain ⟨b,off,rfl,_,c0⟩:=hv.spots 0 h0;rw [Nat.add_zero] at c0;have HF:=aa (fun w' (h:Below w.heap.size w w')=>fd _ T w' (hv.below h) (by omega));have HS:=aa (eJ (T.getD 0 0));have jN:=cZ T;have HW:=aa (show cF (T.getD 0 0)=false->eA (T.take 16) (ai (T.take 16)) (T.take 16).length=wdC T from fun h=>by unfold wdC;rw [if_neg (by rw [h];decide)]);have HT:=aa (show (T.take 16).length<=1000000 by rw [List.length_take];omega);obtain ⟨x,hx⟩:=ab (T.getD 0 0);rw [<-hx] at c0 HS jN HW;obtain ⟨n,hn⟩:=ab (T.length);rw [<-hn] at HF h0 hl ⊢;obtain ⟨F,hF⟩:=ab (T.take 16);rw [<-hF] at HF HW HT;obtain ⟨W,hW⟩:=ab (wdC T);rw [<-hW] at jN HW ⊢;clear hv hx hn hF hW
 rcases jN with ⟨hs,hw0⟩ | ⟨hs,kU,hw2⟩
 ·have HZ:=aa hw0;rw [hs] at HS;clear hs hw0
  go_enter Try.func11,Try.ntmps11
  go_wp2_with fail
  refine (HS.out w).mono ?_;rintro e w1 ⟨rfl,b1⟩;have HB:=aa b1;clear b1;go_wp2;go_ret;exact ⟨az (by rw [HZ.out];try rfl),HB.out⟩
 ·have HE:=aa (HW.out hs);rw [hs] at HS;clear hs kU hw2
  go_enter Try.func11,Try.ntmps11
  go_wp2_with fail
  refine (HS.out w).mono ?_;rintro e w1 ⟨rfl,b1⟩;have HB:=aa b1;clear b1 c0
  go_wp2_with fail
  refine (HF.out w1 HB.out).mono ?_;rintro e w2 ⟨v2,rfl,ho2,b2⟩;have hc:=gq v2 F w2 (cL ho2) HT.out;rw [HE.out] at hc;have jl:=aa (HB.out.trans (b2.mono HB.out.size));clear ho2 b2
  go_wp2_with fail
  refine hc.mono ?_;rintro e w3 ⟨rfl,b3⟩;have kq:=aa (jl.out.trans (b3.mono jl.out.size));clear b3 hc;go_wp2;go_ret;exact ⟨ae,kq.out⟩
section
attribute [local go_sem] Oper.semAt_some
def cJ(L:List (List Int)):Int:=(L.map wdC).sum
theorem fF(L:List (List Int))(T:List Int):cJ (L++[T])=cJ L+wdC T:=by unfold cJ;simp
theorem el:∀ L:List (List Int),0<=cJ L/\cJ L<=2 * (L.length:Int)
 |[]=>by simp [cJ]
 |T :: L=>by
  have h1:=el L;have h2:=cZ T;unfold cJ at h1 ⊢;simp only [List.map_cons,List.sum_cons,List.length_cons];omega
def cK(xs:List Int):Int:=cJ (aL xs)
theorem gi(xs:List Int):0<=cK xs/\cK xs<=2 * (xs.length:Int):=by
 have h1:=el (aL xs);have h2:=eK xs;have h3:=cG (jR (ai xs)) xs.length;unfold cK;omega
theorem gj{xs:List Int}{lo hi:Nat}{x:Cu}{W:World}(h:XCu xs lo hi x W):0<(aB xs x.p).length/\(aB xs x.p).length<=xs.length:=by
 obtain ⟨g,hv,h1,h2,h3,h4,h5,h6⟩:=h;rw [bw xs x.p (Nat.le_of_lt h4) h5];omega
theorem fA{xs:List Int}{pre:List Cu}{x:Cu}(h:(pre++[x]).map Cu.p <+: clS xs):pre.length+1<=xs.length:=by
 have h9:=h.length_le;rw [List.length_map,List.length_append,List.length_singleton] at h9;have:=hH xs;omega
def ir(w:World)(bx lo:Nat)(xs:List Int)(hi:Nat)(pre:List Cu)(W:World):Prop:=lo<=hi/\Has W bx [.int .i64 (cJ (bJ xs pre))] 3/\Below w.heap.size w W/\hi<=W.heap.size/\pre.length<=1000000
theorem dY(v:Value)(xs:List Int)(w:World)(hx:Held .i32 w v xs)(hn:xs.length<=1000000):Calls Try.prog 5 #[v] w (Gives w (.int .i64 (cK xs))):=by
 obtain ⟨ao,ca,rfl⟩:=hx.len;refine (callsIn_wide (n:=9)).1 ?_;have b1:Below w.heap.size w (w.alloc (.cells #[.int .i64 0] 3)):=iF _ _;have HC:=aa (eM _ xs _ (hx.below b1) hn);have HBX:=aa (Has.new w [.int .i64 0] 3);have kc:=aa b1;clear hx b1;refine callsIn_of_wp_marks Try.func5 rfl trivial ?_ rfl;simp only [Try.ntmps5,List.size_toArray,List.length_cons,List.length_nil,Nat.reduceAdd,Nat.reduceSub,Array.replicate_succ,Array.replicate_zero,List.push_toArray,List.append_toArray,List.nil_append,List.cons_append]
 gi_wp2_with fail
 first | refine ⟨trivial,(fun h=>absurd h (by decide)),(callsIn_wide.2 (HC.out)).mono ?_⟩ | refine ⟨trivial,(callsIn_wide.2 (HC.out)).mono ?_⟩
 rintro e w1 ⟨B,vk,rfl,hB,hk,b1,hBl⟩;have hbx:=HBX.out.below b1 HBX.out.lt;have HX:=aa hbx;have HW:=aa (kc.out.trans (b1.mono kc.out.size));have i9:=aa (show w.heap.size<w1.heap.size from hbx.lt);have h1:1<=9:=by decide
 gi_wp2_with fail
 refine di rfl h1 (gf:=17) (lb:=#[.pointer (some ⟨B,0,none⟩)]) rfl trivial (enters_of Try.func17 (by kernel_rfl) rfl) (eO B vk xs w1 hB hk hn _ (fun b=>b=w.heap.size)) (Below.refl _ _) (fun _=>rfl) (fun b e=>by subst e;exact i9.out)
  (ir w w.heap.size (w1.heap.size+2) xs) (fun _ _ _ _=>False) ?hI (fun _ _ _ _ _ h _=>h) ?h0 (fun x=>{ tmps:=#[.slice ao xs.length ca,undef,.int .i64 0,.pointer (some ⟨w.heap.size,0,none⟩),undef,x.v,.slice ao xs.length ca,.func (.func 17) #[] #[.pointer (some ⟨B,0,none⟩)],.int .i64 (x.p.1:Int),x.v,undef,undef,undef,undef,undef],defers:=[] }) ?assign ?body ?done ?stop
 case hI =>
  rintro hi pre A A' ⟨iW,h1,h3,h4,h5⟩ hu;exact ⟨iW,hu.keep.has h1 (fun e=>by have:=i9.out;omega),h3.upd hu h3.size (fun b e=>by have:=i9.out;omega),Nat.le_trans h4 hu.size,h5⟩
 case h0 =>
  intro hi W1 hb h1 h2;exact ⟨h1,HX.out.below hb HX.out.lt,HW.out.trans (hb.mono HW.out.size),h2,Nat.zero_le _⟩
 case assign =>
  intro l x W K hK;unfold eN
  gi_wp2
  exact hK
 case stop =>
  intro hi c pre W _ h _;exact h.elim
 case done =>
  rintro hi ys W hS ⟨iW,h1,h3,h4,h5⟩ hK;rw [eL hS,show cJ (aL xs)=cK xs from rfl] at h1;have c1:=h1.cell 0 _ rfl;have HE:=aa (h3.upd (bu (S:=fun b=>b=w1.heap.size) W w1.heap.size (.deferred none) rfl) h3.size (fun b e=>by have:=i9.out;omega));clear h1 h3
  gi_wp2
  refine ⟨by simp,.inl ⟨_,_,rfl,run_takeDeferred hK,?_⟩⟩;exact ⟨.int .i64 (cK xs),by simp [results,Try.results5,go_sem],rfl,HE.out⟩
 case body =>
  rintro l hi pre x W iW jj ⟨_,h1,h3,h4,h5⟩ ⟨Wx,hx,ke⟩ hR;have hx:=hx.upd ke (fun b h1 h2=>by omega);have kE:=aa hx.held;have kR:=aa (gj hx);have hpl:=fA hR;have kM:=aa (show pre.length+1<=1000000 by omega);have HDD:=aa (show w.heap.size<hi from by have:=i9.out;omega);have jf:=aa (And.intro iW jj);have HL:=aa h3;have HH:=aa h1;have jt:cJ (bJ xs (pre++[x]))=cJ (bJ xs pre)+wdC (aB xs x.p):=by rw [show bJ xs (pre++[x])=bJ xs pre++[aB xs x.p] from by simp [bJ],fF]
  have jV:=aa jt;have jF:=el (bJ xs pre);have iI:(bJ xs pre).length=pre.length:=by simp [bJ]
  have j6:=cZ (aB xs x.p);obtain ⟨T,hT⟩:=ab (aB xs x.p);rw [<-hT] at kE kR jV j6;obtain ⟨xv,kg⟩:=ab (x.v);rw [<-kg] at kE ⊢;obtain ⟨s,hs⟩:=ab (cJ (bJ xs pre));rw [<-hs] at jV jF HH;obtain ⟨wd,hwd⟩:=ab (wdC T);have jX:=aa (show ∀ w',Below W.heap.size W w'->Calls Try.prog 11 #[xv] w' (Gives w' (.int .i64 wd)) from fun w' h=>by rw [hwd];exact fe xv T w' (kE.out.below h) kR.out.1 (by have:=kR.out;omega));rw [<-hwd] at jV j6;have hsw:IntKind.i64.wrap (s+wd)=s+wd:=by rw [IntKind.wrap_i64];omega
  clear hx ke hR hpl h1 h3 h4 jt iI hT kg hs hwd h5
  gi_wp2
  obtain ⟨i4,iP⟩ : ∃ CC:Array Bool->World->Prop,CC=fun L8 w'=>(Mix.one L8 4=0->Below W.heap.size W w')/\(Mix.one L8 4=1->Has w' w.heap.size [.int .i64 (s+wd)] 3/\Upd (fun b=>b=w.heap.size) W w'):=⟨_,rfl⟩
  obtain ⟨jD,i7⟩ : ∃ XX:World->World->Prop,XX=fun x y=>Upd (fun b=>b=w.heap.size) x y:=⟨_,rfl⟩
  obtain ⟨j1,ja,iT,iR,iO,iQ,i5,_,_,_⟩:=Reg.e8 jD
   (fun xx _=>xx=.int .i64 s)
   (fun xx _=>xx=xv)
   (fun xx _=>xx=.int .i64 wd)
   (fun xx _=>xx=.int .i64 (s+wd))
   (fun xx _=>xx=undef)
   (fun _ _=>True) (fun _ _=>True) (fun _ _=>True)
  have jh:Hid (∀ i L w,(i == 4)=false ->  i4 L w->i4 (L.setIfInBounds i true) w):=aa (by
   intro i L w q h;simp only [Bool.or_eq_false_iff,beq_eq_false_iff_ne] at q;rw [iP] at h ⊢;simp only [Mix.one_ne q];exact h)
  have js:Hid (∀ L w w1,i4 L w->Below w.heap.size w w1->i4 L w1):=aa (by
   intro L w w1 h hb;rw [iP] at h ⊢
   (obtain ⟨q1,q2⟩:=h;exact ⟨fun e=>(q1 e).trans (hb.mono (q1 e).size),fun e=>⟨(q2 e).1.below hb (q2 e).1.lt,(q2 e).2.trans (.ofBelow hb)⟩⟩))
  have jv:=aa (show ∀ w,jD w w from fun w=>by rw [i7];exact Upd.refl _ _);have jc:=aa (show ∀ w w1,Below w.heap.size w w1->jD w w1 from fun w w1 hb=>by rw [i7];exact Upd.ofBelow hb);have jw:=aa (show i4 (Array.replicate 5 false) W.drew from by rw [iP];exact ⟨fun _=>(Below.refl _ _).drew,fun e=>absurd e (by decide)⟩);have iX:=aa (fun (i:Nat) L w v q (h:i4 L w) (e:j1 i v w)=>Reg.hk (jh.out i L w q h) e (jv.out w));have iM:=aa iP;have jk:=aa i7;clear iP i7
  gi_wp2_with fail
  refine Reg.regionFIn (fun _=>trivial) rfl Reg.calls_round (by kernel_rfl) j1 i4 jD ja.out (by kernel_rfl) (by kernel_rfl) (by kernel_rfl) jw.out (fun Frg iL=>?_);simp only [Reg.frame,Reg.dsts,List.map_cons,List.map_nil,Mix.put_lit,Reg.put_none,List.set_cons_succ,List.set_cons_zero,Nat.zero_add,Nat.reduceAdd] at iL;refine ⟨⟨?_,?_,?_,?_,?_,trivial⟩,?_⟩
  ·intro Lq wq xq hh;simp only [iL];refine Reg.go rfl ?_;have hc:i4 Lq wq:=hh.cls;rw [iM.out] at hc;have q0:=((hc.1 (Mix.one_un (hh.notYet 4 (by kernel_rfl)))).cell (p:=⟨w.heap.size,0,none⟩) HH.out.lt).trans (HH.out.cell 0 _ rfl);clear hc;have HK:=iX.out 0 _ _ _ rfl hh.cls ((iT.out _ _).mpr rfl);go_simp;exact HK.out
  ·intro Lq wq xq hh;simp only [iL];refine Reg.go rfl ?_;have HK:=iX.out 1 _ _ _ rfl hh.cls ((iR.out _ _).mpr rfl);go_simp;exact HK.out
  ·intro Lq wq xq hh;simp only [iL,(iR.out _ _).mp (hh.v 1)];refine Reg.go rfl ?_;unfold Reg.upon;have hc:i4 Lq wq:=hh.cls;rw [iM.out] at hc;go_simp;refine (jX.out wq (hc.1 (Mix.one_un (hh.notYet 4 (by kernel_rfl))))).mono ?_;rintro e w2 ⟨rfl,hb⟩;exact ⟨_,rfl,jh.out 2 Lq w2 (by decide) (js.out Lq wq w2 hh.cls hb),(by rw [iO.out]),jc.out wq w2 hb⟩
  ·intro Lq wq xq hh;simp only [iL,(iT.out _ _).mp (hh.v 0),(iO.out _ _).mp (hh.v 2)];refine Reg.go rfl ?_;have HK:=iX.out 3 _ _ _ rfl hh.cls ((iQ.out _ _).mpr rfl);go_simp;exact HK.out
  ·intro Lq wq xq hh;simp only [iL,(iQ.out _ _).mp (hh.v 3)];refine Reg.go rfl ?_;unfold Reg.upon;have hc:i4 Lq wq:=hh.cls;rw [iM.out] at hc;have jY:=hc.1 hh.un;have h4:=HH.out.below jY HH.out.lt;have c9:=h4.cell 0 _ rfl;have f9:=h4.free 0;have h5:=h4.set 0 (.int .i64 (s+wd));have u5:=(Upd.refl (fun b=>b=w.heap.size) wq).setCell (p:=⟨w.heap.size,0,none⟩) (.inl rfl) (.int .i64 (s+wd));have hF:i4 (Lq.setIfInBounds 4 true) (World.setCell wq ⟨w.heap.size,0,none⟩ (.int .i64 (s+wd)))/\j1 4 undef (World.setCell wq ⟨w.heap.size,0,none⟩ (.int .i64 (s+wd)))/\jD wq (World.setCell wq ⟨w.heap.size,0,none⟩ (.int .i64 (s+wd))):=by
    refine ⟨?_,by rw [i5.out],by rw [jk.out];exact u5⟩;rw [iM.out];exact ⟨fun e9=>(by rw [Mix.one_set (by rw [hh.size];decide)] at e9;exact absurd e9 (by decide)),fun _=>⟨h5,(Upd.ofBelow jY).trans u5⟩⟩
   clear hc h5 u5 h4 jY;go_simp
   try exact hF
  intro xq jC iZ jI;rw [iM.out] at iZ;simp only [iL];clear jI iL iX jh jv ja jw iM jk js jc iT iR iO iQ i5;obtain ⟨q1,q2⟩:=iZ.2 (by kernel_rfl);have jO:=aa (q2.mono (fun b _ e=>(.inl e:b=w.heap.size\/hi<=b)));have jQ:=aa (show ir w w.heap.size (w1.heap.size+2) xs hi (pre++[x]) jC from ⟨jf.out.1,by rw [jV.out];exact q1,HL.out.upd q2 HL.out.size (fun b e=>by omega),Nat.le_trans jf.out.2 q2.size,by rw [List.length_append,List.length_singleton];exact kM.out⟩);clear iZ q1 q2
  gi_wp2
  exact ⟨jO.out,jQ.out⟩
end
def tst(w:Int)(s:List (List Int × Bool) × Int)(T:List Int):List (List Int × Bool) × Int :=
 if cF (T.getD 0 0)=true then s else (s.1++[(T,decide (w - s.2<min (wdC T) w))],(if w - s.2<min (wdC T) w then 0 else s.2)+min (wdC T) w)
def bD(w:Int)(L:List (List Int)):List (List Int × Bool) × Int:=L.foldl (tst w) ([],0)
theorem fb(w:Int)(L:List (List Int))(T:List Int):bD w (L++[T])=tst w (bD w L) T:=by
 unfold bD;rw [List.foldl_append]
 rfl
theorem dv(w:Int)(hw:1<=w):∀ (L:List (List Int)) (s:List (List Int × Bool) × Int),0<=s.2->s.2<=w->0<=(L.foldl (tst w) s).2/\(L.foldl (tst w) s).2<=w/\(L.foldl (tst w) s).1.length<=s.1.length+L.length
 |[],s,h1,h2=>⟨h1,h2,Nat.le_refl _⟩
 |T :: L,s,h1,h2=>by
  have hb:=cZ T;have key:0<=(tst w s T).2/\(tst w s T).2<=w/\(tst w s T).1.length<=s.1.length+1:=by
   unfold tst
   by_cases hs:cF (T.getD 0 0)=true
   ·rw [if_pos hs];exact ⟨h1,h2,by omega⟩
   ·rw [if_neg hs];refine ⟨?_,?_,by simp⟩
    ·by_cases hg:w - s.2<min (wdC T) w
     ·rw [if_pos hg];omega
     ·rw [if_neg hg];omega
    ·by_cases hg:w - s.2<min (wdC T) w
     ·rw [if_pos hg];omega
     ·rw [if_neg hg];omega
  have ih:=dv w hw L (tst w s T) key.1 key.2.1;rw [List.foldl_cons,List.length_cons];exact ⟨ih.1,ih.2.1,by omega⟩
theorem ge(w:Int)(hw:1<=w)(L:List (List Int)):0<=(bD w L).2/\(bD w L).2<=w/\(bD w L).1.length<=L.length:=by
 have:=dv w hw L ([],0) (Int.le_refl _) (by omega)
 simpa [bD] using this
def rst(s:List (List Int) × List Int)(x:List Int × Bool):List (List Int) × List Int:=if x.2=true then (s.1++[s.2],x.1) else (s.1,s.2++x.1)
def gg(t:List (List Int × Bool)):List (List Int) × List Int:=t.foldl rst ([],[])
def bC(w:Int):Int:=min (max w 1) 1024
theorem fE(w:Int):1<=bC w/\bC w<=1024:=by unfold bC;omega
def dp(t:List (List Int × Bool)):List (List Int):=(gg t).1++[(gg t).2]
def cC(w:Int)(xs:List Int):List (List Int):=dp (bD (bC w) (aL xs)).1
def ba(t:List (List Int × Bool)):Nat:=(t.filter fun x=>x.2).length
theorem dw(t:List (List Int × Bool))(x:List Int × Bool):ba (t++[x])=ba t+if x.2=true then 1 else 0:=by
 unfold ba;rw [List.filter_append,List.length_append]
 cases h:x.2 <;> simp [List.filter,h]
theorem gh(t:List (List Int × Bool)):ba t<=t.length:=List.length_filter_le _ _
theorem fc(t:List (List Int × Bool)):∀ s:List (List Int) × List Int,(t.foldl rst s).1.length=s.1.length+ba t:=by
 induction t with
 |nil=>intro s;simp [ba]
 |cons x t ih =>
  intro s;rw [List.foldl_cons,ih];unfold rst ba
  cases h:x.2 <;> simp [List.filter,h]
  omega
theorem dX(t:List (List Int × Bool)):(dp t).length=ba t+1:=by
 unfold dp gg;rw [List.length_append,fc]
 simp
def bdI(w:Int)(t:List (List Int × Bool))(u:Int)(c:Nat):Prop:=(w - 1) * (ba t:Int)+u<=2 * (c:Int)/\(w=1->(ba t:Int)+u<=c)/\0<=u/\u<=w/\(ba t=0\/1<=u)
theorem gY{w:Int}(hw:1<=w){s:List (List Int × Bool) × Int}{c:Nat}(h:bdI w s.1 s.2 c)(T:List Int):bdI w (tst w s T).1 (tst w s T).2 (c+1):=by
 obtain ⟨h1,h2,h3,h4,h5⟩:=h;have hb:=cZ T;unfold tst
 by_cases hs:cF (T.getD 0 0)=true
 ·rw [if_pos hs];exact ⟨by omega,fun e=>by have:=h2 e;omega,h3,h4,h5⟩
 ·rw [if_neg hs];have hb2:1<=wdC T/\wdC T<=2:=by
   rcases hb with ⟨e,_⟩ | ⟨_,hx⟩
   ·exact absurd e hs
   ·exact hx
  clear hb hs;unfold bdI;simp only [dw]
  by_cases hg:w - s.2<min (wdC T) w
  ·rw [if_pos hg];simp only [hg,decide_true,if_true];have e:(w - 1) * ((ba s.1+1:Nat):Int)=(w - 1) * (ba s.1:Int)+(w - 1):=by rw [Int.natCast_add,Int.mul_add];omega
   rw [e];refine ⟨by omega,fun e=>by have:=h2 e;omega,by omega,by omega,.inr (by omega)⟩
  ·rw [if_neg hg];simp only [hg,decide_false];rw [if_neg (by decide),Nat.add_zero];refine ⟨by omega,fun e=>by have:=h2 e;omega,by omega,by omega,?_⟩
   rcases h5 with h5 | h5
   ·exact .inl h5
   ·exact .inr (by omega)
theorem fz{w:Int}(hw:1<=w):∀ (L:List (List Int)) (s:List (List Int × Bool) × Int) (c:Nat),bdI w s.1 s.2 c->bdI w (L.foldl (tst w) s).1 (L.foldl (tst w) s).2 (c+L.length)
 |[],s,c,h=>h
 |T :: L,s,c,h=>by
  rw [List.foldl_cons,List.length_cons,show c+(L.length+1)=c+1+L.length by omega];exact fz hw L _ _ (gY hw h T)
theorem ew(w:Int):bC w=aQ w:=by unfold bC aQ;omega
theorem fD(xs:List Int)(Wr:Int)(hn:xs.length<=1000000):((cC Wr xs).length:Int)<=dm xs.length Wr/\0<=((cC Wr xs).length:Int)/\dm xs.length Wr<=2147484670:=by
 have hs:=cY Wr;have hL:(aL xs).length<=xs.length:=Nat.le_trans (Nat.le_of_eq (eK xs)) (cG (jR (ai xs)) xs.length);have h:=fz (show 1<=aQ Wr from hs.1) (aL xs) ([],0) 0 ⟨by simp [ba],fun _=>by simp [ba],Int.le_refl _,by simp only;omega,.inl rfl⟩;unfold cC;rw [ew,dX];unfold bD;obtain ⟨t,ht⟩:=ab ((aL xs).foldl (tst (aQ Wr)) ([],0));rw [<-ht] at h ⊢;obtain ⟨h1,h2,h3,h4,h5⟩:=h;have hh:bk xs.length=xs.length:=by unfold bk;omega
 unfold dm;rw [hh];obtain ⟨y,hy⟩:=ab (aQ Wr);rw [<-hy] at hs h1 h2 h4 ⊢;obtain ⟨n,ko⟩:=ab (xs.length);rw [<-ko] at hn hL ⊢;clear ht hy ko hh
 by_cases h0:(n:Int)=0
 ·rw [if_pos h0];have hc:(aL xs).length=0:=by omega
  rw [hc] at h1 h2
  rcases h5 with h5 | h5
  ·rw [h5];omega
  ·exfalso;have:0<=(y - 1) * (ba t.1:Int):=Int.mul_nonneg (by omega) (by omega);omega
 ·rw [if_neg h0]
  by_cases h6:y=1
  ·rw [if_pos h6];have:=h2 h6;omega
  ·rw [if_neg h6];have h7:(ba t.1:Int) * (y - 1)+(y - 1)<=2 * (n:Int)+y - 2:=by
    rw [Int.mul_comm]
    rcases h5 with h5 | h5
    ·rw [h5];simp;omega
    ·omega
   have h8:((ba t.1+1:Nat):Int)<=(2 * (n:Int)+y - 2) / (y - 1):=by
    rw [Int.le_ediv_iff_mul_le (by omega),Int.natCast_add,Int.add_mul];omega
   refine ⟨h8,by omega,?_⟩;exact Int.ediv_le_of_le_mul (by omega) (by have:=Int.mul_le_mul_of_nonneg_left (show (1:Int)<=y - 1 by omega) (show (0:Int)<=2147484670 by omega);omega)
section
attribute [local go_sem] Oper.semAt_some
theorem gR(bx:Nat)(n:Nat)(xv:Value)(next:Bool)(w:World)(h:Has w bx [.int .i64 (n:Int)] 3)(hn:n<=10000000):Calls Try.prog 14 #[xv,.bool next,.pointer (some ⟨bx,0,none⟩)] w (fun e w'=>e=.returned (.tuple #[])/\Has w' bx [.int .i64 ((n+if next=true then 1 else 0:Nat):Int)] 3/\Upd (fun b=>b=bx) w w'):=by
 cases next
 ·have HH:=aa h;clear h
  go_enter Try.func14,Try.ntmps14
  go_wp2;exact bodyPost_end (by kernel_rfl) rfl ⟨rfl,HH.out,Upd.refl _ _⟩
 ·have c:=h.cell 0 _ rfl;have f:=h.free 0;have hw:IntKind.i64.wrap ((n:Int)+1)=(n:Int)+1:=by rw [IntKind.wrap_i64];omega
  have h2:=h.set 0 (.int .i64 ((n:Int)+1));have HR:=aa (And.intro h2 ((Upd.refl (fun b=>b=bx) w).setCell (p:=⟨bx,0,none⟩) (.inl rfl) (.int .i64 ((n:Int)+1))));clear h h2
  go_enter Try.func14,Try.ntmps14
  go_wp2;exact bodyPost_end (by kernel_rfl) rfl ⟨rfl,HR.out.1,HR.out.2⟩
end
section
attribute [local go_sem] Oper.semAt_some
end
section
attribute [local go_sem] Oper.semAt_some
end
theorem dW{xs:List Int}(hr:bT xs)(p:Nat × Nat)(h1:p.1<=p.2)(h2:p.2<=xs.length):bT (aB xs p):=by
 intro i hi;rw [bw xs p h1 h2] at hi;have:=hr (p.1+i) (by omega);rw [show (aB xs p).getD i 0=xs.getD (p.1+i) 0 from by
  unfold aB
  simp [List.getD,List.getElem?_take,hi,List.getElem?_drop]]
 exact this
theorem ie(xs:List Int)(k:Nat)(h:k<(clS xs).length):(aL xs).getD k []=aB xs ((clS xs).getD k (0,0))/\0<((aL xs).getD k []).length/\((aL xs).getD k []).length<=xs.length/\(bT xs->bT ((aL xs).getD k []))/\(aL xs).take (k+1)=(aL xs).take k++[(aL xs).getD k []]:=by
 have e:(aL xs).getD k []=aB xs ((clS xs).getD k (0,0)):=by
  unfold aL
  simp [List.getD,List.getElem?_map,List.getElem?_eq_getElem h]
 have h2:=dO xs k h;refine ⟨e,?_,?_,fun hr=>?_,by rw [e];exact fQ xs k h⟩
 ·rw [e,cc xs k h,bw _ _ (Nat.le_of_lt h2.1) h2.2];simp only;omega
 ·rw [e,cc xs k h,bw _ _ (Nat.le_of_lt h2.1) h2.2];simp only;omega
 ·rw [e,cc xs k h];exact dW hr _ (Nat.le_of_lt h2.1) h2.2
theorem du(xs:List Int):(aL xs).length=(clS xs).length:=by unfold aL;rw [List.length_map]
theorem cy(xs:List Int)(i:Nat):∀ k,i<k->k<=(clS xs).length->aF xs i<aF xs k
 |0,h,_=>absurd h (Nat.not_lt_zero _)
 |k+1,h,hk=>by
  have h1:=(dO xs k (by omega)).1
  rcases Nat.lt_or_ge i k with h2 | h2
  ·have:=cy xs i k h2 (by omega);omega
  ·have:i=k:=by omega
   subst this;exact h1
theorem gW(xs:List Int)(i k:Nat)(hi:i<=(clS xs).length)(hk:k<=(clS xs).length)(h:aF xs i=aF xs k):i=k:=by
 rcases Nat.lt_trichotomy i k with h1 | h1 | h1
 ·have:=cy xs i k h1 hk;omega
 ·exact h1
 ·have:=cy xs k i h1 hi;omega
theorem dP(xs:List Int)(k:Nat)(h:k<(clS xs).length):jR (ai xs) (aF xs k)=false:=by
 have hl:(clS xs).length=(ar (jR (ai xs)) xs.length).length:=bh _ (a8 _) _;have:aF xs k ∈ ar (jR (ai xs)) xs.length:=by
  unfold aF;rw [List.getD,List.getElem?_append_left (by omega),List.getElem?_eq_getElem (by omega)];exact List.getElem_mem _
 exact (startB_mem.1 this).2
theorem ic(xs:List Int)(a i:Nat)(h:i<a)(ha:a<=xs.length):jR (ai (xs.take a)) i=jR (ai xs) i:=by
 have e:xs=xs.take a++xs.drop a:=(List.take_append_drop a xs).symm;have hl:(xs.take a).length=a:=by rw [List.length_take];omega
 refine fa i fun k hk=>?_
 have:=cI (xs.take a) (xs.drop a) k (by omega);rw [<-e] at this;exact this.symm
theorem gX(xs:List Int)(k:Nat)(h:k<=(clS xs).length):clS (xs.take (aF xs k))=(clS xs).take k:=by
 have hle:=hP xs k h;have hl:(xs.take (aF xs k)).length=aF xs k:=by rw [List.length_take];omega
 have e1:clS (xs.take (aF xs k))=aA (jR (ai xs)) (aF xs k):=by
  unfold clS;rw [hl];exact b9 _ _ _ fun i hi=>ic xs _ i hi hle
 rw [e1]
 rcases Nat.eq_or_lt_of_le h with hk | hk
 ·subst hk;rw [de,List.take_length]
  rfl
 ·have hj:=dP xs k hk;have hlt:aF xs k<xs.length:=by
   have:=cy xs k _ hk (Nat.le_refl _);rw [de] at this;exact this
  obtain ⟨b,hb⟩ : ∃ b,xs.length=aF xs k+(b+1):=⟨xs.length - aF xs k - 1,by omega⟩;have hc:=dK (jR (ai xs)) (aF xs k) b hj;rw [<-hb] at hc;obtain ⟨m,hm⟩:=ab ((aA (jR (ai xs)) (aF xs k)).length);have hp:(clS xs).take m=aA (jR (ai xs)) (aF xs k):=by
   unfold clS;rw [hc,hm,List.take_left]
  have hml:m<=(clS xs).length:=by
   unfold clS;rw [hc,List.length_append];omega
  have kV:m=(ar (jR (ai xs)) (aF xs k)).length:=by rw [hm];exact bh _ (a8 _) _
  have hem:aF xs m=aF xs k:=by
   rcases Nat.eq_zero_or_pos m with h0 | h0
   ·rw [h0,dd]
    rcases Nat.eq_zero_or_pos (aF xs k) with h1 | h1
    ·exact h1.symm
    ·exfalso;have:=List.length_pos_of_mem (startB_mem.2 ⟨h1,a8 (ai xs)⟩);omega
   ·obtain ⟨q,rfl⟩ : ∃ q,m=q+1:=⟨m - 1,by omega⟩;have h2:=d9 (jR (ai xs)) (a8 _) (aF xs k) q (by omega);have h3:(aA (jR (ai xs)) (aF xs k)).getD q (0,0)=(clS xs).getD q (0,0):=by
     rw [<-hp]
     simp [List.getD,List.getElem?_take]
    rw [h3,cc xs q (by omega),kV] at h2;have h4:=congrArg Prod.snd h2;simp only at h4;rw [<-kV] at h4;rw [h4,List.getD,List.getElem?_append_right (by omega),kV,Nat.sub_self]
    rfl
  rw [<-hp,gW xs m k hml (Nat.le_of_lt hk) hem]
theorem dQ(xs:List Int)(k:Nat)(h:k<=(clS xs).length):aL (xs.take (aF xs k))=(aL xs).take k:=by
 unfold aL;rw [gX xs k h,<-List.map_take];refine List.map_congr_left fun p hp=>?_
 obtain ⟨i,hi,hpi⟩:=List.getElem_of_mem hp;rw [List.length_take] at hi;have h1:p=(aF xs i,aF xs (i+1)):=by
  rw [<-cc xs i (by omega),<-hpi]
  simp [List.getD,List.getElem?_eq_getElem (show i<(clS xs).length by omega)]
 have h2:aF xs (i+1)<=aF xs k:=by
  rcases Nat.eq_or_lt_of_le (show i+1<=k by omega) with e | e
  ·rw [e];exact Nat.le_refl _
  ·exact Nat.le_of_lt (cy xs _ _ e h)
 have h3:=(dO xs i (by omega)).1;rw [h1];unfold aB;simp only;rw [List.drop_take,List.take_take]
 congr 1
 omega
def gS(A:List (Int × Int)):Bool:=A.all fun p=>(List.range (p.2 - p.1+1).toNat).all fun i=>let g:=bb (p.1+(i:Int));g == 4 || g == 5 || g == 8
theorem gT{A:List (Int × Int)}(h:gS A=true){r:Int}(ha:av A r=true):bb r=4\/bb r=5\/bb r=8:=by
 obtain ⟨p,hp,h1⟩:=List.any_eq_true.1 ha;have h2:=List.all_eq_true.1 h p hp;simp only [Bool.and_eq_true,decide_eq_true_eq] at h1;have h3:=List.all_eq_true.1 h2 (r - p.1).toNat (List.mem_range.2 (by omega));rw [show p.1+((r - p.1).toNat:Int)=r by omega] at h3;simp only [Bool.or_eq_true,beq_iff_eq] at h3
 rcases h3 with (h3 | h3) | h3
 ·exact .inl h3
 ·exact .inr (.inl h3)
 ·exact .inr (.inr h3)
theorem ia:gS tLink=true:=by decide +kernel
theorem ib:gS tJoin=true:=by decide +kernel
theorem gU{r:Int}(h:bd r=2\/bd r=3):bb r=4\/bb r=5\/bb r=8:=by
 unfold bd at h
 by_cases h1:av tCons r=true
 ·rw [if_pos h1] at h;omega
 ·rw [if_neg h1] at h
  by_cases h2:av tLink r=true
  ·exact gT ia h2
  ·rw [if_neg h2] at h
   by_cases h3:av tJoin r=true
   ·exact gT ib h3
   ·rw [if_neg h3] at h;omega
theorem f8{la br:Int}(h:br=4\/br=5\/br=8)(hj:bN la br≠1):brB (clI la)=true:=by
 cases hb:brB (clI la) with
 |true=>rfl
 |false =>
  exfalso
  apply hj
  have e:clI br=br:=by unfold clI;rw [if_neg (by omega)]
  have h2:brB br=false:=by unfold brB;simp;omega
  unfold bN;rw [e]
  rcases dl (clI la) br with ⟨_,_,h⟩ | ⟨_,h3,_⟩ | ⟨_,_,h3,_⟩ | ⟨_,_,_,_,h⟩ | ⟨_,_,_,_,h⟩
  ·exact h
  ·rw [hb] at h3;cases h3
  ·rw [h2] at h3;cases h3
  ·exact h
  ·rw [h,if_pos (by omega)]
theorem iB{n:Int}(h:brB (clI n)=true):1<=n/\n<=3:=by
 unfold brB clI at h
 simp at h
 split at h <;> omega
theorem ej{a b:List Int}{r:Int}{t:List Int}(hb:b=r :: t)(hj:jR (ai (a++b)) a.length=false):∀ i,cSt (ai (a++b)) (a.length+(i+1))=cSt (ai b) (i+1)/\pSt (ai (a++b)) (a.length+(i+1))=pSt (ai b) (i+1)/\oSt (ai (a++b)) (a.length+(i+1))=oSt (ai b) (i+1)/\lSt (ai (a++b)) (a.length+(i+1))=lSt (ai b) (i+1)
 |0=>by
  have h3:=cp a b 0;have h4:(ai b).getD 0 Pr.none=aG r:=by rw [hb];rfl
  rw [Nat.add_zero,h4] at h3;have e1:(aG r).br=bb r:=rfl;have e2:(aG r).pc=av tPict r:=rfl;have e3:(aG r).cv=bd r:=rfl;rw [dL,h3,e1,e2,e3] at hj;show cSt _ (a.length+0+1)=cSt _ (0+1)/\pSt _ (a.length+0+1)=pSt _ (0+1)/\oSt _ (a.length+0+1)=oSt _ (0+1)/\lSt _ (a.length+0+1)=lSt _ (0+1);rw [Nat.add_zero]
  rcases Nat.eq_zero_or_pos a.length with h0 | h0
  ·have ha:a=[]:=List.eq_nil_of_length_eq_zero h0;subst ha;exact ⟨rfl,rfl,rfl,rfl⟩
  obtain ⟨m,hm⟩ : ∃ m,a.length=m+1:=⟨a.length - 1,by omega⟩;have hk:(ai (a++b)).getD m Pr.none=aG (a.getD m 0):=by rw [cI a b m (by omega),bR (by omega)]
  have hl:lSt (ai (a++b)) a.length=bb (a.getD m 0):=by
   rw [hm];show ((ai (a++b)).getD m Pr.none).br=_;rw [hk]
   rfl
  have hcS:cSt (ai (a++b)) a.length=aP (cSt (ai (a++b)) m) (bd (a.getD m 0)):=by
   rw [hm];show aP _ ((ai (a++b)).getD m Pr.none).cv=_;rw [hk]
   rfl
  have hpS:pSt (ai (a++b)) a.length=bp (pSt (ai (a++b)) m) (bb (a.getD m 0)) (av tPict (a.getD m 0)):=by
   rw [hm];show bp _ ((ai (a++b)).getD m Pr.none).br ((ai (a++b)).getD m Pr.none).pc=_;rw [hk]
   rfl
  rw [hl,decide_eq_true h0] at hj;unfold aW at hj;rw [if_neg (by decide)] at hj;have i2:bN (bb (a.getD m 0)) (bb r)≠1:=fun e=>by rw [if_pos e] at hj;cases hj
  rw [if_neg i2] at hj;have hctl:(bb r=4\/bb r=5\/bb r=8)->cSt (ai (a++b)) a.length=0/\pSt (ai (a++b)) a.length=0:=fun h=>by
   have h5:=iB (f8 h i2);obtain ⟨h6,h7⟩:=fy h5;rw [hcS,hpS,h6,h7];refine ⟨by simp [aP],?_⟩;unfold bp;rw [if_neg (by decide)]
   split
   ·rfl
   ·rw [if_neg (by omega),if_neg (by omega)]
  have c1:cSt (ai (a++b)) (a.length+1)=aP (cSt (ai (a++b)) a.length) ((ai (a++b)).getD a.length Pr.none).cv:=rfl;have c2:pSt (ai (a++b)) (a.length+1)=bp (pSt (ai (a++b)) a.length) ((ai (a++b)).getD a.length Pr.none).br ((ai (a++b)).getD a.length Pr.none).pc:=rfl;have c3:oSt (ai (a++b)) (a.length+1)=(((ai (a++b)).getD a.length Pr.none).br == 6 && !oSt (ai (a++b)) a.length):=rfl;have c4:lSt (ai (a++b)) (a.length+1)=((ai (a++b)).getD a.length Pr.none).br:=rfl;have d1:cSt (ai b) (0+1)=aP 0 ((ai b).getD 0 Pr.none).cv:=rfl;have d2:pSt (ai b) (0+1)=bp 0 ((ai b).getD 0 Pr.none).br ((ai b).getD 0 Pr.none).pc:=rfl;have d3:oSt (ai b) (0+1)=(((ai b).getD 0 Pr.none).br == 6 && !false):=rfl;have d4:lSt (ai b) (0+1)=((ai b).getD 0 Pr.none).br:=rfl;rw [c1,c2,c3,c4,d1,d2,d3,d4,h3,h4,e1,e2,e3];refine ⟨?_,?_,?_,rfl⟩
  ·by_cases h5:bd r=2\/bd r=3
   ·rw [(hctl (gU h5)).1]
   ·unfold aP
    by_cases h6:bd r=1
    ·rw [if_pos h6,if_pos h6]
    ·rw [if_neg h6,if_neg h6,if_neg (by omega),if_neg (by omega),if_neg (by omega),if_neg (by omega)]
  ·by_cases h5:bb r=4\/bb r=5\/bb r=8
   ·rw [(hctl h5).2]
   ·unfold bp
    cases av tPict r with
    |true=>rfl
    |false =>
     simp only [Bool.false_eq_true,if_false];rw [if_neg (show ¬ bb r=4 by omega),if_neg (show ¬ bb r=5 by omega)]
     split <;> rfl
  ·cases h6:bb r == 6 with
   |false=>rfl
   |true =>
    rw [h6] at hj;have ho:oSt (ai (a++b)) a.length=false:=by
     cases ho:oSt (ai (a++b)) a.length with
     |false=>rfl
     |true =>
      rw [ho] at hj
      split at hj
      ·cases hj
      ·split at hj <;> cases hj
    rw [ho]
 |i+1=>by
  obtain ⟨h1,h2,h3,_⟩:=ej (a:=a) hb hj i;have h5:=cp a b (i+1);show cSt _ (a.length+(i+1)+1)=cSt _ (i+1+1)/\pSt _ (a.length+(i+1)+1)=pSt _ (i+1+1)/\oSt _ (a.length+(i+1)+1)=oSt _ (i+1+1)/\lSt _ (a.length+(i+1)+1)=lSt _ (i+1+1);have c1:cSt (ai (a++b)) (a.length+(i+1)+1)=aP (cSt (ai (a++b)) (a.length+(i+1))) ((ai (a++b)).getD (a.length+(i+1)) Pr.none).cv:=rfl;have c2:pSt (ai (a++b)) (a.length+(i+1)+1)=bp (pSt (ai (a++b)) (a.length+(i+1))) ((ai (a++b)).getD (a.length+(i+1)) Pr.none).br ((ai (a++b)).getD (a.length+(i+1)) Pr.none).pc:=rfl;have c3:oSt (ai (a++b)) (a.length+(i+1)+1)=(((ai (a++b)).getD (a.length+(i+1)) Pr.none).br == 6 && !oSt (ai (a++b)) (a.length+(i+1))):=rfl;have c4:lSt (ai (a++b)) (a.length+(i+1)+1)=((ai (a++b)).getD (a.length+(i+1)) Pr.none).br:=rfl;rw [c1,c2,c3,c4,h5,h1,h2,h3];exact ⟨rfl,rfl,rfl,rfl⟩
theorem fs{a b:List Int}{r:Int}{t:List Int}(hb:b=r :: t)(hj:jR (ai (a++b)) a.length=false):∀ i,jR (ai (a++b)) (a.length+i)=jR (ai b) i
 |0=>by rw [a8,Nat.add_zero,hj]
 |i+1=>by
  obtain ⟨h1,h2,h3,h4⟩:=ej (a:=a) hb hj i;rw [dL,dL,h1,h2,h3,h4,cp];rw [decide_eq_true (show 0<a.length+(i+1) by omega),decide_eq_true (show 0<i+1 by omega)]
theorem ft{a b:List Int}(hne:b≠[])(hj:jR (ai (a++b)) a.length=false):aL (a++b)=aL a++aL b:=by
 obtain ⟨r,t,hb⟩ : ∃ r t,b=r :: t:=by
  cases b with
  | nil=>exact absurd rfl hne
  | cons r t=>exact ⟨r,t,rfl⟩
 have h0:=hj;have hj:=fs (a:=a) hb hj;have hlb:b.length=t.length+1:=by rw [hb];rfl
 unfold aL clS;rw [List.length_append,hlb,dK _ _ _ h0,List.map_append,List.map_map];have e1:aA (jR (ai (a++b))) a.length=aA (jR (ai a)) a.length:=b9 _ _ _ fun i hi=>fa i fun k hk=>cI a b k (by omega)
 have e2:aA (fun i=>jR (ai (a++b)) (a.length+i)) (t.length+1)=aA (jR (ai b)) (t.length+1):=b9 _ _ _ fun i _=>hj i
 rw [e1,e2]
 congr 1
 ·refine List.map_congr_left fun p hp=>?_
  have:=eb _ _ _ hp;unfold aB;rw [List.drop_append_of_le_length (by omega),List.take_append_of_le_length (by rw [List.length_drop];omega)]
 ·refine List.map_congr_left fun p hp=>?_
  show aB (a++b) (a.length+p.1,a.length+p.2)=aB b p;unfold aB;simp only;rw [List.drop_length_add_append]
  congr 1
  omega
theorem fw(xs:List Int)(k:Nat)(h:k<(clS xs).length):aL (xs.drop (aF xs k))=(aL xs).drop k:=by
 have hj:=dP xs k h;have hlt:aF xs k<xs.length:=by
  have:=cy xs k _ h (Nat.le_refl _);rw [de] at this;exact this
 have hl:(xs.take (aF xs k)).length=aF xs k:=by rw [List.length_take];omega
 have e:=ft (a:=xs.take (aF xs k)) (b:=xs.drop (aF xs k)) (fun e=>by have:=congrArg List.length e;rw [List.length_drop] at this;simp at this;omega) (by rw [List.take_append_drop,hl];exact hj);rw [List.take_append_drop,dQ xs k (Nat.le_of_lt h)] at e;have e2:=congrArg (List.drop k) e;rw [List.drop_append,List.length_take,du,List.drop_take,Nat.sub_self,List.take_zero,List.nil_append,Nat.min_eq_left (Nat.le_of_lt h),Nat.sub_self,List.drop_zero] at e2;exact e2.symm
theorem gV(xs:List Int)(k:Nat)(h:k<(clS xs).length):cK ((aL xs).getD k [])=wdC ((aL xs).getD k []):=by
 obtain ⟨D,hD⟩:=ab (xs.drop (aF xs k));have hdr:=fw xs k h;rw [<-hD] at hdr;have hml:=du xs;have kT:(clS D).length=(clS xs).length - k:=by rw [<-du,hdr,List.length_drop,du]
 have ht:=dQ D 1 (by omega);have hfl:=ei D 1 (by omega);have h0:(aL D).take 1=[(aL xs).getD k []]:=by
  rw [hdr,List.take_one,List.head?_drop]
  simp [List.getD,List.getElem?_eq_getElem (show k<(aL xs).length by omega)]
 have h1:D.take (aF D 1)=(aL xs).getD k []:=by
  rw [<-hfl,List.map_take];show ((aL D).take 1).flatten=_;rw [h0]
  simp
 rw [h1,h0] at ht;unfold cK;rw [ht]
 simp [cJ]
end Go.Proofs.Ythdphijabffpiaa
