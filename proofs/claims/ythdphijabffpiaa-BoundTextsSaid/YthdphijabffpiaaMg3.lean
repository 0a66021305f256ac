import Derived.Test.YthdphijabffpiaaZ0
import Derived.Test.YthdphijabffpiaaSegD
import Derived.Test.YthdphijabffpiaaMg1
import Derived.Test.YthdphijabffpiaaTabE
import Derived.Test.YthdphijabffpiaaMg2
set_option maxRecDepth 100000
set_option linter.unusedVariables false
set_option linter.unusedSimpArgs false
set_option maxHeartbeats 400000
namespace Go.Proofs.Ythdphijabffpiaa
open Go.RowKit Go.ChangeShapes Go.WideShapes
def cSt(xs:List Pr):Nat->Int
 | 0=>0
 | k+1=>aP (cSt xs k) (xs.getD k Pr.none).cv
def pSt(xs:List Pr):Nat->Int
 | 0=>0
 | k+1=>bp (pSt xs k) (xs.getD k Pr.none).br (xs.getD k Pr.none).pc
def oSt(xs:List Pr):Nat->Bool
 | 0=>false
 | k+1=>(xs.getD k Pr.none).br == 6 && !oSt xs k
def lSt(xs:List Pr):Nat->Int
 | 0=>0
 | k+1=>(xs.getD k Pr.none).br
def ed(xs:List Pr):Nat->Nat->Bool
 | 0,_=>false
 | k+1,n=>if (xs.getD k Pr.none).cv=1 then decide (0<n) else if (xs.getD k Pr.none).cv=2 then ed xs k (n+1) else if (xs.getD k Pr.none).cv=3 then ed xs k n else false
def eT(xs:List Pr):Nat->Bool
 | 0=>false
 | k+1=>if (xs.getD k Pr.none).pc=true then true else if (xs.getD k Pr.none).br=4 then eT xs k else false
def ee(xs:List Pr):Nat->Nat
 | 0=>0
 | k+1=>if (xs.getD k Pr.none).br=6 then ee xs k+1 else 0
theorem gF(xs:List Pr)(k:Nat):cSt xs k=0\/cSt xs k=1\/cSt xs k=2:=by
 induction k with
 | zero=>exact .inl rfl
 | succ k ih=>unfold cSt aP;split <;> (try split) <;> (try split) <;> omega
theorem gG(xs:List Pr)(k:Nat):pSt xs k=0\/pSt xs k=1\/pSt xs k=2:=by
 cases k with
 | zero=>exact .inl rfl
 | succ k=>unfold pSt bp;split <;> (try split) <;> (try split) <;> (try split) <;> omega
theorem gH(xs:List Pr)(k:Nat):∀ n,ed xs k n=(if n=0 then decide (cSt xs k=2) else decide (cSt xs k≠0)):=by
 induction k with
 |zero=>intro n;simp [ed,cSt]
 |succ k ih =>
  intro n;have hb:=gF xs k;unfold ed cSt aP;simp only [ih];generalize (xs.getD k Pr.none).cv=c;generalize cSt xs k=s at *;have h0:n+1≠0:=by omega
  by_cases h1:c=1
  ·subst h1;by_cases hn:n=0 <;> simp [hn];omega
  by_cases h2:c=2
  ·subst h2;rcases hb with rfl | rfl | rfl <;> by_cases hn:n=0 <;> simp [hn]
  by_cases h3:c=3
  ·subst h3;simp
  ·simp [h1,h2,h3]
theorem gI(xs:List Pr)(k:Nat):eT xs k=decide (pSt xs k=1):=by
 induction k with
 |zero=>simp [eT,pSt]
 |succ k ih =>
  unfold eT pSt bp;simp only [ih];generalize (xs.getD k Pr.none).br=b;generalize (xs.getD k Pr.none).pc=c;generalize pSt xs k=s
  cases c with
  |true=>simp
  |false =>
   by_cases h4:b=4
   ·subst h4;by_cases h1:s=1 <;> simp [h1]
   ·by_cases h1:s=1
    ·by_cases h5:b=5 <;> simp [h1,h4,h5]
    ·simp [h1,h4]
theorem gJ(xs:List Pr)(k:Nat):decide (ee xs k % 2=1)=oSt xs k:=by
 induction k with
 |zero=>simp [ee,oSt]
 |succ k ih =>
  unfold ee oSt;rw [<-ih];generalize (xs.getD k Pr.none).br=b;generalize ee xs k=m
  by_cases h:b=6
  ·subst h
   by_cases h2:m % 2=1
   ·have h3:¬ (m+1) % 2=1:=by omega
    simp [h2,h3]
   ·have h3:(m+1) % 2=1:=by omega
    simp [h2,h3]
  ·simp [h]
theorem gK(xs:List Pr)(k:Nat)(h:oSt xs k=true):lSt xs k=6/\0<k:=by
 cases k with
 | zero=>simp [oSt] at h
 | succ k=>simp [oSt] at h;exact ⟨h.1,by omega⟩
def io(xs:List Pr)(i:Nat):Bool:=(xs.getD i Pr.none).pc && (decide (2<=i) && (decide ((xs.getD (i - 1) Pr.none).br=5) && (!(xs.getD (i - 1) Pr.none).pc && eT xs (i - 1))))
theorem hO(xs:List Pr)(i:Nat):io xs i=((xs.getD i Pr.none).pc && decide (pSt xs i=2)):=by
 unfold io
 congr 1
 cases i with
 |zero=>simp [pSt]
 |succ k =>
  rw [gI];simp only [Nat.add_sub_cancel];have hb:=gG xs k
  cases k with
  |zero=>simp only [pSt,bp];cases (xs.getD 0 Pr.none).pc <;> simp
  |succ m =>
   rw [decide_eq_true (by omega),Bool.true_and];show _=decide (bp (pSt xs (m+1)) (xs.getD (m+1) Pr.none).br (xs.getD (m+1) Pr.none).pc=2);unfold bp;generalize (xs.getD (m+1) Pr.none).br=b;generalize (xs.getD (m+1) Pr.none).pc=c;generalize pSt xs (m+1)=s
   cases c with
   |true=>simp
   |false =>
    by_cases h1:s=1
    ·by_cases h4:b=4
     ·simp [h1,h4]
     ·by_cases h5:b=5 <;> simp [h1,h4,h5]
    ·simp [h1]
def iA(xs:List Pr)(i:Nat):Bool:=(xs.getD i Pr.none).cv == 1 && ed xs i 0
def jR(xs:List Pr)(i:Nat):Bool :=
 if i=0 then false else if bN (xs.getD (i - 1) Pr.none).br (xs.getD i Pr.none).br=1 then true else if iA xs i=true then true else if io xs i=true then true
 else if bN (xs.getD (i - 1) Pr.none).br (xs.getD i Pr.none).br≠2 then false else if (xs.getD i Pr.none).br≠6 then false else decide (ee xs i % 2=1)
theorem dL(xs:List Pr)(i:Nat):jR xs i=aW (decide (0<i)) (lSt xs i) (cSt xs i) (pSt xs i) (oSt xs i) (xs.getD i Pr.none).br (xs.getD i Pr.none).pc (xs.getD i Pr.none).cv:=by
 cases i with
 |zero=>simp [jR,aW]
 |succ k =>
  have hl:(xs.getD (k+1 - 1) Pr.none).br=lSt xs (k+1):=rfl;have ho:=gK xs (k+1);unfold jR aW iA;rw [hl,gH,if_pos rfl,hO,gJ];rw [if_neg (show ¬ k+1=0 by omega),if_neg (show ¬ decide (0<k+1)=false by simp)];generalize (xs.getD (k+1) Pr.none).br=b;generalize (xs.getD (k+1) Pr.none).pc=c;generalize (xs.getD (k+1) Pr.none).cv=v;generalize cSt xs (k+1)=s1;generalize pSt xs (k+1)=s2;generalize oSt xs (k+1)=od at *;generalize lSt xs (k+1)=la at *
  by_cases h1:bN la b=1
  ·simp [h1]
  ·rw [if_neg h1,if_neg h1]
   by_cases h2:v=1/\s1=2
   ·rw [if_pos h2,if_pos (by simp [h2.1,h2.2])]
   ·rw [if_neg h2,if_neg (by simpa using h2)]
    by_cases h3:c=true/\s2=2
    ·rw [if_pos h3,if_pos (by simp [h3.1,h3.2])]
    ·rw [if_neg h3,if_neg (by simpa using h3)]
     by_cases h6:b=6
     ·subst h6
      cases od with
      |true =>
       rw [(ho rfl).1]
       rfl
      |false=>simp
     ·simp [h6]
section
attribute [local go_sem] Try.zeroValue57
attribute [local simp] Try.zeroCells57_ne
theorem bl(P:Program)(t:TypeId)(T:List (Int × Int))(z:Array Value)(n:Nat)(hi:(P.info? t).map (·.size)=some (2 * n))(hz:z.size=2 * n)(hT:T.length=n)(w:World) :
  (storeCells ⟨w.heap.size,0,none⟩ (aj .i32 T) 0).run P (w.alloc (.cells z t))=.ok () (w.alloc (.cells (aj .i32 T).toArray t)):=by
 have hs:=aS .i32 T n hT;have:=run_storeCells_new (P:=P) w t z (aj .i32 T).toArray (by rw [hs];exact hi) (by rw [hs];exact hz) (bg _ _)
 simpa using this
theorem am{k:IntKind}{w:World}{T:List (Int × Int)}{t:TypeId}{n cap:Nat}(hn:T.length=n):HeldT k (w.alloc (.cells (aj k T).toArray t)) (.slice (some ⟨w.heap.size,0,none⟩) n cap) T:=by
 subst hn;exact fM (heap_alloc_last w _)
theorem gw(r:Int)(w:World):Calls Try.prog 27 #[.int .i32 r] w (Gives w (.bool (av tPict r))):=by
 have hst:=bl Try.prog 57 tPict Try.zeroCells57 78 (by kernel_rfl) (by kernel_rfl) cr
 go_enter Try.func27,Try.ntmps27
 go_wp2_with fail
 refine (ep _).mono ?_;rintro e w1 ⟨rfl,b1⟩
 go_wp2_with fail
 refine (ap _ tPict r _ (am cr) gB (by rw [cr];decide)).mono ?_;rintro e w2 ⟨rfl,b2⟩;clear hst;go_wp2;go_ret;exact ⟨ae,b1.trans ((iF _ _).trans (b2.mono (by simp)) |>.mono b1.size)⟩
end
end Go.Proofs.Ythdphijabffpiaa
