import Derived.Test.YthdphijabffpiaaZ0
import Derived.Test.YthdphijabffpiaaHgC
import Derived.Test.YthdphijabffpiaaPairsJ
import Derived.Test.YthdphijabffpiaaMg1
import Derived.Test.YthdphijabffpiaaSearch
set_option maxRecDepth 100000
set_option linter.unusedVariables false
set_option linter.unusedSimpArgs false
set_option maxHeartbeats 400000
namespace Go.Proofs.Ythdphijabffpiaa
open Go.RowKit Go.ChangeShapes Go.WideShapes
def aP(n cj:Int):Int:=if cj=1 then 1 else if cj=2/\n≠0 then 2 else if cj=3 then n else 0
def bp(n br:Int)(pc:Bool):Int:=if pc=true then 1 else if n≠1 then 0 else if br=4 then 1 else if br=5 then 2 else 0
theorem gL(w:World)(br:Int)(pc:Bool)(cj ea:Int):∃ W,W=w.alloc (.cells #[Value.int .i64 br,.bool pc,.int .i64 cj,.int .i64 ea] 42)/\Has W w.heap.size [Value.int .i64 br,.bool pc,.int .i64 cj,.int .i64 ea] 42/\Below w.heap.size w W :=
 ⟨_,rfl,Has.new w _ _,iF _ _⟩
theorem fp(n cj:Int):((cj == 1)=true/\aP n cj=1)\/((cj == 1)=false/\(cj == 2)=true/\(n == 0)=false/\aP n cj=2)\/((cj == 1)=false/\(cj == 2)=true/\(n == 0)=true/\(cj == 3)=false/\aP n cj=0)
  \/ ((cj == 1)=false/\(cj == 2)=false/\(cj == 3)=true/\aP n cj=n)\/((cj == 1)=false/\(cj == 2)=false/\(cj == 3)=false/\aP n cj=0):=by
 unfold aP
 by_cases h1:cj=1
 ·simp [h1]
 by_cases h2:cj=2
 ·by_cases h3:n=0 <;> simp [h2,h3]
 by_cases h3:cj=3
 ·simp [h3]
 ·simp [h1,h2,h3]
theorem cW(n br:Int)(pc:Bool)(cj ea:Int)(w:World)(n0:0<=n)(n1:n<=255):Calls Try.prog 24 #[.int .u8 n,.agg #[.int .i64 br,.bool pc,.int .i64 cj,.int .i64 ea]] w (Gives w (.int .u8 (aP n cj))):=by
 rcases fp n cj with ⟨h1,hs⟩ | ⟨h1,h2,h3,hs⟩ | ⟨h1,h2,h3,h4,hs⟩ | ⟨h1,h2,h3,hs⟩ | ⟨h1,h2,h3,hs⟩
 all_goals
  rw [hs];clear hs
  go_enter Try.func24,Try.ntmps24
  go_wp2;go_ret;exact ⟨ae,iF _ _⟩
theorem fU(n br:Int)(pc:Bool):(pc=true/\bp n br pc=1)\/(pc=false/\(n == 1)=false/\bp n br pc=0)\/(pc=false/\n=1/\(br == 4)=true/\bp n br pc=1)\/(pc=false/\n=1/\(br == 4)=false/\(br == 5)=true/\bp n br pc=2)\/(pc=false/\n=1/\(br == 4)=false/\(br == 5)=false/\bp n br pc=0):=by
 unfold bp
 cases pc with
 |true=>simp
 |false =>
  by_cases h1:n=1
  ·by_cases h2:br=4
   ·simp [h1,h2]
   ·by_cases h3:br=5 <;> simp [h1,h2,h3]
  ·simp [h1]
theorem dr(n br:Int)(pc:Bool)(cj ea:Int)(w:World)(n0:0<=n)(n1:n<=255):Calls Try.prog 25 #[.int .u8 n,.agg #[.int .i64 br,.bool pc,.int .i64 cj,.int .i64 ea]] w (Gives w (.int .u8 (bp n br pc))):=by
 rcases fU n br pc with ⟨rfl,hs⟩ | ⟨rfl,h2,hs⟩ | ⟨rfl,rfl,h3,hs⟩ | ⟨rfl,rfl,h3,h4,hs⟩ | ⟨rfl,rfl,h3,h4,hs⟩
 all_goals
  rw [hs];clear hs
  go_enter Try.func25,Try.ntmps25
  go_wp2;go_ret;exact ⟨ae,iF _ _⟩
def HeldT(k:IntKind)(w:World)(v:Value)(T:List (Int × Int)):Prop :=
 ∃ ao cap,v=.slice ao T.length cap/\∀ i,i<T.length->∃ b off,ao=some ⟨b,off,none⟩/\b<w.heap.size/\w.cell? ⟨b,off+i * 2,none⟩=some (.int k (T.getD i (0,0)).1)/\w.cell? ⟨b,off+i * 2+1,none⟩=some (.int k (T.getD i (0,0)).2)
theorem HeldT.below{k:IntKind}{w w':World}{v:Value}{T:List (Int × Int)}(h:HeldT k w v T)(hb:Below w.heap.size w w'):HeldT k w' v T:=by
 obtain ⟨ao,cap,rfl,hc⟩:=h;refine ⟨ao,cap,rfl,fun i hi=>?_⟩;obtain ⟨b,off,rfl,hlt,h1,h2⟩:=hc i hi;exact ⟨b,off,rfl,by have:=hb.size;omega,(hb.cell (p:=⟨b,_,none⟩) hlt).trans h1,(hb.cell (p:=⟨b,_,none⟩) hlt).trans h2⟩
theorem HeldT.view{k:IntKind}{w:World}{v:Value}{T:List (Int × Int)}(h:HeldT k w v T):∃ ao cap,v=.slice ao T.length cap/\∀ i,i<T.length->∃ b off,ao=some ⟨b,off,none⟩/\b<w.heap.size/\w.cell? ⟨b,off+i * 2,none⟩=some (.int k (T.getD i (0,0)).1)/\w.cell? ⟨b,off+i * 2+1,none⟩=some (.int k (T.getD i (0,0)).2):=h
def aj(k:IntKind)(T:List (Int × Int)):List Value:=T.flatMap fun p=>[.int k p.1,.int k p.2]
theorem eq(k:IntKind)(T:List (Int × Int)):(aj k T).length=2 * T.length:=by
 induction T with
 | nil=>rfl
 | cons p T ih=>simp only [aj,List.flatMap_cons,List.length_append,List.length_cons,List.length_nil] at *;omega
theorem ck(k:IntKind):∀ (T:List (Int × Int)) (i:Nat),i<T.length->(aj k T)[i * 2]? = some (.int k (T.getD i (0,0)).1)/\(aj k T)[i * 2+1]? = some (.int k (T.getD i (0,0)).2)
 |[],i,h=>absurd h (Nat.not_lt_zero _)
 |p :: T,0,_=>⟨rfl,rfl⟩
 |p :: T,i+1,h=>by
  have:=ck k T i (by simpa using h);rw [show (i+1) * 2=i * 2+1+1 by omega]
  simpa [aj] using this
theorem fM{k:IntKind}{w:World}{g:Nat}{T:List (Int × Int)}{t:TypeId}{cap:Nat}(h:Has w g (aj k T) t):HeldT k w (.slice (some ⟨g,0,none⟩) T.length cap) T:=by
 refine ⟨_,_,rfl,fun i hi=>⟨g,0,rfl,h.lt,?_,?_⟩⟩
 ·rw [Nat.zero_add];exact h.cell _ _ (ck k T i hi).1
 ·rw [Nat.zero_add];exact h.cell _ _ (ck k T i hi).2
def cP(T:List (Int × Int))(r:Int)(i:Nat):Bool:=decide (r<=(T.getD i (0,0)).2)
theorem bQ{T:List (Int × Int)}{i:Nat}(h:i<T.length):T.getD i (0,0)=T[i]:=by simp [List.getD,List.getElem?_eq_getElem h]
theorem fN{T:List (Int × Int)}{r:Int}(hu:be T=true):∀ a b,a<=b->b<T.length->cP T r a=true->cP T r b=true:=by
 intro a b hab hb h;unfold cP at *;rw [bQ hb];rw [bQ (by omega)] at h
 rcases Nat.lt_or_ge a b with hlt | hge
 ·have h1:=gy hu a b hlt hb;have h2:=gx hu b hb
  simp at h ⊢
  omega
 ·obtain rfl:a=b:=by omega
  exact h
theorem g9(w:World)(b1 b2:Nat)(ao:Option Addr)(n cap:Nat)(T:List (Int × Int))(r:Int)(hb1:w.cell? ⟨b1,0,none⟩=some (.slice ao n cap))(hb2:w.cell? ⟨b2,0,none⟩=some (.int .i32 r))(hh:HeldT .i32 w (.slice ao n cap) T)(i:Nat)(hi:i<T.length)(hl:T.length<=1000000) :
  Calls Try.prog 55 (#[.int .i64 i] ++ #[.pointer (some ⟨b1,0,none⟩),.pointer (some ⟨b2,0,none⟩)]) w (Gives w (.bool (cP T r i))):=by
 obtain ⟨ao',cap',e,hc⟩:=hh
 cases e
 obtain ⟨b,off,rfl,hb,h1,h2⟩:=hc i hi;unfold cP;generalize (T.getD i (0,0)).2=y at *;clear hc h1
 go_enter Try.func55,Try.ntmps55
 go_wp2
 go_quiet (fail)
 go_wp2;go_ret;exact ⟨ae,(Below.refl _ _).drewN _⟩
theorem ap(v:Value)(T:List (Int × Int))(r:Int)(w:World)(hh:HeldT .i32 w v T)(hu:be T=true)(hl:T.length<=1000000) :
  Calls Try.prog 37 #[v,.int .i32 r] w (Gives w (.bool (av T r))):=by
 obtain ⟨ao,cap,rfl,hc⟩:=hh.view;obtain ⟨W,hW⟩:=ab ((w.alloc (.cells #[.slice ao T.length cap] 60)).alloc (.cells #[.int .i32 r] 21));have hb1:Has W w.heap.size [.slice ao T.length cap] 60:=by rw [hW];exact (Has.new w _ _).alloc _
 have hb2:Has W (w.heap.size+1) [.int .i32 r] 21:=by rw [hW];have:=Has.new (w.alloc (.cells #[.slice ao T.length cap] 60)) [.int .i32 r] 21;simpa using this
 have hl0:Below w.heap.size w W:=by rw [hW];exact (iF _ _).alloc (by simp) _
 have hs:=fg 55 #[.pointer (some ⟨w.heap.size,0,none⟩),.pointer (some ⟨w.heap.size+1,0,none⟩)] T.length (cP T r) W (enters_of Try.func55 (by kernel_rfl) rfl) (by omega)
  (fun w' hb i hi=>g9 w' w.heap.size (w.heap.size+1) ao T.length cap T r ((hb1.below hb hb1.lt).cell 0 _ rfl) ((hb2.below hb hb2.lt).cell 0 _ rfl) ((hh.below hl0).below hb) i hi hl) (fN hu)
 have HS:=aa hs;have HC:=aa hc;have HU:=aa hu;have HL:=aa hl0;have kc:=aa hb1;have jl:=aa hb2;clear hs hc hu hl0 hb1 hb2 hh
 go_enter Try.func37,Try.ntmps37
 go_wp2_with fail
 rw [<-hW];refine HS.out.mono ?_;rintro e w' ⟨k,hk,rfl,iW,jj,iN⟩;have hb1:=(kc.out.below iN kc.out.lt).cell 0 _ rfl;have hb2:=(jl.out.below iN jl.out.lt).cell 0 _ rfl;have hbl:Below w.heap.size w w':=HL.out.trans (iN.mono HL.out.size)
 by_cases hkl:k<T.length
 ·obtain ⟨b,off,rfl,hb,h1,h2⟩:=HC.out k hkl;have h1:=(hbl.cell (p:=⟨b,off+k * 2,none⟩) hb).trans h1;have he:av T r=decide ((T.getD k (0,0)).1<=r):=by
   rw [bQ hkl];refine er HU.out k hkl (fun j hj=>?_) ?_
   ·have:=iW j hj;unfold cP at this;rw [bQ (by omega)] at this
    simpa using this
   ·have:=jj k (Nat.le_refl _) hkl;unfold cP at this;rw [bQ hkl] at this
    simpa using this
  have HE:=aa he;clear he iW jj h2 iN hW;generalize (T.getD k (0,0)).1=y at *;go_wp2
  go_quiet (fail)
  go_wp2;go_ret;exact ⟨az (by rw [HE.out];rfl),hbl.drewN _⟩
 ·have he:av T r=false:=fh fun j hj=>by
   have:=iW j (by omega);unfold cP at this;rw [bQ hj] at this
   simpa using this
  have HE:=aa he;obtain rfl:k=T.length:=by omega
  clear he iW jj iN hW;go_wp2
  go_quiet (fail)
  go_wp2;go_ret;exact ⟨az (by rw [HE.out];rfl),hbl.drewN _⟩
end Go.Proofs.Ythdphijabffpiaa
