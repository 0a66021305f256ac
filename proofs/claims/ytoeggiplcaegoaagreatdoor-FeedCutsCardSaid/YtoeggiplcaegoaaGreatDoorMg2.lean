import Derived.Test.YtoeggiplcaegoaaGreatDoorZ0
import Derived.Test.YtoeggiplcaegoaaGreatDoorProg
import Derived.Test.YtoeggiplcaegoaaGreatDoorMg1
import Derived.Shelf.Abstract
import Derived.Deep.LoopGhost
import Derived.Lib.SmallJoins
import Derived.Deep.Slices
import Derived.Laws.StructEq
set_option maxRecDepth 100000
set_option linter.unusedVariables false
set_option linter.unusedSimpArgs false
set_option maxHeartbeats 400000
namespace Go.Proofs.YtoeggiplcaegoaaGreatDoor
open Go.RowKit Go.ChangeShapes Go.WideShapes
def AB(w:World)(n:Nat)(p:Nat->Bool)(e:Ending)(w':World):Prop :=
 ∃ k:Nat,k<=n/\e=.returned (.int .i64 k)/\(∀ j,j<k->p j=false)/\(∀ j,k<=j->j<n->p j=true)/\Below w.heap.size w w'
theorem rh(g:FuncId)(cb:Array Value)(n:Nat)(p:Nat->Bool)(w:World)(eg:∀ args w,(callFunc g args).run Tryz.prog w=.ok (.enter g args) w)(hn:n<=1000000000)
  (hf:∀ w',Below w.heap.size w w'->∀ i,i<n->Calls Tryz.prog g (#[.int .i64 i]++cb) w' fun e w''=>e=.returned (.bool (p i))/\Below w'.heap.size w' w'')
  (hm:∀ a b,a<=b->b<n->p a=true->p b=true) :
  Calls Tryz.prog 281 #[.int .i64 n,.func (.func g) #[] cb] w (AB w n p):=by
 have HF:=ab hf;have M:=ab hm;clear hf hm
 go_enter Tryz.func281,Tryz.ntmps281
 go_wp2
 go_loopg [5,6] n (fun kx s5 s6 wr=>∃ (lo hi:Nat),s5=.int .i64 lo/\s6=.int .i64 hi/\lo<=hi/\hi<=n/\hi - lo<=kx/\Below w.heap.size w wr /\
  Go.Aside ((∀ t,t<lo->p t=false)/\(∀ t,hi<=t->t<n->p t=true)))
 case atStart=>exact ⟨0,n,rfl,rfl,Nat.zero_le _,Nat.le_refl _,by omega,Below.refl _ _,(⟨fun t ht=>absurd ht (Nat.not_lt_zero _),fun t h1 h2=>by omega⟩ : (∀ t,t<0->p t=false)/\(∀ t,n<=t->t<n->p t=true))⟩
 case round =>
  obtain ⟨lo,hi,rfl,rfl,L6,Ce,hg,AY,I⟩:=hrel
  by_cases hlt:lo<hi
  ·have hc:=HF.out _ AY ((lo+hi) / 2) (by omega);rw [show (((lo+hi) / 2:Nat):Int)=((lo:Int)+(hi:Int)) / 2 by omega] at hc
   cases hp:p ((lo+hi) / 2) <;> rw [hp] at hc
   ·have HP:=ab hp;clear hp
    go_wp2_with (go_at_fn g;refine hc.mono ?_;rintro e w' ⟨rfl,Ob⟩)
    go_roundg (hi - ((lo+hi) / 2+1))
    case measure=>omega
    case rel =>
     have I2:Go.Aside ((∀ t,t<(lo+hi) / 2+1->p t=false)/\(∀ t,hi<=t->t<n->p t=true)):=⟨fun t ht=>(by
      cases h:p t with
      | false=>rfl
      | true=>have:=M.out t ((lo+hi) / 2) (by omega) (by omega) h;rw [HP.out] at this;cases this),I.out.2⟩
     exact ⟨(lo+hi) / 2+1,hi,by rw [show ((lo:Int)+(hi:Int)) / 2+1=(((lo+hi) / 2+1:Nat):Int) by omega],rfl,by omega,Ce,Nat.le_refl _,AY.trans (Ob.mono AY.size),I2⟩
   ·have HP:=ab hp;clear hp
    go_wp2_with (go_at_fn g;refine hc.mono ?_;rintro e w' ⟨rfl,Ob⟩)
    go_roundg ((lo+hi) / 2 - lo)
    case measure=>omega
    case rel =>
     have I2:Go.Aside ((∀ t,t<lo->p t=false)/\(∀ t,(lo+hi) / 2<=t->t<n->p t=true)):=⟨I.out.1,fun t ht Jt=>M.out ((lo+hi) / 2) t ht Jt HP.out⟩;exact ⟨lo,(lo+hi) / 2,rfl,by rw [show ((lo:Int)+(hi:Int)) / 2=(((lo+hi) / 2:Nat):Int) by omega],by omega,by omega,Nat.le_refl _,AY.trans (Ob.mono AY.size),I2⟩
  ·obtain rfl:hi=lo:=by omega
   have HI:=ab I.out;clear I;go_wp2;go_ret;exact ⟨hi,Ce,rfl,HI.out.1,HI.out.2,AY⟩
section
open Go.Joins Go.Deep
structure Pr where
 br:Int
 pc:Bool
 cv:Int
 ea:Int
def HeldP(w:World)(v:Value)(xs:List Pr):Prop :=
 ∃ ao cap,v=.slice ao xs.length cap/\∀ i (h:i<xs.length),∃ b off,ao=some ⟨b,off,none⟩/\b<w.heap.size/\w.cell? ⟨b,off+i * 4,none⟩=some (.int .i64 xs[i].br)/\w.cell? ⟨b,off+i * 4+1,none⟩=some (.bool xs[i].pc) /\
  w.cell? ⟨b,off+i * 4+2,none⟩=some (.int .i64 xs[i].cv)/\w.cell? ⟨b,off+i * 4+3,none⟩=some (.int .i64 xs[i].ea)
theorem HeldP.below{w w':World}{v:Value}{xs:List Pr}(h:HeldP w v xs)(hb:Below w.heap.size w w'):HeldP w' v xs:=by
 obtain ⟨ao,cap,rfl,hc⟩:=h;refine ⟨ao,cap,rfl,fun i hi=>?_⟩;obtain ⟨b,off,rfl,hlt,h1,h2,h3,h4⟩:=hc i hi;exact ⟨b,off,rfl,by have:=hb.size;omega,(hb.cell (p:=⟨b,_,none⟩) hlt).trans h1,(hb.cell (p:=⟨b,_,none⟩) hlt).trans h2,(hb.cell (p:=⟨b,_,none⟩) hlt).trans h3,(hb.cell (p:=⟨b,_,none⟩) hlt).trans h4⟩
theorem HeldP.view{w:World}{v:Value}{xs:List Pr}(h:HeldP w v xs):∃ ao cap,v=.slice ao xs.length cap/\∀ i (h:i<xs.length),∃ b off,ao=some ⟨b,off,none⟩/\b<w.heap.size/\w.cell? ⟨b,off+i * 4,none⟩=some (.int .i64 xs[i].br)/\w.cell? ⟨b,off+i * 4+1,none⟩=some (.bool xs[i].pc) /\
 w.cell? ⟨b,off+i * 4+2,none⟩=some (.int .i64 xs[i].cv)/\w.cell? ⟨b,off+i * 4+3,none⟩=some (.int .i64 xs[i].ea):=h
def Pr.none:Pr:=⟨0,false,0,0⟩
theorem HeldP.at{w:World}{ao:Option Addr}{n cap:Nat}{xs:List Pr}(h:HeldP w (.slice ao n cap) xs):n=xs.length/\∀ i,i<xs.length->∃ b off,ao=some ⟨b,off,none⟩/\b<w.heap.size/\w.cell? ⟨b,off+i * 4,none⟩=some (.int .i64 (xs.getD i Pr.none).br)/\w.cell? ⟨b,off+i * 4+1,none⟩=some (.bool (xs.getD i Pr.none).pc) /\
  w.cell? ⟨b,off+i * 4+2,none⟩=some (.int .i64 (xs.getD i Pr.none).cv)/\w.cell? ⟨b,off+i * 4+3,none⟩=some (.int .i64 (xs.getD i Pr.none).ea):=by
 obtain ⟨ao',cap',e,hc⟩:=h
 cases e
 refine ⟨rfl,fun i hi=>?_⟩;have:=hc i hi;rw [show xs[i]=xs.getD i Pr.none by simp [List.getD,List.getElem?_eq_getElem hi]] at this;exact this
end
theorem fh{P:Program}(w0:World){ops:Array Oper}{rest:List Oper}{o:Oper}{a:Act}{Q:Exit->Act->World->Prop}(hgd:o.guard=none)(s x:Operand)(t:TypeId)
  (ho:o.op=.call { callee:=.builtin .append,args:=#[s,x],argTypes:=#[t,t] })
  (base:Nat) (e:TypeId) (z:Value) (size bytes:Nat) (ht:P.underlying t=some (.slice e)) (CB:(P.info? e).map (fun i=>(i.zero,i.size,i.bytes))=some (some z,size,bytes)) (hzs:z.cells.size=size) (hsz:0<size)
  (v:Value) (n:Nat) (xs:List Value) (hs:a.eval s=v) (hown:w0.ownsRow base e size v n xs)
  (C:List Value) (m c:Nat) (hx:a.eval x=.slice (some ⟨w0.heap.size,0,none⟩) m c) (hl:C.length=m * size) (h1:∀ u ∈ C,u.oneCell'=true)
  (hbytes:(n+m) * bytes<=140737488355328) (hb0:n+m<=140737488355328) (hbase:base<=w0.heap.size)
  (h:∀ v' w',w'.ownsRow base e size v' (n+m) (xs++C)->Below base w0 w'->wpList P ops Q rest (a.put o.dst v') w') :
  wpList P ops Q (o :: rest) a (w0.alloc (.cells C.toArray e)):=by
 obtain ⟨i0,hi,hz0,hz1,hz2⟩:=info_parts CB;refine wpList_append_own _ hgd s x t ho base e i0 z size bytes ht hi hz0 hz1 hz2 hzs hsz v n xs hs (hown.alloc _) ⟨w0.heap.size,0,none⟩ m c C hx (by omega) (il w0 C e) h1 (by unfold maxLen;omega) hbytes (by simp;omega) ?_;intro v' w' hown' hgrow _;refine h v' w' hown' (((Below.refl base w0).alloc hbase _).grown hgrow (by simp;omega) fun k hk=>((hown.alloc (.cells C.toArray e)).lt k hk).1)
def kV(q:Pr):List Value:=[.int .i64 q.br,.bool q.pc,.int .i64 q.cv,.int .i64 q.ea]
def bV(l:List Pr):List Value:=l.flatMap kV
theorem kA:∀ (l:List Pr) (i:Nat) (h:i<l.length),(bV l)[i * 4]? = some (.int .i64 l[i].br)/\(bV l)[i * 4+1]? = some (.bool l[i].pc)/\(bV l)[i * 4+2]? = some (.int .i64 l[i].cv)/\(bV l)[i * 4+3]? = some (.int .i64 l[i].ea)
 |[],i,h=>absurd h (Nat.not_lt_zero _)
 |q :: l,0,_=>⟨rfl,rfl,rfl,rfl⟩
 |q :: l,i+1,h=>by
  have:=kA l i (by simpa using h);rw [show (i+1) * 4=i * 4+4 by omega,show i * 4+4+1=i * 4+1+4 by omega,show i * 4+4+2=i * 4+2+4 by omega,show i * 4+4+3=i * 4+3+4 by omega]
  simpa [bV,kV] using this
theorem oG(l:List Pr):(bV l).length=4 * l.length:=by
 induction l with
 | nil=>rfl
 | cons q l ih=>simp only [bV,List.flatMap_cons,List.length_append,kV,List.length_cons,List.length_nil] at *;omega
theorem iF{w:World}{B e:Nat}{v:Value}{n:Nat}{l:List Pr}(h:w.ownsRow B e 4 v n (bV l)):HeldP w v l:=by
 have hl:l.length=n:=by have:=h.1;rw [oG] at this;omega
 subst hl
 rcases h.2 with ⟨rfl,hn⟩ | ⟨g,cap,cur,rfl,hb,hg,h1,h2,h3,h4⟩
 ·have:l=[]:=List.eq_nil_of_length_eq_zero hn;subst this;exact ⟨none,0,rfl,fun i hi=>by simp at hi⟩
 ·refine ⟨some ⟨g,0,none⟩,cap,rfl,fun i hi=>⟨g,0,rfl,(Array.getElem?_eq_some_iff.1 hg).1,?_⟩⟩;obtain ⟨k0,k1,k2,k3⟩:=kA l i hi;have c0:=h.cells (g:=g) rfl _ _ k0;have c1:=h.cells (g:=g) rfl _ _ k1;have c2:=h.cells (g:=g) rfl _ _ k2;have c3:=h.cells (g:=g) rfl _ _ k3;rw [Addr.add_lit] at c0 c1 c2 c3;simp only [Nat.zero_add] at *;exact ⟨c0,c1,c2,c3⟩
theorem pz(l:List Pr)(k:Nat)(h:k<l.length):bV (l.take (k+1))=bV (l.take k)++kV (l.getD k Pr.none):=by
 unfold bV;rw [List.take_succ_eq_append_getElem h,List.flatMap_append,List.flatMap_cons,List.flatMap_nil,List.append_nil,show l.getD k Pr.none=l[k] by simp [List.getD,List.getElem?_eq_getElem h]]
def dn(n cj:Int):Int:=if cj=1 then 1 else if cj=2/\n≠0 then 2 else if cj=3 then n else 0
def eB(n br:Int)(pc:Bool):Int:=if pc=true then 1 else if n≠1 then 0 else if br=4 then 1 else if br=5 then 2 else 0
theorem wK(w:World)(br:Int)(pc:Bool)(cj ea:Int):∃ W,W=w.alloc (.cells #[Value.int .i64 br,.bool pc,.int .i64 cj,.int .i64 ea] 33)/\Has W w.heap.size [Value.int .i64 br,.bool pc,.int .i64 cj,.int .i64 ea] 33/\Below w.heap.size w W :=
 ⟨_,rfl,Has.new w _ _,AU _ _⟩
theorem rq(n cj:Int):((cj == 1)=true/\dn n cj=1)\/((cj == 1)=false/\(cj == 2)=true/\(n == 0)=false/\dn n cj=2)\/((cj == 1)=false/\(cj == 2)=true/\(n == 0)=true/\(cj == 3)=false/\dn n cj=0)
  \/ ((cj == 1)=false/\(cj == 2)=false/\(cj == 3)=true/\dn n cj=n)\/((cj == 1)=false/\(cj == 2)=false/\(cj == 3)=false/\dn n cj=0):=by
 unfold dn
 by_cases h1:cj=1
 ·simp [h1]
 by_cases h2:cj=2
 ·by_cases h3:n=0 <;> simp [h2,h3]
 by_cases h3:cj=3
 ·simp [h3]
 ·simp [h1,h2,h3]
theorem jp(n br:Int)(pc:Bool)(cj ea:Int)(w:World)(n0:0<=n)(n1:n<=255):Calls Tryz.prog 202 #[.int .u8 n,.agg #[.int .i64 br,.bool pc,.int .i64 cj,.int .i64 ea]] w (Gives w (.int .u8 (dn n cj))):=by
 rcases rq n cj with ⟨h1,hs⟩ | ⟨h1,h2,h3,hs⟩ | ⟨h1,h2,h3,h4,hs⟩ | ⟨h1,h2,h3,hs⟩ | ⟨h1,h2,h3,hs⟩
 all_goals
  rw [hs];clear hs
  go_enter Tryz.func202,Tryz.ntmps202
  go_wp2;go_ret;exact ⟨af,AU _ _⟩
theorem tQ(n br:Int)(pc:Bool):(pc=true/\eB n br pc=1)\/(pc=false/\(n == 1)=false/\eB n br pc=0)\/(pc=false/\n=1/\(br == 4)=true/\eB n br pc=1)\/(pc=false/\n=1/\(br == 4)=false/\(br == 5)=true/\eB n br pc=2)\/(pc=false/\n=1/\(br == 4)=false/\(br == 5)=false/\eB n br pc=0):=by
 unfold eB
 cases pc with
 |true=>simp
 |false =>
  by_cases h1:n=1
  ·by_cases h2:br=4
   ·simp [h1,h2]
   ·by_cases h3:br=5 <;> simp [h1,h2,h3]
  ·simp [h1]
theorem kW(n br:Int)(pc:Bool)(cj ea:Int)(w:World)(n0:0<=n)(n1:n<=255):Calls Tryz.prog 203 #[.int .u8 n,.agg #[.int .i64 br,.bool pc,.int .i64 cj,.int .i64 ea]] w (Gives w (.int .u8 (eB n br pc))):=by
 rcases tQ n br pc with ⟨rfl,hs⟩ | ⟨rfl,h2,hs⟩ | ⟨rfl,rfl,h3,hs⟩ | ⟨rfl,rfl,h3,h4,hs⟩ | ⟨rfl,rfl,h3,h4,hs⟩
 all_goals
  rw [hs];clear hs
  go_enter Tryz.func203,Tryz.ntmps203
  go_wp2;go_ret;exact ⟨af,AU _ _⟩
end Go.Proofs.YtoeggiplcaegoaaGreatDoor
namespace Go.Proofs.YtoeggiplcaegoaaGreatDoor
def aM(T:List (Int × Int))(r:Int):Bool:=T.any fun p=>decide (p.1<=r) && decide (r<=p.2)
def dB:List (Int × Int)->Bool
 | []=>true
 | [p]=>decide (p.1<=p.2)
 | p :: q :: l=>decide (p.1<=p.2) && decide (p.2<q.1) && dB (q :: l)
theorem gy{p:Int × Int}{l:List (Int × Int)}(h:dB (p :: l)=true):p.1<=p.2/\dB l=true/\∀ q ∈ l,p.2<q.1:=by
 induction l generalizing p with
 |nil=>exact ⟨by simpa [dB] using h,rfl,fun q hq=>by cases hq⟩
 |cons q l ih =>
  simp only [dB,Bool.and_eq_true,decide_eq_true_eq] at h;obtain ⟨i1,_,i3⟩:=ih h.2;refine ⟨h.1.1,h.2,fun x hx=>?_⟩
  rcases List.mem_cons.1 hx with rfl | hx
  ·exact h.1.2
  ·have:=i3 x hx;omega
theorem wl:∀ {T:List (Int × Int)},dB T=true->∀ i (h:i<T.length),T[i].1<=T[i].2
 | [],_,i,h=>absurd h (Nat.not_lt_zero _)
 | p :: l,hu,0,_=>(gy hu).1
 | p :: l,hu,i+1,h=>wl (T:=l) (gy hu).2.1 i (by simpa using h)
theorem wm:∀ {T:List (Int × Int)},dB T=true->∀ i j (hi:i<j) (hj:j<T.length),(T[i]'(by omega)).2<T[j].1
 | [],_,i,j,_,hj=>absurd hj (Nat.not_lt_zero _)
 | p :: l,hu,0,j+1,_,hj=>(gy hu).2.2 _ (List.getElem_mem (by simpa using hj))
 | p :: l,hu,i+1,j+1,hi,hj=>wm (T:=l) (gy hu).2.1 i j (by omega) (by simpa using hj)
theorem pq{T:List (Int × Int)}{r:Int}(i:Nat)(h:i<T.length)(h1:T[i].1<=r)(h2:r<=T[i].2):aM T r=true :=
 List.any_eq_true.2 ⟨T[i],List.getElem_mem h,by simp [h1,h2]⟩
theorem pr{T:List (Int × Int)}{r:Int}(h:aM T r=true):∃ i,∃ h:i<T.length,T[i].1<=r/\r<=T[i].2:=by
 obtain ⟨p,hp,hh⟩:=List.any_eq_true.1 h;obtain ⟨i,hi,rfl⟩:=List.getElem_of_mem hp
 simp at hh
 exact ⟨i,hi,hh.1,hh.2⟩
theorem gA{T:List (Int × Int)}{r:Int}(h:∀ i (h:i<T.length),¬ (T[i].1<=r/\r<=T[i].2)):aM T r=false:=by
 cases ht:aM T r with
 |false=>rfl
 |true =>
  obtain ⟨i,hi,hh⟩:=pr ht;exact absurd hh (h i hi)
theorem oz{T:List (Int × Int)}{r:Int}(hu:dB T=true)(i:Nat)(hi:i<T.length)(BJ:∀ j (hj:j<i),(T[j]'(by omega)).2<r)(DE:r<=T[i].2):aM T r=decide (T[i].1<=r):=by
 by_cases h1:T[i].1<=r
 ·rw [decide_eq_true h1];exact pq i hi h1 DE
 ·rw [decide_eq_false h1];refine gA fun k hk hh=>?_
  rcases Nat.lt_trichotomy k i with h | h | h
  ·have:=BJ k h;omega
  ·subst h;omega
  ·have:=wm hu i k h hk;have:=wl hu i hi;omega
theorem ri{T:List (Int × Int)}{r:Int}(BJ:∀ j (hj:j<T.length),(T[j]'(by omega)).2<r):aM T r=false :=
 gA fun k hk hh=>by have:=BJ k hk;omega
def apart(T U:List (Int × Int)):Bool:=T.all fun p=>U.all fun q=>decide (p.2<q.1) || decide (q.2<p.1)
theorem jZ{T U:List (Int × Int)}{r:Int}(h:apart T U=true)(ht:aM T r=true):aM U r=false:=by
 refine gA fun k hk hh=>?_
 obtain ⟨i,hi,h1,h2⟩:=pr ht;have:=List.all_eq_true.1 (List.all_eq_true.1 h _ (List.getElem_mem hi)) _ (List.getElem_mem hk)
 simp at this
 omega
def AO(T U:List (Int × Int)):Bool:=T.all fun p=>U.any fun q=>decide (q.1<=p.1) && decide (p.2<=q.2)
theorem mS(a b r:Int):aM [(a,b)] r=(decide (a<=r) && decide (r<=b)):=by simp [aM]
def tControl:List (Int × Int):=[
 (0,9),(11,12),(14,31),(127,159),(173,173),(1564,1564),(6158,6158),(8203,8203),(8206,8207),(8232,8238),(8288,8303),
 (65279,65279),(65520,65531),(917504,917535),(917632,917759),(918000,921599)]
theorem ey:dB tControl=true:=by decide +kernel
theorem bG:tControl.length=16:=by decide +kernel
def tExtend:List (Int × Int):=[
 (768,879),(1155,1161),(1425,1469),(1471,1471),(1473,1474),(1476,1477),(1479,1479),(1552,1562),(1611,1631),(1648,1648),
 (1750,1756),(1759,1764),(1767,1768),(1770,1773),(1809,1809),(1840,1866),(1958,1968),(2027,2035),(2070,2073),(2075,2083),
 (2259,2273),(2275,2306),(2362,2362),(2364,2364),(2369,2376),(2381,2381),(2385,2391),(2402,2403),(2433,2433),(2492,2492),
 (2494,2494),(2497,2500),(2509,2509),(2519,2519),(2530,2531),(2561,2562),(2620,2620),(2625,2626),(2631,2632),(2635,2637),
 (2748,2748),(2753,2757),(2765,2765),(2876,2876),(2878,2879),(2881,2884),(2893,2893),(2902,2903),(3132,3132),(3134,3136),
 (3142,3144),(3146,3149),(3276,3277),(3390,3390),(3393,3396),(3405,3405),(3633,3633),(3636,3642),(3655,3662),(3761,3761),
 (3764,3772),(3864,3865),(3953,3966),(4957,4959),(6832,6862),(7616,7679),(8204,8204),(8400,8432),(12330,12335),(12441,12442),
 (42607,42610),(64286,64286),(65024,65039),(65056,65071),(127995,127999),(917536,917631),(917760,917999)]
theorem gB:dB tExtend=true:=by decide +kernel
theorem cn:tExtend.length=77:=by decide +kernel
def tPrepend:List (Int × Int):=[
 (1536,1541),(1757,1757),(1807,1807),(2192,2193),(2274,2274),(3406,3406),(69821,69821),(69837,69837)]
theorem ks:dB tPrepend=true:=by decide +kernel
theorem du:tPrepend.length=8:=by decide +kernel
def tSpacing:List (Int × Int):=[
 (2307,2307),(2363,2363),(2366,2368),(2377,2380),(2382,2383),(2434,2435),(2495,2496),(2503,2504),(2507,2508),(2563,2563),
 (2622,2624),(2691,2691),(2750,2752),(2761,2761),(2818,2819),(2880,2880),(2887,2888),(3073,3075),(3137,3140),(3330,3331),
 (3391,3392),(3398,3400),(3635,3635),(3763,3763),(3902,3903),(4155,4156)]
theorem gV:dB tSpacing=true:=by decide +kernel
theorem cG:tSpacing.length=26:=by decide +kernel
def tPict:List (Int × Int):=[
 (169,169),(174,174),(8252,8252),(8265,8265),(8482,8482),(8505,8505),(8596,8601),(8617,8618),(8986,8987),(9000,9000),(9096,9096),
 (9167,9167),(9193,9203),(9208,9210),(9410,9410),(9642,9643),(9654,9654),(9664,9664),(9723,9726),(9728,9733),(9735,9746),
 (9748,9861),(9872,9989),(9992,10002),(10004,10004),(10006,10006),(10013,10013),(10017,10017),(10024,10024),(10035,10036),
 (10052,10052),(10055,10055),(10060,10060),(10062,10062),(10067,10069),(10071,10071),(10083,10087),(10133,10135),(10145,10145),
 (10160,10160),(10175,10175),(10548,10549),(11013,11015),(11035,11036),(11088,11088),(11093,11093),(12336,12336),(12349,12349),
 (12951,12951),(12953,12953),(126976,127231),(127245,127247),(127279,127279),(127340,127345),(127358,127359),(127374,127374),
 (127377,127386),(127405,127461),(127489,127503),(127514,127514),(127535,127535),(127538,127546),(127548,127551),(127561,127994),
 (128000,128317),(128326,128591),(128640,128767),(128884,128895),(128981,129023),(129036,129039),(129096,129103),(129114,129119),
 (129160,129167),(129198,129279),(129292,129338),(129340,129349),(129351,129791),(130048,131069)]
theorem wu:dB tPict=true:=by decide +kernel
theorem fS:tPict.length=78:=by decide +kernel
def tCons:List (Int × Int):=[
 (2325,2361),(2392,2399),(2424,2431),(2453,2472),(2474,2480),(2482,2482),(2486,2489),(2524,2525),(2527,2527),(2544,2545),
 (2709,2728),(2730,2736),(2738,2739),(2741,2745),(2809,2809),(2837,2856),(2858,2864),(2866,2867),(2869,2873),(2908,2909),
 (2911,2911),(2929,2929),(3093,3112),(3114,3129),(3160,3162),(3349,3386)]
theorem jl:dB tCons=true:=by decide +kernel
theorem dg:tCons.length=26:=by decide +kernel
def tLink:List (Int × Int):=[
 (2381,2381),(2509,2509),(2765,2765),(2893,2893),(3149,3149),(3405,3405)]
theorem lD:dB tLink=true:=by decide +kernel
theorem dN:tLink.length=6:=by decide +kernel
def tJoin:List (Int × Int):=[
 (768,879),(1155,1159),(1425,1469),(1552,1562),(1611,1631),(2364,2364),(2385,2388),(2492,2492),(2748,2748),(2876,2876),
 (3132,3132),(6832,6845),(7616,7679),(8205,8205),(8400,8412),(12330,12335),(12441,12442),(65056,65071)]
theorem pt:dB tJoin=true:=by decide +kernel
theorem eW:tJoin.length=18:=by decide +kernel
def tWide:List (Int × Int):=[
 (4352,4447),(8986,8987),(9001,9002),(9193,9196),(9200,9200),(9203,9203),(9725,9726),(9748,9749),(9800,9811),(9855,9855),
 (9875,9875),(9889,9889),(9898,9899),(9917,9918),(9924,9925),(9934,9934),(9940,9940),(9962,9962),(9970,9971),(9973,9973),
 (9978,9978),(9981,9981),(9989,9989),(9994,9995),(10024,10024),(10060,10060),(10062,10062),(10067,10069),(10071,10071),
 (10133,10135),(10160,10160),(10175,10175),(11035,11036),(11088,11088),(11093,11093),(11904,11929),(11931,12019),(12032,12245),
 (12272,12287),(12289,12350),(12353,12438),(12441,12543),(12549,12591),(12593,12686),(12688,12771),(12784,12830),(12832,12871),
 (12880,19903),(19968,42124),(42128,42182),(43360,43388),(44032,55203),(63744,64255),(65040,65049),(65072,65106),(65108,65126),
 (65128,65131),(94176,94180),(94208,100343),(100352,101589),(110592,110882),(126980,126980),(127183,127183),(127374,127374),
 (127377,127386),(127488,127490),(127504,127547),(127552,127560),(127568,127569),(127584,127589),(127744,127776),(127789,127797),
 (127799,127868),(127870,127891),(127904,127946),(127951,127955),(127968,127984),(127988,127988),(127992,128062),(128064,128064),
 (128066,128252),(128255,128317),(128331,128334),(128336,128359),(128378,128378),(128405,128406),(128420,128420),(128507,128591),
 (128640,128709),(128716,128716),(128720,128722),(128725,128727),(128732,128735),(128747,128748),(128756,128764),(128992,129003),
 (129008,129008),(129292,129338),(129340,129349),(129351,129535),(129648,129660),(129664,129672),(129680,129725),(129727,129733),
 (129742,129755),(129760,129768),(129776,129784),(131072,196605),(196608,262141)]
theorem jm:dB tWide=true:=by decide +kernel
theorem dh:tWide.length=109:=by decide +kernel
def tFull:List (Int × Int):=[
 (12288,12288),(65281,65376),(65504,65510)]
theorem lE:dB tFull=true:=by decide +kernel
theorem dO:tFull.length=3:=by decide +kernel
def tHalf:List (Int × Int):=[
 (8361,8361),(65377,65470),(65474,65479),(65482,65487),(65490,65495),(65498,65500),(65512,65518)]
theorem pu:dB tHalf=true:=by decide +kernel
theorem eX:tHalf.length=7:=by decide +kernel
theorem a1:apart tSpacing tPrepend=true:=by decide +kernel
theorem a2:apart tControl [(13,13),(10,10),(8205,8205),(127462,127487)]=true:=by decide +kernel
theorem a3:apart tExtend [(13,13),(10,10),(8205,8205),(127462,127487)]=true:=by decide +kernel
end Go.Proofs.YtoeggiplcaegoaaGreatDoor
namespace Go.Proofs.YtoeggiplcaegoaaGreatDoor
open Go.RowKit Go.ChangeShapes Go.WideShapes
def HeldT(k:IntKind)(w:World)(v:Value)(T:List (Int × Int)):Prop :=
 ∃ ao cap,v=.slice ao T.length cap/\∀ i,i<T.length->∃ b off,ao=some ⟨b,off,none⟩/\b<w.heap.size/\w.cell? ⟨b,off+i * 2,none⟩=some (.int k (T.getD i (0,0)).1)/\w.cell? ⟨b,off+i * 2+1,none⟩=some (.int k (T.getD i (0,0)).2)
theorem HeldT.below{k:IntKind}{w w':World}{v:Value}{T:List (Int × Int)}(h:HeldT k w v T)(hb:Below w.heap.size w w'):HeldT k w' v T:=by
 obtain ⟨ao,cap,rfl,hc⟩:=h;refine ⟨ao,cap,rfl,fun i hi=>?_⟩;obtain ⟨b,off,rfl,hlt,h1,h2⟩:=hc i hi;exact ⟨b,off,rfl,by have:=hb.size;omega,(hb.cell (p:=⟨b,_,none⟩) hlt).trans h1,(hb.cell (p:=⟨b,_,none⟩) hlt).trans h2⟩
theorem HeldT.view{k:IntKind}{w:World}{v:Value}{T:List (Int × Int)}(h:HeldT k w v T):∃ ao cap,v=.slice ao T.length cap/\∀ i,i<T.length->∃ b off,ao=some ⟨b,off,none⟩/\b<w.heap.size/\w.cell? ⟨b,off+i * 2,none⟩=some (.int k (T.getD i (0,0)).1)/\w.cell? ⟨b,off+i * 2+1,none⟩=some (.int k (T.getD i (0,0)).2):=h
def az(k:IntKind)(T:List (Int × Int)):List Value:=T.flatMap fun p=>[.int k p.1,.int k p.2]
theorem oy(k:IntKind)(T:List (Int × Int)):(az k T).length=2 * T.length:=by
 induction T with
 | nil=>rfl
 | cons p T ih=>simp only [az,List.flatMap_cons,List.length_append,List.length_cons,List.length_nil] at *;omega
theorem gU(k:IntKind):∀ (T:List (Int × Int)) (i:Nat),i<T.length->(az k T)[i * 2]? = some (.int k (T.getD i (0,0)).1)/\(az k T)[i * 2+1]? = some (.int k (T.getD i (0,0)).2)
 |[],i,h=>absurd h (Nat.not_lt_zero _)
 |p :: T,0,_=>⟨rfl,rfl⟩
 |p :: T,i+1,h=>by
  have:=gU k T i (by simpa using h);rw [show (i+1) * 2=i * 2+1+1 by omega]
  simpa [az] using this
theorem bL{k:IntKind}{w:World}{g:Nat}{T:List (Int × Int)}{t:TypeId}{cap:Nat}(h:Has w g (az k T) t):HeldT k w (.slice (some ⟨g,0,none⟩) T.length cap) T:=by
 refine ⟨_,_,rfl,fun i hi=>⟨g,0,rfl,h.lt,?_,?_⟩⟩
 ·rw [Nat.zero_add];exact h.cell _ _ (gU k T i hi).1
 ·rw [Nat.zero_add];exact h.cell _ _ (gU k T i hi).2
def jk(T:List (Int × Int))(r:Int)(i:Nat):Bool:=decide (r<=(T.getD i (0,0)).2)
theorem fg{T:List (Int × Int)}{i:Nat}(h:i<T.length):T.getD i (0,0)=T[i]:=by simp [List.getD,List.getElem?_eq_getElem h]
theorem tL{T:List (Int × Int)}{r:Int}(hu:dB T=true):∀ a b,a<=b->b<T.length->jk T r a=true->jk T r b=true:=by
 intro a b hab hb h;unfold jk at *;rw [fg hb];rw [fg (by omega)] at h
 rcases Nat.lt_or_ge a b with hlt | K8
 ·have h1:=wm hu a b hlt hb;have h2:=wl hu b hb
  simp at h ⊢
  omega
 ·obtain rfl:a=b:=by omega
  exact h
theorem y8(w:World)(b1 b2:Nat)(ao:Option Addr)(n cap:Nat)(T:List (Int × Int))(r:Int)(hb1:w.cell? ⟨b1,0,none⟩=some (.slice ao n cap))(hb2:w.cell? ⟨b2,0,none⟩=some (.int .i32 r))(hh:HeldT .i32 w (.slice ao n cap) T)(i:Nat)(hi:i<T.length)(hl:T.length<=1000000) :
  Calls Tryz.prog 282 (#[.int .i64 i] ++ #[.pointer (some ⟨b1,0,none⟩),.pointer (some ⟨b2,0,none⟩)]) w (Gives w (.bool (jk T r i))):=by
 obtain ⟨ao',cap',e,hc⟩:=hh
 cases e
 obtain ⟨b,off,rfl,hb,h1,h2⟩:=hc i hi;unfold jk;generalize (T.getD i (0,0)).2=y at *;clear hc h1
 go_enter Tryz.func282,Tryz.ntmps282
 go_wp2
 go_quiet (fail)
 go_wp2;go_ret;exact ⟨af,(Below.refl _ _).drewN _⟩
theorem aX(v:Value)(T:List (Int × Int))(r:Int)(w:World)(hh:HeldT .i32 w v T)(hu:dB T=true)(hl:T.length<=1000000) :
  Calls Tryz.prog 242 #[v,.int .i32 r] w (Gives w (.bool (aM T r))):=by
 obtain ⟨ao,cap,rfl,hc⟩:=hh.view;obtain ⟨W,hW⟩:=ae ((w.alloc (.cells #[.slice ao T.length cap] 296)).alloc (.cells #[.int .i32 r] 21));have hb1:Has W w.heap.size [.slice ao T.length cap] 296:=by rw [hW];exact (Has.new w _ _).alloc _
 have hb2:Has W (w.heap.size+1) [.int .i32 r] 21:=by rw [hW];have:=Has.new (w.alloc (.cells #[.slice ao T.length cap] 296)) [.int .i32 r] 21;simpa using this
 have hl0:Below w.heap.size w W:=by rw [hW];exact (AU _ _).alloc (by simp) _
 have hs:=rh 282 #[.pointer (some ⟨w.heap.size,0,none⟩),.pointer (some ⟨w.heap.size+1,0,none⟩)] T.length (jk T r) W (enters_of Tryz.func282 (by kernel_rfl) rfl) (by omega)
  (fun w' hb i hi=>y8 w' w.heap.size (w.heap.size+1) ao T.length cap T r ((hb1.below hb hb1.lt).cell 0 _ rfl) ((hb2.below hb hb2.lt).cell 0 _ rfl) ((hh.below hl0).below hb) i hi hl) (tL hu)
 have HS:=ab hs;have HC:=ab hc;have HU:=ab hu;have HL:=ab hl0;have Bt:=ab hb1;have BY:=ab hb2;clear hs hc hu hl0 hb1 hb2 hh
 go_enter Tryz.func242,Tryz.ntmps242
 go_wp2_with fail
 rw [<-hW];refine HS.out.mono ?_;rintro e w' ⟨k,hk,rfl,BJ,DE,AY⟩;have hb1:=(Bt.out.below AY Bt.out.lt).cell 0 _ rfl;have hb2:=(BY.out.below AY BY.out.lt).cell 0 _ rfl;have hbl:Below w.heap.size w w':=HL.out.trans (AY.mono HL.out.size)
 by_cases Fp:k<T.length
 ·obtain ⟨b,off,rfl,hb,h1,h2⟩:=HC.out k Fp;have h1:=(hbl.cell (p:=⟨b,off+k * 2,none⟩) hb).trans h1;have he:aM T r=decide ((T.getD k (0,0)).1<=r):=by
   rw [fg Fp];refine oz HU.out k Fp (fun j hj=>?_) ?_
   ·have:=BJ j hj;unfold jk at this;rw [fg (by omega)] at this
    simpa using this
   ·have:=DE k (Nat.le_refl _) Fp;unfold jk at this;rw [fg Fp] at this
    simpa using this
  have HE:=ab he;clear he BJ DE h2 AY hW;generalize (T.getD k (0,0)).1=y at *;go_wp2
  go_quiet (fail)
  go_wp2;go_ret;exact ⟨al (by rw [HE.out];rfl),hbl.drewN _⟩
 ·have he:aM T r=false:=ri fun j hj=>by
   have:=BJ j (by omega);unfold jk at this;rw [fg hj] at this
   simpa using this
  have HE:=ab he;obtain rfl:k=T.length:=by omega
  clear he BJ DE AY hW;go_wp2
  go_quiet (fail)
  go_wp2;go_ret;exact ⟨al (by rw [HE.out];rfl),hbl.drewN _⟩
def okB(xs:List Int)(m:Nat):Bool:=(m != 1 || (decide (lo2 (xs.getD 0 0)<=xs.getD m 0) && decide (xs.getD m 0<=hi2 (xs.getD 0 0)))) && fI (xs.getD m 0)
def goF(xs:List Int)(lead:Int):Nat->Nat->Nat
 | 0,m=>m
 | f+1,m=>if (m:Int)<lead/\m<xs.length/\okB xs m=true then goF xs lead f (m+1) else m
def fw(xs:List Int)(lead:Int):Nat:=goF xs lead 4 1
theorem Aw(xs:List Int)(lead:Int)(f m:Nat)(h0:m<=xs.length)(h1:(m:Int)<=lead\/m<=1):m<=goF xs lead f m/\goF xs lead f m<=xs.length/\((goF xs lead f m:Int)<=lead\/goF xs lead f m<=1):=by
 induction f generalizing m with
 |zero=>exact ⟨Nat.le_refl _,h0,h1⟩
 |succ f ih =>
  unfold goF
  split
  ·rename_i h
   have:=ih (m+1) (by omega) (.inl (by omega));omega
  ·exact ⟨Nat.le_refl _,h0,h1⟩
theorem fJ(xs:List Int)(lead:Int)(h:0<xs.length):1<=fw xs lead/\fw xs lead<=xs.length/\((fw xs lead:Int)<=lead\/fw xs lead<=1):=Aw xs lead 4 1 h (.inr (by omega))
def sZ(v:Value):Prop:=∀ ao n c,v=.slice ao n c->n<=c
def eU(xs:List Int):Nat->Int
 | 0=>bY (xs.getD 0 0)
 | m+1=>eU xs m * 64+xs.getD (m+1) 0 % 64
abbrev G5:=Int × Int × Int × Int × Bool
def cO(xs:List Int)(p:Nat):G5 :=
 if aw (xs.getD p 0)=0 then (65533,p,1,p+1,true) else
 if (fw (xs.drop p) (aw (xs.getD p 0)):Int)=aw (xs.getD p 0) then (eU ((xs.drop p).take (fw (xs.drop p) (aw (xs.getD p 0)))) (fw (xs.drop p) (aw (xs.getD p 0)) - 1),p,fw (xs.drop p) (aw (xs.getD p 0)),p+fw (xs.drop p) (aw (xs.getD p 0)),false)
 else (65533,p,fw (xs.drop p) (aw (xs.getD p 0)),min (p+fw (xs.drop p) (aw (xs.getD p 0))+1:Int) xs.length,true)
theorem qP{k:IntKind}{w:World}{b off n cap:Nat}{xs:List Int}(h:Held k w (.slice (some ⟨b,off,none⟩) n cap) xs)(i j:Nat)(hb:b<w.heap.size)(hj:i+j<=xs.length)(c:Nat):Held k w (.slice (some ⟨b,off+i,none⟩) j c) ((xs.drop i).take j):=by
 have hl:((xs.drop i).take j).length=j:=by simp;omega
 have:=h.spots;rw [show (Value.slice (some ⟨b,off+i,none⟩) j c)=.slice (some ⟨b,off+i,none⟩) ((xs.drop i).take j).length c by rw [hl]];refine ik hb fun q hq=>?_
 rw [hl] at hq;obtain ⟨b',off',e,_,hc⟩:=this (i+q) (by omega)
 cases e
 rw [Nat.add_assoc,hc]
 simp [List.getD,List.getElem?_take,hq]
theorem sY{xs:List Int}(hr:∀ i,i<xs.length->0<=xs.getD i 0/\xs.getD i 0<=255)(p:Nat):∀ i,i<(xs.drop p).length->0<=(xs.drop p).getD i 0/\(xs.drop p).getD i 0<=255:=by
 intro i hi;have:=hr (p+i) (by simp at hi;omega)
 simpa [List.getD] using this
theorem zJ{xs:List Int}(hr:∀ i,i<xs.length->0<=xs.getD i 0/\xs.getD i 0<=255)(p:Nat):∀ i,i<(xs.take p).length->0<=(xs.take p).getD i 0/\(xs.take p).getD i 0<=255:=by
 intro i hi;have hi2:i<p/\i<xs.length:=by simp at hi;omega
 have:=hr i hi2.2
 simpa [List.getD,List.getElem?_take,hi2.1] using this
theorem Av(xs:List Int)(lead:Int)(f m:Nat):m<=goF xs lead f m:=by
 induction f generalizing m with
 |zero=>exact Nat.le_refl _
 |succ f ih =>
  unfold goF
  split
  ·have:=ih (m+1);omega
  ·exact Nat.le_refl _
def cd(xs:List Int)(p:Nat):Nat:=if aw (xs.getD p 0)=0 then 1 else fw (xs.drop p) (aw (xs.getD p 0))
theorem ef(xs:List Int)(p:Nat):1<=cd xs p:=by
 unfold cd
 split
 ·exact Nat.le_refl _
 ·exact Av _ _ _ _
theorem li(xs:List Int)(p:Nat)(hp:p<xs.length):p+cd xs p<=xs.length:=by
 unfold cd
 split
 ·omega
 ·have:=fJ (xs.drop p) (aw (xs.getD p 0)) (by simp;omega);rw [List.length_drop] at this;omega
def bZ(xs:List Int):Nat->Nat
 | 0=>0
 | k+1=>bZ xs k+cd xs (bZ xs k)
def bI(xs:List Int):Nat->List G5
 | 0=>[]
 | k+1=>bI xs k++[cO xs (bZ xs k)]
theorem dK(xs:List Int)(k:Nat):(bI xs k).length=k:=by
 induction k with
 | zero=>rfl
 | succ k ih=>simp [bI,ih]
theorem sW(xs:List Int){j k:Nat}(h:j<k):bZ xs j<bZ xs k:=by
 induction k with
 |zero=>omega
 |succ k ih =>
  have h1:=ef xs (bZ xs k);show bZ xs j<bZ xs k+cd xs (bZ xs k)
  rcases Nat.lt_or_ge j k with h | h
  ·have:=ih h;omega
  ·have:j=k:=by omega
   subst this;omega
theorem qO(xs:List Int){j k:Nat}(h:bZ xs j=bZ xs k):j=k:=by
 rcases Nat.lt_trichotomy j k with h1 | h1 | h1
 ·have:=sW xs h1;omega
 ·exact h1
 ·have:=sW xs h1;omega
theorem zI(xs:List Int)(k:Nat):k<=bZ xs k:=by
 induction k with
 | zero=>exact Nat.zero_le _
 | succ k ih=>have:=ef xs (bZ xs k);show k+1<=bZ xs k+cd xs (bZ xs k);omega
theorem nM(xs:List Int)(k i:Nat)(h:i<k):(bI xs k)[i]? = some (cO xs (bZ xs i)):=by
 induction k with
 |zero=>omega
 |succ k ih =>
  unfold bI
  rcases Nat.lt_or_ge i k with h1 | h1
  ·rw [List.getElem?_append_left (by rw [dK];exact h1)];exact ih h1
  ·have:i=k:=by omega
   subst this;rw [List.getElem?_append_right (by rw [dK];exact Nat.le_refl _),dK];simp
def jN(g:G5):List Value:=[.int .i32 g.1,.int .i64 g.2.1,.int .i64 g.2.2.1,.int .i64 g.2.2.2.1,.bool g.2.2.2.2]
def aP(l:List G5):List Value:=l.flatMap jN
theorem mF(l:List G5):(aP l).length=5 * l.length:=by
 induction l with
 | nil=>rfl
 | cons q l ih=>simp only [aP,List.flatMap_cons,List.length_append,jN,List.length_cons,List.length_nil] at *;omega
theorem jO:∀ (l:List G5) (i:Nat) (h:i<l.length),(aP l)[i * 5]? = some (.int .i32 l[i].1)/\(aP l)[i * 5+1]? = some (.int .i64 l[i].2.1)/\(aP l)[i * 5+2]? = some (.int .i64 l[i].2.2.1)/\(aP l)[i * 5+3]? = some (.int .i64 l[i].2.2.2.1)/\(aP l)[i * 5+4]? = some (.bool l[i].2.2.2.2)
 |[],i,h=>absurd h (Nat.not_lt_zero _)
 |q :: l,0,_=>⟨rfl,rfl,rfl,rfl,rfl⟩
 |q :: l,i+1,h=>by
  have:=jO l i (by simpa using h);rw [show (i+1) * 5=i * 5+5 by omega,show i * 5+5+1=i * 5+1+5 by omega,show i * 5+5+2=i * 5+2+5 by omega,show i * 5+5+3=i * 5+3+5 by omega,show i * 5+5+4=i * 5+4+5 by omega]
  simpa [aP,jN] using this
theorem vw(xs:List Int)(k:Nat):aP (bI xs (k+1))=aP (bI xs k)++jN (cO xs (bZ xs k)):=by
 unfold aP;rw [show bI xs (k+1)=bI xs k++[cO xs (bZ xs k)] from rfl,List.flatMap_append,List.flatMap_cons,List.flatMap_nil,List.append_nil]
def sX(w:World)(v:Value)(l:List G5):Prop:=∃ ao cap,v=.slice ao l.length cap/\∀ i (h:i<l.length),∃ b off,ao=some ⟨b,off,none⟩/\b<w.heap.size /\
 w.cell? ⟨b,off+i * 5,none⟩=some (.int .i32 l[i].1)/\w.cell? ⟨b,off+i * 5+1,none⟩=some (.int .i64 l[i].2.1)/\w.cell? ⟨b,off+i * 5+2,none⟩=some (.int .i64 l[i].2.2.1)/\w.cell? ⟨b,off+i * 5+3,none⟩=some (.int .i64 l[i].2.2.2.1)/\w.cell? ⟨b,off+i * 5+4,none⟩=some (.bool l[i].2.2.2.2)
theorem iK{w:World}{B e:Nat}{v:Value}{n:Nat}{l:List G5}(h:w.ownsRow B e 5 v n (aP l)):sX w v l:=by
 have hl:l.length=n:=by have:=h.1;rw [mF] at this;omega
 subst hl
 rcases h.2 with ⟨rfl,hn⟩ | ⟨g,cap,cur,rfl,hb,hg,h1,h2,h3,h4⟩
 ·have:l=[]:=List.eq_nil_of_length_eq_zero hn;subst this;exact ⟨none,0,rfl,fun i hi=>by simp at hi⟩
 ·refine ⟨some ⟨g,0,none⟩,cap,rfl,fun i hi=>⟨g,0,rfl,(Array.getElem?_eq_some_iff.1 hg).1,?_⟩⟩;obtain ⟨k0,k1,k2,k3,k4⟩:=jO l i hi;have c0:=h.cells (g:=g) rfl _ _ k0;have c1:=h.cells (g:=g) rfl _ _ k1;have c2:=h.cells (g:=g) rfl _ _ k2;have c3:=h.cells (g:=g) rfl _ _ k3;have c4:=h.cells (g:=g) rfl _ _ k4;rw [Addr.add_lit] at c0 c1 c2 c3 c4;simp only [Nat.zero_add] at *;exact ⟨c0,c1,c2,c3,c4⟩
theorem bd{P:Program}(w0:World){ops:Array Oper}{rest:List Oper}{o:Oper}{a:Act}{Q:Exit->Act->World->Prop}(hgd:o.guard=none)(s x:Operand)(t:TypeId)
  (ho:o.op=.call { callee:=.builtin .append,args:=#[s,x],argTypes:=#[t,t] })
  (base:Nat) (e:TypeId) (z:Value) (size bytes:Nat) (ht:P.underlying t=some (.slice e)) (CB:(P.info? e).map (fun i=>(i.zero,i.size,i.bytes))=some (some z,size,bytes)) (hzs:z.cells.size=size) (hsz:0<size)
  (v:Value) (n:Nat) (xs:List Value) (hs:a.eval s=v) (hown:w0.ownsRow base e size v n xs)
  (C:List Value) (m c N:Nat) (hN:w0.heap.size=N) (hx:a.eval x=.slice (some ⟨N,0,none⟩) m c) (hl:C.length=m * size) (h1:∀ u ∈ C,u.oneCell'=true)
  (hbytes:(n+m) * bytes<=140737488355328) (hb0:n+m<=140737488355328) (hbase:base<=w0.heap.size)
  (h:∀ v' w',w'.ownsRow base e size v' (n+m) (xs++C)->Below base w0 w'->(∀ g,g<w0.heap.size->v.ownBlock≠some g->w'.heap[g]? = w0.heap[g]?)->wpList P ops Q rest (a.put o.dst v') w') :
  wpList P ops Q (o :: rest) a (w0.alloc (.cells C.toArray e)):=by
 subst hN;obtain ⟨i0,hi,hz0,hz1,hz2⟩:=info_parts CB;refine wpList_append_own _ hgd s x t ho base e i0 z size bytes ht hi hz0 hz1 hz2 hzs hsz v n xs hs (hown.alloc _) ⟨w0.heap.size,0,none⟩ m c C hx (by omega) (il w0 C e) h1 (by unfold maxLen;omega) hbytes (by simp;omega) ?_;intro v' w' hown' hgrow _;refine h v' w' hown' (((Below.refl base w0).alloc hbase _).grown hgrow (by simp;omega) fun k hk=>((hown.alloc (.cells C.toArray e)).lt k hk).1) fun g hg hne=>?_
 exact (hgrow.block g (by simp;omega) (fun e=>hne e.symm)).trans ((AU w0 (.cells C.toArray e)).block g hg)
theorem zL(xs:List Int)(lead:Int)(f m:Nat):∀ j,m<=j->j<goF xs lead f m->okB xs j=true:=by
 induction f generalizing m with
 |zero=>intro j h1 h2;have:goF xs lead 0 m=m:=rfl;omega
 |succ f ih =>
  intro j h1 h2;unfold goF at h2
  split at h2
  ·rename_i h
   rcases Nat.lt_or_ge m j with h3 | h3
   ·exact ih (m+1) j h3 h2
   ·have:j=m:=by omega
    subst this;exact h.2.2
  ·omega
theorem td{xs:List Int}(h:okB xs 1=true):lo2 (xs.getD 0 0)<=xs.getD 1 0/\xs.getD 1 0<=hi2 (xs.getD 0 0)/\128<=xs.getD 1 0/\xs.getD 1 0<=191:=by
 unfold okB at h;simp only [Bool.and_eq_true,Bool.or_eq_true,decide_eq_true_eq,bne_self_eq_false,Bool.false_eq_true,false_or,tailB_true] at h;exact ⟨h.1.1,h.1.2,h.2.1,h.2.2⟩
theorem yF{xs:List Int}{m:Nat}(h:okB xs m=true):128<=xs.getD m 0/\xs.getD m 0<=191:=by
 unfold okB at h;simp only [Bool.and_eq_true,tailB_true] at h;exact h.2
def dm(xs:List Int)(k:Nat):List Int:=(bI xs k).map (·.1)
theorem gi(xs:List Int)(k:Nat):dm xs (k+1)=dm xs k++[(cO xs (bZ xs k)).1]:=by
 unfold dm;rw [show bI xs (k+1)=bI xs k++[cO xs (bZ xs k)] from rfl,List.map_append]
 rfl
theorem Tryz.info21u:(Tryz.prog.info? 21).map (fun i=>(i.zero,i.size,i.bytes))=some (some (.int .i32 0),1,4):=by kernel_rfl
def zK(w:World)(xs:List Int)(e:Ending)(w':World):Prop:=∃ k v',e=.returned v'/\bZ xs k=xs.length/\w'.ownsRow w.heap.size 21 1 v' k ((dm xs k).map (Value.int .i32))/\Below w.heap.size w w'
def qN(xs:List Int)(k:Nat):G5:=if k=0 then (0,0,0,0,false) else cO xs (bZ xs (k - 1))
def nJ(xs:List Int)(k:Nat):Int:=if (qN xs k).2.2.2.2=true/\1<aw (xs.getD (bZ xs (k - 1)) 0) then (qN xs k).2.2.1 else 0
end Go.Proofs.YtoeggiplcaegoaaGreatDoor
